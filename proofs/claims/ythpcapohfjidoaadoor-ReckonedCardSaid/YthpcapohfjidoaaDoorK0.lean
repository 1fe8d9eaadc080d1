/- Plain facts on digits and bytes, of no program. -/
import Derived.Lib.ItoaNum
import Derived.WalkKit
namespace Go.Proofs.YthpcapohfjidoaaDoor
open Go.RowKit

theorem hide {p : Prop} (h : p) : Hid p := h
theorem ret_int {k : IntKind} {a b : Int} (h : a = b) : Ending.returned (.int k a) = .returned (.int k b) := by rw [h]
theorem ret_str {a b : ByteArray} (h : a = b) : Ending.returned (.string a) = .returned (.string b) := by rw [h]
theorem ret_bool {a b : Bool} (h : a = b) : Ending.returned (.bool a) = .returned (.bool b) := by rw [h]
theorem ret_ib {k : IntKind} {a a' : Int} {b b' : Bool} (h : a = a') (h2 : b = b') : Ending.returned (.tuple #[.int k a, .bool b]) = .returned (.tuple #[.int k a', .bool b']) := by rw [h, h2]
theorem unhide {p : Prop} (h : Hid p) : p := h

def digStr (n : Nat) : ByteArray := ⟨(Lib.decDigits n).toArray⟩
def itoaStr (n : Int) : ByteArray := ⟨(Lib.itoa n).toArray⟩

theorem itoaStr_nat (n : Nat) : itoaStr (n : Int) = digStr n := by
  unfold itoaStr digStr Lib.itoa
  rw [if_neg (by omega)]; simp

theorem digit_extract_fin : ∀ i : Fin 10, (({ data := #[48, 49, 50, 51, 52, 53, 54, 55, 56, 57] } : ByteArray).extract i.val (i.val + 1)) = ⟨#[UInt8.ofNat (48 + i.val)]⟩ := by decide +kernel

theorem digit_cons (m : Nat) (s : List UInt8) :
    (({ data := #[48, 49, 50, 51, 52, 53, 54, 55, 56, 57] } : ByteArray).extract (m % 10) (m % 10 + 1) ++ { data := s.toArray }) = ⟨(UInt8.ofNat (48 + m % 10) :: s).toArray⟩ := by
  have h := digit_extract_fin ⟨m % 10, by omega⟩
  simp only at h
  rw [h]
  apply ByteArray.ext
  simp

theorem dec_small {m : Nat} (h : m / 10 = 0) : Lib.decDigits m = [UInt8.ofNat (48 + m % 10)] := by
  rw [Lib.decDigits, dif_pos (by omega), Nat.mod_eq_of_lt (by omega)]
theorem dec_big {m : Nat} (h : m / 10 ≠ 0) : Lib.decDigits m = Lib.decDigits (m / 10) ++ [UInt8.ofNat (48 + m % 10)] := by
  rw [Lib.decDigits, dif_neg (by omega)]

theorem nDigits_le (k u : Nat) (h : u < 10 ^ (k + 1)) : Lib.nDigits u ≤ k + 1 := by
  induction k generalizing u with
  | zero => rw [Lib.nDigits_small (by simpa using h)]; exact Nat.le_refl _
  | succ k ih =>
    by_cases h2 : u < 10
    · rw [Lib.nDigits_small h2]; omega
    · rw [Lib.nDigits_big h2]
      have := ih (u / 10) (by rw [Nat.pow_succ] at h; omega)
      omega
theorem dec_len (n : Nat) (h : (n : Int) ≤ 9223372036854775808) : (Lib.decDigits n).length ≤ 19 := by
  rw [Lib.decDigits_length]
  exact nDigits_le 18 n (by simp only [Nat.reducePow, Nat.reduceAdd]; omega)
theorem digStr_size (n : Nat) : (digStr n).size = (Lib.decDigits n).length := by simp [digStr, ByteArray.size]
theorem minus_cons (l : List UInt8) : (({ data := #[45] } : ByteArray) ++ { data := l.toArray }) = ⟨(45 :: l).toArray⟩ := by
  apply ByteArray.ext
  simp
theorem itoaStr_min : itoaStr (-9223372036854775808) = ⟨#[45, 57, 50, 50, 51, 51, 55, 50, 48, 51, 54, 56, 53, 52, 55, 55, 53, 56, 48, 56]⟩ := by
  unfold itoaStr Lib.itoa
  rw [if_pos (by omega), show (-9223372036854775808 : Int).natAbs = 9223372036854775808 from rfl]
  simp only [dec_big, dec_small, ne_eq, Nat.reduceDiv, Nat.reduceMod, Nat.reduceAdd, Nat.reduceEqDiff, not_false_eq_true]
  rfl
end Go.Proofs.YthpcapohfjidoaaDoor
