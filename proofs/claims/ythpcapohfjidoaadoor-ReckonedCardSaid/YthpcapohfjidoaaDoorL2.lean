/- Numbers as they are written, in plain terms, of no program. -/
import Derived.Lib.Strings
import Derived.WalkKit
namespace Go.Proofs.YthpcapohfjidoaaDoor
namespace L

def isDigit (c : UInt8) : Bool := decide (48 ≤ c.toNat) && decide (c.toNat ≤ 57)
def digVal (l : List UInt8) : Nat := l.foldl (fun n c => n * 10 + (c.toNat - 48)) 0
/-- The number that a word is, if it is one as it is written. -/
def number (l : List UInt8) : Option Int :=
  if (Lib.trimPrefix l [45]).length = 0 ∨ 18 < (Lib.trimPrefix l [45]).length ∨ (Lib.trimPrefix l [45]).all isDigit = false then none
  else some (if Lib.hasPrefix l [45] then -(digVal (Lib.trimPrefix l [45]) : Int) else digVal (Lib.trimPrefix l [45]))

theorem digVal_snoc (l : List UInt8) (c : UInt8) : digVal (l ++ [c]) = digVal l * 10 + (c.toNat - 48) := by simp [digVal]
theorem digFold_lt : ∀ (l : List UInt8) (n : Nat), l.all isDigit = true → l.foldl (fun n c => n * 10 + (c.toNat - 48)) n < (n + 1) * 10 ^ l.length
  | [], n, _ => by simp
  | c :: l, n, h => by
    simp only [List.all_cons, Bool.and_eq_true, isDigit, decide_eq_true_eq] at h
    have h1 := digFold_lt l (n * 10 + (c.toNat - 48)) h.2
    have h2 : (n * 10 + (c.toNat - 48) + 1) * 10 ^ l.length ≤ ((n + 1) * 10) * 10 ^ l.length := Nat.mul_le_mul_right _ (by omega)
    rw [List.foldl_cons, List.length_cons, Nat.pow_succ, Nat.mul_comm (10 ^ l.length) 10, ← Nat.mul_assoc]
    omega
theorem digVal_lt (l : List UInt8) (h : l.all isDigit = true) : digVal l < 10 ^ l.length := by
  have := digFold_lt l 0 h
  simpa [digVal] using this
theorem pow_le (k : Nat) (h : k ≤ 18) : 10 ^ k ≤ 1000000000000000000 := Nat.le_trans (Nat.pow_le_pow_right (by omega) h) (by decide)
theorem pow_le17 (k : Nat) (h : k ≤ 17) : 10 ^ k ≤ 100000000000000000 := Nat.le_trans (Nat.pow_le_pow_right (by omega) h) (by decide)
end L
end Go.Proofs.YthpcapohfjidoaaDoor
