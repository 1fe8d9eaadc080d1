/- What the words of the language lay is in range, and little, of no program. -/
import Derived.Test.YthpcapohfjidoaaDoorS0
import Derived.Test.YthpcapohfjidoaaDoorK0
namespace Go.Proofs.YthpcapohfjidoaaDoor
open Go.RowKit

theorem in_wrap (x : Int) : inI64 (wrap64 x) := by unfold inI64 wrap64; omega
theorem in_bits (o : BinOp) (x y : Int) : inI64 (bits o .i64 x y) := by
  unfold bits
  rw [IntKind.wrap_i64]
  unfold inI64
  omega
theorem in_truth (b : Bool) : inI64 (L.truth b) := by unfold L.truth inI64; split <;> omega
theorem in_tmod {x : Int} (h : inI64 x) (y : Int) : inI64 (x.tmod y) := by
  have h1 : (x.tmod y).natAbs ≤ x.natAbs := by rw [Int.natAbs_tmod]; exact Nat.mod_le _ _
  unfold inI64 at *
  by_cases hx : 0 ≤ x
  · have := Int.tmod_nonneg y hx
    omega
  · have h2 := Int.tmod_nonneg y (show 0 ≤ -x by omega)
    rw [Int.neg_tmod] at h2
    omega

theorem itoa_len' (x : Int) (h0 : -9223372036854775808 ≤ x) (h1 : x ≤ 9223372036854775807) : (Lib.itoa x).length ≤ 20 := by
  unfold Lib.itoa
  split
  · have := dec_len x.natAbs (by omega)
    simp; omega
  · have := dec_len x.toNat (by omega)
    omega

/-- What is laid is in range, and at most three; what is told is short. -/
def Modest' (e : L.Eff) : Prop := e.lays.length ≤ 3 ∧ e.aside.length ≤ 3 ∧ e.tells.length ≤ 100 ∧ (∀ x ∈ e.lays, inI64 x) ∧ (∀ x ∈ e.aside, inI64 x)

theorem ite_modest {c : Prop} [Decidable c] {a b : L.Eff} (h1 : Modest' a) (h2 : Modest' b) : Modest' (if c then a else b) := by split <;> assumption

theorem plan_modest (n : List UInt8) (x y z a d : Int) (hx : inI64 x) (hy : inI64 y) (hz : inI64 z) (ha : inI64 a) (hd : inI64 d) : Modest' (L.planOf n x y z a d) := by
  have hl := itoa_len' x hx.1 hx.2
  unfold L.planOf
  repeat' (refine ite_modest ?_ ?_)
  all_goals
    refine ⟨by simp, by simp, ?_, ?_, ?_⟩
    · first
        | (simp; done)
        | (simp; omega)
    · simp only [List.mem_cons, List.not_mem_nil, or_false, forall_eq_or_imp, forall_eq, false_implies, implies_true]
      try first
        | exact in_wrap _
        | exact in_bits _ _ _
        | exact in_truth _
        | exact in_tmod hx _
        | assumption
        | exact ⟨by assumption, by assumption⟩
        | exact ⟨by assumption, by assumption, by assumption⟩
    · simp only [List.mem_cons, List.not_mem_nil, or_false, forall_eq, false_implies, implies_true]
      try assumption
end Go.Proofs.YthpcapohfjidoaaDoor
