/- What is proved: Reckoned answers true at every four numbers, on the tables of the library as their text lays them. No condition besides. -/
import Derived.Test.YtgnlokmeohffaaaDoorZ0B1
namespace Go.Proofs.YtgnlokmeohffaaaDoor
open Go.RowKit

theorem wf_bounds {a : Int} (h : (Lit.int .i64 a).wf = true) : -9223372036854775808 ≤ a ∧ a ≤ 9223372036854775807 := by
  simp only [Lit.wf, IntKind.min, IntKind.max, IntKind.signed, IntKind.bits, Bool.and_eq_true, decide_eq_true_eq, if_true] at h
  omega

/-- Reckoned, as it is given. -/
theorem reckoned_said : Rows.ReckonedCardSaid :=
  Reckoned.card_holds fun a b c how W _ _ _ h3 htab => reckoned_walk a b c how W htab (wf_bounds h3).1 (wf_bounds h3).2
end Go.Proofs.YtgnlokmeohffaaaDoor
