/- What the small functions of the program answer: isBold, truth, divide. -/
import Derived.Test.YthpcapohfjidoaaDoorProg
import Derived.Test.YthpcapohfjidoaaDoorK0
import Derived.Test.YthpcapohfjidoaaDoorL0
import Derived.WalkKit
import Derived.WalkSpells
import Derived.WalkLawsBesides
namespace Go.Proofs.YthpcapohfjidoaaDoor
open Go.RowKit

theorem bool_true {b : Bool} (h : b = true) : Ending.returned (.bool b) = .returned (.bool true) := by rw [h]

set_option maxHeartbeats 400000 in
theorem isBold_any (s : ByteArray) (w : World) :
    Calls Tryd.prog 25 #[.string s] w fun e w' => e = .returned (.bool (L.isBold s.toList)) ∧ w' = w := by
  go_enter Tryd.func25, Tryd.ntmps25
  go_wp2
  all_goals
    go_ret
    refine ⟨?_, rfl⟩
    first
      | (simp only [L.isBold, L.boldNames, List.any_cons, List.any_nil, Bool.or_false, Bool.false_or, Bool.true_or, *]; rfl)
      | (exfalso; simp_all; done)
end Go.Proofs.YthpcapohfjidoaaDoor
