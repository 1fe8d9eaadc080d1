/- New and Stack. -/
import Derived.Test.YthpcapohfjidoaaDoorS0
import Derived.Test.YthpcapohfjidoaaDoorK0
import Derived.Test.YthpcapohfjidoaaDoorProg
import Derived.Test.YthpcapohfjidoaaDoorShelf
import Derived.WalkKit
import Derived.WalkSpells
import Derived.WalkLawsBesides
namespace Go.Proofs.YthpcapohfjidoaaDoor
open Go.RowKit

theorem new_any (w : World) :
    Calls Tryd.prog 5 #[] w fun r w' => r = .returned (.pointer (some ⟨w.heap.size, 0, none⟩)) ∧ w' = w.alloc (.cells #[.slice none 0 0, .slice none 0 0, .slice none 0 0, .int .i64 0] 33) := by
  go_enter Tryd.func5, Tryd.ntmps5
  go_wp2
  go_ret
  exact ⟨rfl, rfl⟩

/-- Stack: a list of its own. -/
theorem stack_any (w : World) (mb n : Nat) (vS : Value) (S : List Int) (h0 : w.cell? ⟨mb, 0, none⟩ = some vS) (hs : w.ownsRow 0 3 1 vS n (S.map (Value.int .i64))) (hn : n ≤ 16) :
    Calls Tryd.prog 9 #[.pointer (some ⟨mb, 0, none⟩)] w fun r w' => ∃ v, r = .returned v ∧ w'.ownsRow w.heap.size 3 1 v n (S.map (Value.int .i64)) ∧ Below w.heap.size w w' := by
  have hl : S.length = n := by simpa using hs.1
  rcases hs.2 with ⟨rfl, rfl⟩ | ⟨g, cap, cur, rfl, hg⟩
  · have HS := hide hl
    clear hl hs
    go_enter Tryd.func9, Tryd.ntmps9
    go_wp2_with fail
    refine (Tryd.slices_Clone_int_nil 0 0 _).mono ?_
    rintro e w' ⟨rfl, rfl⟩
    go_wp2
    go_ret
    refine ⟨_, rfl, ?_, Below.refl _ _⟩
    rw [List.length_eq_zero_iff.1 (unhide HS)]
    exact World.ownsRow_nil _ _ _ _
  · have hc : ∀ j, j < S.length → w.cell? ⟨g, 0 + j, none⟩ = some (.int .i64 (S.getD j 0)) := fun j hj => by
      have := hs.cells (g := g) rfl j (.int .i64 S[j]) (by rw [List.getElem?_map, List.getElem?_eq_getElem hj]; rfl)
      rw [add_lit] at this
      rw [this, List.getD_eq_getElem?_getD, List.getElem?_eq_getElem hj]
      rfl
    have HC := hide hc
    have HS := hide hl
    clear hc hl hs hg
    go_enter Tryd.func9, Tryd.ntmps9
    go_wp2_with fail
    refine (Tryd.slices_Clone_int g 0 n cap S _ (by rw [unhide HS]; exact Nat.le_refl _) (by omega) (unhide HC)).mono ?_
    rintro e w' ⟨v', rfl, ho, _, hb⟩
    have HO := hide ho
    have HB := hide hb
    clear ho hb
    go_wp2
    go_ret
    refine ⟨v', rfl, ?_, unhide HB⟩
    have := unhide HO
    rwa [List.take_of_length_le (by rw [unhide HS]; exact Nat.le_refl _)] at this
end Go.Proofs.YthpcapohfjidoaaDoor
