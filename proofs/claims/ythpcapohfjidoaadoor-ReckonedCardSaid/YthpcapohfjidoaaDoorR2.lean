/- A run's steps: countStep, lay, doPrimitive. -/
import Derived.Test.YthpcapohfjidoaaDoorC2
import Derived.Test.YthpcapohfjidoaaDoorP7
namespace Go.Proofs.YthpcapohfjidoaaDoor
open Go.RowKit

namespace L
def countStep (s : RunS) : RunS × Int := if s.steps = 1000 then (s, 14) else ({ s with steps := s.steps + 1 }, 0)
end L

set_option maxRecDepth 100000 in
theorem countStep_any (w : World) (mb rb : Nat) (vO vB vW vS vR vT : Value) (s : L.RunS) (hrun : RunAt w mb rb vO vB vW vS vR vT s) (hst : s.steps ≤ 1000) :
    Calls Tryd.prog 18 #[.pointer (some ⟨rb, 0, none⟩)] w fun r w' => r = .returned (.int .i64 (L.countStep s).2) ∧ RunAt w' mb rb vO vB vW vS vR vT (L.countStep s).1 ∧ Mv (Foot mb rb vS vR vT) w w' := by
  have h3 : w.cell? ⟨rb, 3, none⟩ = some (.int .i64 s.steps) := cell_of_block hrun.r rfl
  have f3 : w.frozen? ⟨rb, 3, none⟩ = false := frozen_of_block 3 hrun.r
  have Hrun := hide hrun
  clear hrun
  by_cases hs : s.steps = 1000
  · have Hc := hide (show L.countStep s = (s, 14) from if_pos hs)
    have hb : ((s.steps : Int) == 1000) = true := by rw [beq_iff_eq]; omega
    clear hs
    go_enter Tryd.func18, Tryd.ntmps18
    go_wp2
    go_ret
    rw [unhide Hc]
    exact ⟨rfl, unhide Hrun, Mv.refl _ _⟩
  · have Hc := hide (show L.countStep s = ({ s with steps := s.steps + 1 }, 0) from if_neg hs)
    have hb : ((s.steps : Int) == 1000) = false := by rw [beq_eq_false_iff_ne]; omega
    clear hs
    go_enter Tryd.func18, Tryd.ntmps18
    go_wp2
    go_ret
    rw [unhide Hc]
    have hr := unhide Hrun
    refine ⟨rfl, ?_, (Mv.refl _ _).setCell (.inl (.inr (.inl rfl))) _⟩
    have hset := set_block hr.r 3 (.int .i64 ((s.steps : Int) + 1))
    have hoth : ∀ k, k ≠ rb → (w.setCell ⟨rb, 3, none⟩ (.int .i64 ((s.steps : Int) + 1))).heap[k]? = w.heap[k]? := fun k hk => Below.heap_setCell _ _ _ _ hk
    refine ⟨(hoth mb (ne_of_type hr.m hr.r (by decide))).trans hr.m, hset, ?_, ?_, ?_, ?_, hr.ap, hr.sl, hr.rl, hr.ol, hr.wl, hr.si, hr.ri⟩
    · exact owns_kept hr.st fun k e => hoth k fun h => own_ne_of_type hr.st hr.r (by decide) (h ▸ e)
    · exact owns_kept hr.as fun k e => hoth k fun h => own_ne_of_type hr.as hr.r (by decide) (h ▸ e)
    · exact owns_kept hr.ot fun k e => hoth k fun h => own_ne_of_type hr.ot hr.r (by decide) (h ▸ e)
    · exact owns_kept hr.wd fun k e => hoth k fun h => own_ne_of_type hr.wd hr.r (by decide) (h ▸ e)

set_option maxRecDepth 100000 in
theorem lay_any (w : World) (mb rb : Nat) (vO vB vW vS vR vT : Value) (s : L.RunS) (n : Int) (hrun : RunAt w mb rb vO vB vW vS vR vT s) (hn : inI64 n) :
    Calls Tryd.prog 21 #[.pointer (some ⟨rb, 0, none⟩), .int .i64 n] w fun r w' => r = .returned (.int .i64 (L.commit s 0 0 ⟨[n], [], [], 0⟩).2) ∧
      ∃ v1 v2 v3, RunAt w' mb rb vO vB vW v1 v2 v3 (L.commit s 0 0 ⟨[n], [], [], 0⟩).1 ∧ Mv (Foot mb rb vS vR vT) w w' ∧ Fresh w (Foot mb rb vS vR vT) (Foot mb rb v1 v2 v3) := by
  have hb : Below w.heap.size w (w.alloc (Obj.cells #[Value.int .i64 n] 3)) := (Below.refl _ _).alloc (Nat.le_refl _) _
  have hc := commit_any (w.alloc (Obj.cells #[Value.int .i64 n] 3)) mb rb vO vB vW vS vR vT (.agg #[.slice (some ⟨w.heap.size, 0, none⟩) 1 1, .slice none 0 0, .string ⟨#[]⟩]) s 0 0 w.heap.size ⟨[n], [], [], 0⟩ (hrun.below hb) (fun k hk => hrun.lt k (.inl hk))
    ⟨_, _, rfl, src_new w [Value.int .i64 n] 3 rfl rfl, Src.nil _, own_at (Nat.le_refl _), own_none⟩ (Nat.zero_le _) (Nat.zero_le _) (by simp) (by simp) (by simp) (by simpa using hn) (by simp)
  have Hc := hide hc
  have Hb := hide hb
  have Hrun := hide hrun
  clear hc hb hrun hn
  generalize L.commit s 0 0 ⟨[n], [], [], 0⟩ = out at *
  go_enter Tryd.func21, Tryd.ntmps21
  go_wp2_with fail
  refine (unhide Hc).mono ?_
  rintro e w' ⟨rfl, v1, v2, v3, h1, h2, h3⟩
  have H := hide (And.intro h1 (And.intro h2 h3))
  clear h1 h2 h3
  go_wp2
  go_ret
  refine ⟨rfl, v1, v2, v3, (unhide H).1, ?_, ?_⟩
  · exact (Mv.of_below (unhide Hb) _).trans (Fresh.refl _ _) (unhide H).2.1
  · exact (Fresh.refl _ _).trans (unhide Hb).size (unhide H).2.2
end Go.Proofs.YthpcapohfjidoaaDoor
