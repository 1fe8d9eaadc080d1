/- step, at whatever run in memory and a word that is neither bold nor one's own: what stepPlain of the plain terms says. -/
import Derived.Test.YthpcapohfjidoaaDoorR4
import Derived.Test.YthpcapohfjidoaaDoorR5
import Derived.Test.YthpcapohfjidoaaDoorR6
import Derived.Test.YthpcapohfjidoaaDoorP8
namespace Go.Proofs.YthpcapohfjidoaaDoor
open Go.RowKit

theorem do_any (w : World) (mb rb : Nat) (vO vB vW vS vR vT : Value) (s : L.RunS) (l : List UInt8) (hrun : RunAt w mb rb vO vB vW vS vR vT s) (htab : TabOk w) :
    Calls Tryd.prog 19 #[.pointer (some ⟨rb, 0, none⟩), meansAt l] w fun r w' => r = .returned (.int .i64 (L.doWord s l).2) ∧ Goes mb rb vO vB vW vS vR vT (L.doWord s l).1 w w' := by
  unfold meansAt L.doWord
  cases hf : L.find l with
  | some p =>
    have hp := List.mem_of_find?_eq_some hf
    exact do_prim w rb ⟨p.name.toArray⟩ p.takes p.aside p.group _ (fun w' => Goes mb rb vO vB vW vS vR vT (L.doPrim s p).1 w w') (hide fun W hb =>
      (doPrim_any W mb rb vO vB vW vS vR vT s p hp (hrun.below hb) (tabIs_of_block htab (hb.block _ (tab_lt htab)))).mono fun r w' h => ⟨h.1, Goes.after hb h.2⟩)
  | none =>
    cases hn : L.number l with
    | some n => exact do_num w rb n _ (fun w' => Goes mb rb vO vB vW vS vR vT (L.commit s 0 0 ⟨[n], [], [], 0⟩).1 w w') (hide (lay_any w mb rb vO vB vW vS vR vT s n hrun (L.number_in hn)))
    | none => exact (do_nil w rb).mono fun r w' h => ⟨h.1, by rw [h.2]; exact Goes.stay hrun (Below.refl _ _)⟩

theorem step_any (w : World) (mb rb : Nat) (vB vW vS vR vT : Value) (s : L.RunS) (l : List UInt8) (hrun : RunAt w mb rb (.slice none 0 0) vB vW vS vR vT s) (hst : s.steps ≤ 1000) (htab : TabOk w) (hF : ¬ Foot mb rb vS vR vT 0)
    (hl : s.words[s.pos]? = some l) (hb : L.isBold l = false) :
    Calls Tryd.prog 16 #[.pointer (some ⟨rb, 0, none⟩)] w fun r w' => r = .returned (.int .i64 (L.stepPlain s l).2) ∧ Goes mb rb (.slice none 0 0) vB vW vS vR vT (L.stepPlain s l).1 w w' := by
  have hcount := countStep_any w mb rb (.slice none 0 0) vB vW vS vR vT s hrun hst
  unfold L.stepPlain
  by_cases hc : (L.countStep s).2 ≠ 0
  · rw [if_pos hc]
    exact step_stop w rb _ (by rw [bne_iff_ne]; exact hc) (fun w' => Goes mb rb (.slice none 0 0) vB vW vS vR vT (L.countStep s).1 w w') (hide (hcount.mono fun r w' h => ⟨h.1, _, _, _, h.2.1, h.2.2, Fresh.refl _ _⟩))
  · rw [if_neg hc]
    have hs : s.steps ≠ 1000 := fun e => hc (by unfold L.countStep; rw [if_pos e]; exact fun h => by cases h)
    have hcs : L.countStep s = ({ s with steps := s.steps + 1 }, 0) := if_neg hs
    rw [hcs] at hcount ⊢
    have hposlt : s.pos < s.words.length := (List.getElem?_eq_some_iff.1 hl).1
    rcases owns_cases hrun.wd with ⟨_, h0, _⟩ | ⟨gW, capW, rfl, _⟩
    · omega
    generalize hs1 : ({ s with steps := s.steps + 1 } : L.RunS) = s1 at *
    have hw1 : s1.words = s.words := by rw [← hs1]
    have hp1 : s1.pos = s.pos := by rw [← hs1]
    have hsame := L.doWord_same s1 l
    refine (step_walk w rb mb gW s.words.length capW s.pos ⟨l.toArray⟩ (meansAt l) (L.doWord s1 l).2 (fun w1 w' => Goes mb rb (.slice none 0 0) vB (.slice (some ⟨gW, 0, none⟩) s.words.length capW) vS vR vT (L.doWord s1 l).1 w1 w')
      (fun w1 => RunAt w1 mb rb (.slice none 0 0) vB (.slice (some ⟨gW, 0, none⟩) s.words.length capW) vS vR vT s1 ∧ Mv (Foot mb rb vS vR vT) w w1) hposlt (hide ?_) (hide ?_) (hide ?_)).mono ?_
    · refine hcount.mono fun r w' h => ⟨h.1, ?_, h.2⟩
      have hr := h.2.1
      rw [← hw1] at hr
      have := hr.reads (by rw [hw1, hp1]; exact hl)
      rw [hw1, hp1] at this
      exact this
    · intro w1 W hq hbW
      have hm := hq.1.below hbW
      have := meaning_plain W mb ⟨l.toArray⟩ (cell_of_block hm.m rfl) (by simpa using hb)
      simpa using this
    · intro w1 W hq hbW
      have hm := hq.1.below hbW
      have ht1 := tab_next htab hF hq.2
      refine (do_any W mb rb _ vB _ vS vR vT s1 l hm (tabIs_of_block ht1 (hbW.block _ (tab_lt ht1)))).mono fun r w' h => ⟨h.1, ?_, Goes.after hbW h.2⟩
      obtain ⟨v1, v2, v3, hr, _, _⟩ := h.2
      have hwd : (L.doWord s1 l).1.words = s.words := hsame.1.trans hw1
      have hpd : (L.doWord s1 l).1.pos = s.pos := hsame.2.1.trans hp1
      rw [← hwd] at hr
      have := hr.reads (by rw [hwd, hpd]; exact hl)
      rw [hwd, hpd] at this
      exact this
    · rintro r w' ⟨rfl, w1, hq, hg⟩
      exact ⟨rfl, Goes.from hq.2 hg⟩
end Go.Proofs.YthpcapohfjidoaaDoor
