/- doPrimitive, at whatever run in memory: what doPrim of the plain terms says. -/
import Derived.Test.YthpcapohfjidoaaDoorG0
import Derived.Test.YthpcapohfjidoaaDoorR3a
import Derived.Test.YthpcapohfjidoaaDoorR3b
import Derived.Test.YthpcapohfjidoaaDoorR3c
import Derived.Test.YthpcapohfjidoaaDoorR3d
import Derived.Test.YthpcapohfjidoaaDoorL5
namespace Go.Proofs.YthpcapohfjidoaaDoor
open Go.RowKit

theorem src_none {w : World} {n t : Nat} {xs : List Value} (hn : n = 0) (hx : xs = []) : Src w (.slice none (n - (n - t)) (0 - (n - t))) xs := by
  subst hn hx
  rw [show 0 - (0 - t) = 0 by omega]
  exact Src.nil w

set_option maxHeartbeats 1600000 in
theorem doPrim_any (w : World) (mb rb : Nat) (vO vB vW vS vR vT : Value) (s : L.RunS) (p : L.Prim) (hp : p ∈ L.primTab) (hrun : RunAt w mb rb vO vB vW vS vR vT s) (htab : TabOk w) :
    Calls Tryd.prog 22 #[.pointer (some ⟨rb, 0, none⟩), primVal p] w fun r w' => r = .returned (.int .i64 (L.doPrim s p).2) ∧ Goes mb rb vO vB vW vS vR vT (L.doPrim s p).1 w w' := by
  have hr0 : ∀ o, (w.alloc o).cell? ⟨rb, 0, none⟩ = some (.pointer (some ⟨mb, 0, none⟩)) := fun o => cell_alloc (cell_of_block hrun.r rfl) o
  have hm0 : ∀ o, (w.alloc o).cell? ⟨mb, 0, none⟩ = some vS := fun o => cell_alloc (cell_of_block hrun.m rfl) o
  have hm1 : ∀ o, (w.alloc o).cell? ⟨mb, 1, none⟩ = some vR := fun o => cell_alloc (cell_of_block hrun.m rfl) o
  by_cases hu : s.S.length < p.takes ∨ s.R.length < p.aside
  · have hd : L.doPrim s p = (s, 6) := if_pos hu
    obtain ⟨aS, capS, aR, capR, aT, capT, rfl, rfl, rfl, lS, lR⟩ := hrun.slices
    rw [hd]
    refine (doPrim_under w mb rb _ _ p.takes p.aside capS capR aS aR ⟨p.name.toArray⟩ p.group hr0 hm0 hm1 hu).mono ?_
    rintro r w' ⟨rfl, hb⟩
    exact ⟨rfl, Goes.stay hrun hb⟩
  · have ht : p.takes ≤ s.S.length := by omega
    have ha : p.aside ≤ s.R.length := by omega
    -- what is planned
    have hTin : ∀ x ∈ s.S.drop (s.S.length - p.takes), inI64 x := fun x hx => hrun.si x (List.mem_of_mem_drop hx)
    have hAin : ∀ x ∈ s.R.drop (s.R.length - p.aside), inI64 x := fun x hx => hrun.ri x (List.mem_of_mem_drop hx)
    have hTl : (s.S.drop (s.S.length - p.takes)).length = p.takes := by rw [List.length_drop]; omega
    have hAl : (s.R.drop (s.R.length - p.aside)).length = p.aside := by rw [List.length_drop]; omega
    have hmod : Modest' (L.plan p.name (s.S.drop (s.S.length - p.takes)) (s.R.drop (s.R.length - p.aside)) s.S.length) :=
      plan_modest _ _ _ _ _ _ (mem_getD hTin 0) (mem_getD hTin 1) (mem_getD hTin 2) (mem_getD hAin 0) ⟨by omega, by have := hrun.sl; omega⟩
    have hplan : ∀ vT' vA', Src w vT' ((s.S.drop (s.S.length - p.takes)).map (Value.int .i64)) → Src w vA' ((s.R.drop (s.R.length - p.aside)).map (Value.int .i64)) → ∀ w1, Below w.heap.size w w1 → PlanAt p vT' vA' (s.S.drop (s.S.length - p.takes)) (s.R.drop (s.R.length - p.aside)) s.S.length w1 :=
      fun vT' vA' h1 h2 w1 hb => plan_any p hp _ w1 vT' vA' _ _ (h1.below hb) hTl (h2.below hb) hAl hTin (tabIs_of_block htab (hb.block _ (tab_lt htab)))
    have hdo : L.doPrim s p = if (L.plan p.name (s.S.drop (s.S.length - p.takes)) (s.R.drop (s.R.length - p.aside)) s.S.length).err ≠ 0 then (s, (L.plan p.name (s.S.drop (s.S.length - p.takes)) (s.R.drop (s.R.length - p.aside)) s.S.length).err)
      else L.commit s p.takes p.aside (L.plan p.name (s.S.drop (s.S.length - p.takes)) (s.R.drop (s.R.length - p.aside)) s.S.length) := if_neg hu
    unfold PlanAt at hplan
    have hst := hrun.st
    have has := hrun.as
    generalize L.plan p.name (s.S.drop (s.S.length - p.takes)) (s.R.drop (s.R.length - p.aside)) s.S.length = e at *
    have hcom : ∀ W v, Below w.heap.size w W → EffAt w.heap.size W v e.lays e.aside e.tells → Calls Tryd.prog 29 #[.pointer (some ⟨rb, 0, none⟩), .int .i64 p.takes, .int .i64 p.aside, v] W fun r w' => r = .returned (.int .i64 (L.commit s p.takes p.aside e).2) ∧ Goes mb rb vO vB vW vS vR vT (L.commit s p.takes p.aside e).1 W w' :=
      fun W v hb hE => commit_any W mb rb vO vB vW vS vR vT v s p.takes p.aside w.heap.size e (hrun.below hb) (fun k hk => hrun.lt k (.inl hk)) hE ht ha hmod.1 hmod.2.1 hmod.2.2.1 hmod.2.2.2.1 hmod.2.2.2.2
    by_cases he : e.err ≠ 0
    · have heb : (e.err != 0) = true := by rw [bne_iff_ne]; exact he
      rw [hdo, if_pos he]
      suffices h : Calls Tryd.prog 22 #[.pointer (some ⟨rb, 0, none⟩), primVal p] w fun r w' => r = .returned (.int .i64 e.err) ∧ Below w.heap.size w w' from
        h.mono fun r w' hh => ⟨hh.1, Goes.stay hrun hh.2⟩
      rcases owns_cases hst with ⟨rfl, n0, _⟩ | ⟨gS, capS, rfl, lS⟩ <;> rcases owns_cases has with ⟨rfl, m0, _⟩ | ⟨gR, capR, rfl, lR⟩
      · have HPn := hplan (.slice none (s.S.length - (s.S.length - p.takes)) (0 - (s.S.length - p.takes))) (.slice none (s.R.length - (s.R.length - p.aside)) (0 - (s.R.length - p.aside))) (src_none n0 (by rw [List.length_eq_zero_iff.1 n0]; simp)) (src_none m0 (by rw [List.length_eq_zero_iff.1 m0]; simp))
        exact doPrim_err_nn w mb rb s.S.length p.takes 0 s.R.length p.aside 0 ⟨p.name.toArray⟩ p.group e.lays e.aside e.tells e.err heb hr0 (by rw [n0]; exact hm0) (by rw [m0]; exact hm1) hrun.sl ht (by omega) hrun.rl ha (by omega) (hide HPn)
      · have HPn := hplan (.slice none (s.S.length - (s.S.length - p.takes)) (0 - (s.S.length - p.takes))) (.slice (if capR = s.R.length - p.aside then (some ⟨gR, 0, none⟩ : Option Addr) else some ⟨gR, s.R.length - p.aside, none⟩) (s.R.length - (s.R.length - p.aside)) (capR - (s.R.length - p.aside))) (src_none n0 (by rw [List.length_eq_zero_iff.1 n0]; simp)) (by rw [List.map_drop]; exact tail_src has lR)
        exact doPrim_err_ns w mb rb s.S.length p.takes 0 s.R.length p.aside capR gR ⟨p.name.toArray⟩ p.group e.lays e.aside e.tells e.err heb hr0 (by rw [n0]; exact hm0) hm1 hrun.sl ht (by omega) _ rfl hrun.rl ha lR (hide HPn)
      · have HPn := hplan (.slice (if capS = s.S.length - p.takes then (some ⟨gS, 0, none⟩ : Option Addr) else some ⟨gS, s.S.length - p.takes, none⟩) (s.S.length - (s.S.length - p.takes)) (capS - (s.S.length - p.takes))) (.slice none (s.R.length - (s.R.length - p.aside)) (0 - (s.R.length - p.aside))) (by rw [List.map_drop]; exact tail_src hst lS) (src_none m0 (by rw [List.length_eq_zero_iff.1 m0]; simp))
        exact doPrim_err_sn w mb rb s.S.length p.takes capS gS s.R.length p.aside 0 ⟨p.name.toArray⟩ p.group e.lays e.aside e.tells e.err heb hr0 hm0 (by rw [m0]; exact hm1) _ rfl hrun.sl ht lS hrun.rl ha (by omega) (hide HPn)
      · have HPn := hplan (.slice (if capS = s.S.length - p.takes then (some ⟨gS, 0, none⟩ : Option Addr) else some ⟨gS, s.S.length - p.takes, none⟩) (s.S.length - (s.S.length - p.takes)) (capS - (s.S.length - p.takes))) (.slice (if capR = s.R.length - p.aside then (some ⟨gR, 0, none⟩ : Option Addr) else some ⟨gR, s.R.length - p.aside, none⟩) (s.R.length - (s.R.length - p.aside)) (capR - (s.R.length - p.aside))) (by rw [List.map_drop]; exact tail_src hst lS) (by rw [List.map_drop]; exact tail_src has lR)
        exact doPrim_err_ss w mb rb s.S.length p.takes capS gS s.R.length p.aside capR gR ⟨p.name.toArray⟩ p.group e.lays e.aside e.tells e.err heb hr0 hm0 hm1 _ rfl hrun.sl ht lS _ rfl hrun.rl ha lR (hide HPn)
    · have he0 : e.err = 0 := by simpa using he
      rw [hdo, if_neg he]
      rw [he0] at hplan
      suffices h : Calls Tryd.prog 22 #[.pointer (some ⟨rb, 0, none⟩), primVal p] w fun r w' => r = .returned (.int .i64 (L.commit s p.takes p.aside e).2) ∧ ∃ W, Below w.heap.size w W ∧ Goes mb rb vO vB vW vS vR vT (L.commit s p.takes p.aside e).1 W w' from
        h.mono fun r w' hh => by
          obtain ⟨h1, W, hb, hg⟩ := hh
          exact ⟨h1, Goes.after hb hg⟩
      rcases owns_cases hst with ⟨rfl, n0, _⟩ | ⟨gS, capS, rfl, lS⟩ <;> rcases owns_cases has with ⟨rfl, m0, _⟩ | ⟨gR, capR, rfl, lR⟩
      · have HPn := hplan (.slice none (s.S.length - (s.S.length - p.takes)) (0 - (s.S.length - p.takes))) (.slice none (s.R.length - (s.R.length - p.aside)) (0 - (s.R.length - p.aside))) (src_none n0 (by rw [List.length_eq_zero_iff.1 n0]; simp)) (src_none m0 (by rw [List.length_eq_zero_iff.1 m0]; simp))
        exact doPrim_ok_nn w mb rb s.S.length p.takes 0 s.R.length p.aside 0 ⟨p.name.toArray⟩ p.group e.lays e.aside e.tells _ (Goes mb rb vO vB vW _ _ vT (L.commit s p.takes p.aside e).1) hr0 (by rw [n0]; exact hm0) (by rw [m0]; exact hm1) hrun.sl ht (by omega) hrun.rl ha (by omega) (hide HPn) (hide hcom)
      · have HPn := hplan (.slice none (s.S.length - (s.S.length - p.takes)) (0 - (s.S.length - p.takes))) (.slice (if capR = s.R.length - p.aside then (some ⟨gR, 0, none⟩ : Option Addr) else some ⟨gR, s.R.length - p.aside, none⟩) (s.R.length - (s.R.length - p.aside)) (capR - (s.R.length - p.aside))) (src_none n0 (by rw [List.length_eq_zero_iff.1 n0]; simp)) (by rw [List.map_drop]; exact tail_src has lR)
        exact doPrim_ok_ns w mb rb s.S.length p.takes 0 s.R.length p.aside capR gR ⟨p.name.toArray⟩ p.group e.lays e.aside e.tells _ (Goes mb rb vO vB vW _ _ vT (L.commit s p.takes p.aside e).1) hr0 (by rw [n0]; exact hm0) hm1 hrun.sl ht (by omega) _ rfl hrun.rl ha lR (hide HPn) (hide hcom)
      · have HPn := hplan (.slice (if capS = s.S.length - p.takes then (some ⟨gS, 0, none⟩ : Option Addr) else some ⟨gS, s.S.length - p.takes, none⟩) (s.S.length - (s.S.length - p.takes)) (capS - (s.S.length - p.takes))) (.slice none (s.R.length - (s.R.length - p.aside)) (0 - (s.R.length - p.aside))) (by rw [List.map_drop]; exact tail_src hst lS) (src_none m0 (by rw [List.length_eq_zero_iff.1 m0]; simp))
        exact doPrim_ok_sn w mb rb s.S.length p.takes capS gS s.R.length p.aside 0 ⟨p.name.toArray⟩ p.group e.lays e.aside e.tells _ (Goes mb rb vO vB vW _ _ vT (L.commit s p.takes p.aside e).1) hr0 hm0 (by rw [m0]; exact hm1) _ rfl hrun.sl ht lS hrun.rl ha (by omega) (hide HPn) (hide hcom)
      · have HPn := hplan (.slice (if capS = s.S.length - p.takes then (some ⟨gS, 0, none⟩ : Option Addr) else some ⟨gS, s.S.length - p.takes, none⟩) (s.S.length - (s.S.length - p.takes)) (capS - (s.S.length - p.takes))) (.slice (if capR = s.R.length - p.aside then (some ⟨gR, 0, none⟩ : Option Addr) else some ⟨gR, s.R.length - p.aside, none⟩) (s.R.length - (s.R.length - p.aside)) (capR - (s.R.length - p.aside))) (by rw [List.map_drop]; exact tail_src hst lS) (by rw [List.map_drop]; exact tail_src has lR)
        exact doPrim_ok_ss w mb rb s.S.length p.takes capS gS s.R.length p.aside capR gR ⟨p.name.toArray⟩ p.group e.lays e.aside e.tells _ (Goes mb rb vO vB vW _ _ vT (L.commit s p.takes p.aside e).1) hr0 hm0 hm1 _ rfl hrun.sl ht lS _ rfl hrun.rl ha lR (hide HPn) (hide hcom)
end Go.Proofs.YthpcapohfjidoaaDoor
