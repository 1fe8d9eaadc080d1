/- commit, at whatever run in memory and whatever effect: what commit of the plain terms says. -/
import Derived.Test.YthpcapohfjidoaaDoorC0
namespace Go.Proofs.YthpcapohfjidoaaDoor
open Go.RowKit

theorem RunAt.slices {w : World} {mb rb : Nat} {vO vB vW vS vR vT : Value} {s : L.RunS} (h : RunAt w mb rb vO vB vW vS vR vT s) :
    ∃ aS capS aR capR aT capT, vS = .slice aS s.S.length capS ∧ vR = .slice aR s.R.length capR ∧ vT = .slice aT s.out.length capT ∧ s.S.length ≤ capS ∧ s.R.length ≤ capR := by
  obtain ⟨aS, capS, e1, l1, _⟩ := owns_slice h.st
  obtain ⟨aR, capR, e2, l2, _⟩ := owns_slice h.as
  obtain ⟨aT, capT, e3, _, _⟩ := owns_slice h.ot
  exact ⟨aS, capS, aR, capR, aT, capT, e1, e2, e3, l1, l2⟩

/-- commit: the run behind it is the plain terms' one; what isn't the run's is as it was. -/
theorem commit_any (w : World) (mb rb : Nat) (vO vB vW vS vR vT vE : Value) (s : L.RunS) (t a B : Nat) (e : L.Eff)
    (hrun : RunAt w mb rb vO vB vW vS vR vT s) (hB : ∀ k, Foot mb rb vS vR vT k → k < B) (hE : EffAt B w vE e.lays e.aside e.tells)
    (ht : t ≤ s.S.length) (ha : a ≤ s.R.length) (hl1 : e.lays.length ≤ 3) (hl2 : e.aside.length ≤ 3) (hl3 : e.tells.length ≤ 100) (hi1 : ∀ x ∈ e.lays, inI64 x) (hi2 : ∀ x ∈ e.aside, inI64 x) :
    Calls Tryd.prog 29 #[.pointer (some ⟨rb, 0, none⟩), .int .i64 t, .int .i64 a, vE] w fun r w' => r = .returned (.int .i64 (L.commit s t a e).2) ∧
      ∃ v1 v2 v3, RunAt w' mb rb vO vB vW v1 v2 v3 (L.commit s t a e).1 ∧ Mv (Foot mb rb vS vR vT) w w' ∧ Fresh w (Foot mb rb vS vR vT) (Foot mb rb v1 v2 v3) := by
  obtain ⟨vL, vA, rfl, sL, sA, oL, oA⟩ := hE
  obtain ⟨aL, cL, eL⟩ := sL.len
  obtain ⟨aA, cA, eA⟩ := sA.len
  rw [List.length_map] at eL eA
  obtain ⟨aS, capS, aR, capR, aT, capT, rfl, rfl, rfl, lS, lR⟩ := hrun.slices
  subst eL eA
  have hts : (⟨e.tells.toArray⟩ : ByteArray).size = e.tells.length := by simp [ByteArray.size]
  have hr0 : ∀ o, (w.alloc o).cell? ⟨rb, 0, none⟩ = some (.pointer (some ⟨mb, 0, none⟩)) := fun o => cell_alloc (cell_of_block hrun.r rfl) o
  have hr5 : ∀ o, (w.alloc o).cell? ⟨rb, 5, none⟩ = some (.slice aT s.out.length capT) := fun o => cell_alloc (cell_of_block hrun.r rfl) o
  have hm0 : ∀ o, (w.alloc o).cell? ⟨mb, 0, none⟩ = some (.slice aS s.S.length capS) := fun o => cell_alloc (cell_of_block hrun.m rfl) o
  have hm1 : ∀ o, (w.alloc o).cell? ⟨mb, 1, none⟩ = some (.slice aR s.R.length capR) := fun o => cell_alloc (cell_of_block hrun.m rfl) o
  by_cases hover : 16 < s.S.length - t + e.lays.length ∨ 16 < s.R.length - a + e.aside.length
  · have hc : L.commit s t a e = (s, 7) := if_pos hover
    rw [hc]
    refine (commit_none w mb rb _ _ _ t a _ _ capS capR capT cL cA aS aR aT aL aA ⟨e.tells.toArray⟩ 7 hr0 hr5 hm0 hm1 hrun.sl hrun.rl hrun.ol ht ha lS lR hl1 hl2 (by omega) (hide ⟨fun _ => rfl, fun h => by omega⟩)).mono ?_
    rintro r w' ⟨rfl, hb⟩
    exact ⟨rfl, _, _, _, hrun.below hb, Mv.of_below hb _, Fresh.refl _ _⟩
  · by_cases hout : 300 < s.out.length + e.tells.length
    · have hc : L.commit s t a e = (s, 12) := (if_neg hover).trans (if_pos hout)
      rw [hc]
      refine (commit_none w mb rb _ _ _ t a _ _ capS capR capT cL cA aS aR aT aL aA ⟨e.tells.toArray⟩ 12 hr0 hr5 hm0 hm1 hrun.sl hrun.rl hrun.ol ht ha lS lR hl1 hl2 (by omega) (hide ⟨fun h => (hover h).elim, fun _ => ⟨rfl, by omega⟩⟩)).mono ?_
      rintro r w' ⟨rfl, hb⟩
      exact ⟨rfl, _, _, _, hrun.below hb, Mv.of_below hb _, Fresh.refl _ _⟩
    · have hc : L.commit s t a e = ({ s with S := s.S.take (s.S.length - t) ++ e.lays, R := s.R.take (s.R.length - a) ++ e.aside, out := s.out ++ e.tells }, 0) := (if_neg hover).trans (if_neg hout)
      rw [hc]
      refine (commit_some w mb rb vO vB vW _ _ _ t a _ _ capS capR capT cL cA aS aR aT aL aA ⟨e.tells.toArray⟩ s e.lays e.aside B (hide hrun) (hide hB) (hide ⟨sL, oL⟩) (hide ⟨sA, oA⟩) (hide ⟨rfl, rfl, rfl, rfl, rfl⟩) (hide ⟨hi1, hi2⟩) hr0 hr5 hm0 hm1 hrun.sl hrun.rl hrun.ol ht ha lS lR hl1 hl2 (by omega) (by omega) (by omega) (by omega)).mono ?_
      rintro r w' ⟨rfl, v1, v2, v3, h1, h2, h3⟩
      exact ⟨rfl, v1, v2, v3, by simpa using h1, h2, h3⟩
end Go.Proofs.YthpcapohfjidoaaDoor
