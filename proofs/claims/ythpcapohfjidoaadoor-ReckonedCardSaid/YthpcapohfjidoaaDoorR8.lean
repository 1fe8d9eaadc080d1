/- all: the words of a line, one behind the other; a line that is done to its end. -/
import Derived.Test.YthpcapohfjidoaaDoorG0
import Derived.Laws.IdiomStrings
namespace Go.Proofs.YthpcapohfjidoaaDoor
open Go.RowKit
attribute [local go_sem ↓] Go.wp_at_zero Go.wp_at_succ

namespace L
def runAll : Nat → RunS → RunS × Int
  | 0, s => (s, 0)
  | n + 1, s => match s.words[s.pos]? with
    | none => (s, 0)
    | some l => if (stepPlain s l).2 ≠ 0 then stepPlain s l else runAll n { (stepPlain s l).1 with pos := (stepPlain s l).1.pos + 1 }

theorem runAll_step {n : Nat} {s sf : RunS} {l : List UInt8} (h : runAll (n + 1) s = (sf, 0)) (hl : s.words[s.pos]? = some l) : (stepPlain s l).2 = 0 ∧ runAll n { (stepPlain s l).1 with pos := (stepPlain s l).1.pos + 1 } = (sf, 0) := by
  unfold runAll at h
  rw [hl] at h
  simp only at h
  by_cases hz : (stepPlain s l).2 ≠ 0
  · rw [if_pos hz] at h
    exact (hz (by rw [h])).elim
  · rw [if_neg hz] at h
    exact ⟨by simpa using hz, h⟩

theorem stepPlain_same (s : RunS) (l : List UInt8) : (stepPlain s l).1.words = s.words ∧ (stepPlain s l).1.pos = s.pos := by
  unfold stepPlain
  have h := doWord_same (countStep s).1 l
  have hc : (countStep s).1.words = s.words ∧ (countStep s).1.pos = s.pos := by
    unfold countStep
    split <;> exact ⟨rfl, rfl⟩
  split
  · exact hc
  · exact ⟨h.1.trans hc.1, h.2.1.trans hc.2⟩
theorem stepPlain_steps (s : RunS) (l : List UInt8) (h : s.steps ≤ 1000) : (stepPlain s l).1.steps ≤ 1000 := by
  unfold stepPlain
  have hd := doWord_same (countStep s).1 l
  have hc : (countStep s).1.steps ≤ 1000 := by
    unfold countStep
    split
    · exact h
    · show s.steps + 1 ≤ 1000
      omega
  split
  · exact hc
  · rw [hd.2.2.1]; exact hc
end L

def posAt (w : World) (rb : Nat) : Nat := match w.cell? ⟨rb, 2, none⟩ with | some (.int _ p) => p.toNat | _ => 0

theorem posAt_of {w : World} {rb p : Nat} (h : w.cell? ⟨rb, 2, none⟩ = some (.int .i64 p)) : posAt w rb = p := by unfold posAt; rw [h]; simp

/-- The run behind 'at++'. -/
theorem RunAt.next {w : World} {mb rb : Nat} {vO vB vW vS vR vT : Value} {s : L.RunS} (h : RunAt w mb rb vO vB vW vS vR vT s) :
    RunAt (w.setCell ⟨rb, 2, none⟩ (.int .i64 ((s.pos : Int) + 1))) mb rb vO vB vW vS vR vT { s with pos := s.pos + 1 } := by
  have hset := set_block h.r 2 (.int .i64 ((s.pos : Int) + 1))
  have hoth : ∀ k, k ≠ rb → (w.setCell ⟨rb, 2, none⟩ (.int .i64 ((s.pos : Int) + 1))).heap[k]? = w.heap[k]? := fun k hk => Below.heap_setCell _ _ _ _ hk
  refine ⟨(hoth mb (ne_of_type h.m h.r (by decide))).trans h.m, hset, ?_, ?_, ?_, ?_, h.ap, h.sl, h.rl, h.ol, h.wl, h.si, h.ri⟩
  · exact owns_kept h.st fun k e => hoth k fun x => own_ne_of_type h.st h.r (by decide) (x ▸ e)
  · exact owns_kept h.as fun k e => hoth k fun x => own_ne_of_type h.as h.r (by decide) (x ▸ e)
  · exact owns_kept h.ot fun k e => hoth k fun x => own_ne_of_type h.ot h.r (by decide) (x ▸ e)
  · exact owns_kept h.wd fun k e => hoth k fun x => own_ne_of_type h.wd h.r (by decide) (x ▸ e)

/-- What was told, as a text. -/
theorem RunAt.told {w : World} {mb rb : Nat} {vO vB vW vS vR vT : Value} {s : L.RunS} (h : RunAt w mb rb vO vB vW vS vR vT s) : (convert 41 9 vT).run Tryd.prog w = .ok (.string ⟨s.out.toArray⟩) w := by
  rcases owns_cases h.ot with ⟨rfl, h0, _⟩ | ⟨g, cap, rfl, _⟩
  · rw [run_convert_bytes_string w 41 9 5 none 0 0 Tryd.underlying41 Tryd.underlying5 Tryd.underlying9, List.length_eq_zero_iff.1 h0]
    rfl
  · refine run_convert_bytes_back w 41 9 5 ⟨g, 0, none⟩ cap s.out Tryd.underlying41 Tryd.underlying5 Tryd.underlying9 fun j hj => ?_
    have := h.ot.cells (g := g) rfl j (byteCell s.out[j]) (by rw [List.getElem?_map, List.getElem?_eq_getElem hj]; rfl)
    exact this

/-- What holds at the head of the loop. -/
def Head (w0 : World) (mb rb : Nat) (vB vW vS vR vT : Value) (s sf : L.RunS) (wr : World) : Prop :=
  ∃ s' v1 v2 v3, RunAt wr mb rb (.slice none 0 0) vB vW v1 v2 v3 s' ∧ Mv (Foot mb rb vS vR vT) w0 wr ∧ Fresh w0 (Foot mb rb vS vR vT) (Foot mb rb v1 v2 v3) ∧ s'.words = s.words ∧ s'.pos ≤ s.words.length ∧ s'.steps ≤ 1000 ∧ L.runAll (s.words.length - s'.pos) s' = (sf, 0)

set_option maxRecDepth 100000 in
set_option maxHeartbeats 1600000 in
theorem all_ok (w : World) (mb rb : Nat) (vB vW vS vR vT : Value) (s sf : L.RunS) (hrun : RunAt w mb rb (.slice none 0 0) vB vW vS vR vT s) (hst : s.steps ≤ 1000) (htab : TabOk w) (hF : ¬ Foot mb rb vS vR vT 0)
    (HSt : Hid (∀ wr s' v1 v2 v3 l, RunAt wr mb rb (.slice none 0 0) vB vW v1 v2 v3 s' → s'.steps ≤ 1000 → TabOk wr → ¬ Foot mb rb v1 v2 v3 0 → s'.words[s'.pos]? = some l → L.isBold l = false →
      Calls Tryd.prog 16 #[.pointer (some ⟨rb, 0, none⟩)] wr fun r w' => r = .returned (.int .i64 (L.stepPlain s' l).2) ∧ Goes mb rb (.slice none 0 0) vB vW v1 v2 v3 (L.stepPlain s' l).1 wr w'))
    (hpl : ∀ l ∈ s.words, L.isBold l = false) (hpos : s.pos ≤ s.words.length) (hfin : L.runAll (s.words.length - s.pos) s = (sf, 0)) :
    Calls Tryd.prog 13 #[.pointer (some ⟨rb, 0, none⟩)] w fun r w' => r = .returned (.agg #[.string ⟨sf.out.toArray⟩, .int .i64 0, .int .i64 0]) ∧ Goes mb rb (.slice none 0 0) vB vW vS vR vT sf w w' := by
  have Hrun := hide hrun
  have Hst := hide hst
  have Htab := hide htab
  have HF := hide hF
  have Hpl := hide hpl
  have Hpos := hide hpos
  have Hfin := hide hfin
  obtain ⟨aW, capW, hvW, _, _⟩ := owns_slice hrun.wd
  subst hvW
  clear hrun hst htab hF hpl hpos hfin
  go_enter Tryd.func13, Tryd.ntmps13
  go_wp2
  have hb0 : Below w.heap.size w (w.alloc (Obj.cells #[Value.string ⟨#[]⟩, Value.int .i64 0, Value.int .i64 0] 36)) := (Below.refl _ _).alloc (Nat.le_refl _) _
  have hr0 : (w.alloc (Obj.cells #[Value.string ⟨#[]⟩, Value.int .i64 0, Value.int .i64 0] 36)).heap[w.heap.size]? = some (Obj.cells #[Value.string ⟨#[]⟩, Value.int .i64 0, Value.int .i64 0] 36) := heap_alloc_new w _
  generalize (w.alloc (Obj.cells #[Value.string ⟨#[]⟩, Value.int .i64 0, Value.int .i64 0] 36)) = w0 at *
  have Hb0 := hide hb0
  have Hr0 := hide hr0
  clear hb0 hr0
  go_loopw [3] (fun _ wr => Head w0 mb rb vB (.slice aW s.words.length capW) vS vR vT s sf wr) (fun _ wr => s.words.length - posAt wr rb)
  case atStart =>
    exact ⟨s, vS, vR, vT, (unhide Hrun).below (unhide Hb0), Mv.refl _ _, Fresh.refl _ _, rfl, unhide Hpos, unhide Hst, unhide Hfin⟩
  case round =>
    obtain ⟨s', v1, v2, v3, hr, hmv, hfr, hws, hps, hss, hall⟩ := hrel
    have c1 : wr.cell? ⟨rb, 1, none⟩ = some (.slice aW s.words.length capW) := cell_of_block hr.r rfl
    have c2 : wr.cell? ⟨rb, 2, none⟩ = some (.int .i64 s'.pos) := cell_of_block hr.r rfl
    have Hr := hide hr
    have Hmv := hide hmv
    have Hfr := hide hfr
    have Hws := hide hws
    have Hall := hide hall
    clear hr hmv hfr hws hall
    by_cases hlt : s'.pos < s.words.length
    · have k1 : (s'.pos : Int) < (s.words.length : Int) := by omega
      go_wp2
      go_region_held3 (fun w' => w'.cell? ⟨rb, 1, none⟩ = some (.slice aW s.words.length capW) ∧ w'.cell? ⟨rb, 2, none⟩ = some (.int .i64 s'.pos)) (first | exact ⟨c1, c2⟩ | go_keep) (fail)
      obtain ⟨l, hl⟩ : ∃ l, s'.words[s'.pos]? = some l := ⟨_, List.getElem?_eq_getElem (by rw [unhide Hws]; exact hlt)⟩
      obtain ⟨hz, hnext⟩ := L.runAll_step (n := s.words.length - (s'.pos + 1)) (by rw [show s.words.length - (s'.pos + 1) + 1 = s.words.length - s'.pos by omega]; exact unhide Hall) hl
      have hsame := L.stepPlain_same s' l
      have hsteps := L.stepPlain_steps s' l hss
      have hlb : L.isBold l = false := unhide Hpl l (by rw [← unhide Hws]; exact List.mem_of_getElem? hl)
      have htab0 : TabOk w0 := tabIs_of_block (unhide Htab) ((unhide Hb0).block _ (tab_lt (unhide Htab)))
      have hrd : RunAt wr.drew mb rb (.slice none 0 0) vB (.slice aW s.words.length capW) v1 v2 v3 s' := (unhide Hr).kept fun _ _ => rfl
      have hstep := unhide HSt wr.drew s' v1 v2 v3 l hrd hss (tab_next htab0 (unhide HF) (unhide Hmv).drew) (foot_next htab0 (unhide HF) (unhide Hfr)) hl hlb
      rw [hz] at hstep
      generalize (L.stepPlain s' l).1 = s2 at *
      have HS := hide hstep
      have Hnext := hide hnext
      have Hsame := hide hsame
      clear hz hstep hnext hsame hl hlb htab0 hrd
      go_wp2_with fail
      refine (unhide HS).mono ?_
      rintro e w2 ⟨rfl, x1, x2, x3, hr2, hm2, hf2⟩
      have d2 : w2.cell? ⟨rb, 2, none⟩ = some (.int .i64 s'.pos) := by rw [← (unhide Hsame).2]; exact cell_of_block hr2.r rfl
      have f2 : w2.frozen? ⟨rb, 2, none⟩ = false := frozen_of_block 2 hr2.r
      have hwl := (unhide Hr).wl
      rw [unhide Hws] at hwl
      have Hr2 := hide hr2
      have Hm2 := hide hm2
      have Hf2 := hide hf2
      clear hr2 hm2 hf2
      go_wp2
      have hp2 : s2.pos = s'.pos := (unhide Hsame).2
      have hnx := (unhide Hr2).next
      rw [hp2] at hnx
      have hmv : Mv (Foot mb rb vS vR vT) w0 w2 := (unhide Hmv).drew.trans (unhide Hfr) (unhide Hm2)
      refine ⟨⟨_, x1, x2, x3, hnx, hmv.setCell (.inl (.inr (.inl rfl))) _, (unhide Hfr).trans (unhide Hmv).size (unhide Hf2), (unhide Hsame).1.trans (unhide Hws), by show s'.pos + 1 ≤ _; omega, hsteps, ?_⟩, ?_⟩
      · have := unhide Hnext
        rw [hp2] at this
        exact this
      · rw [posAt_of c2, posAt_of (p := s'.pos + 1) (by rw [World.cell?_setCell_same _ _ _ d2]; simp)]
        omega
    · have hpe : s'.pos = s.words.length := by omega
      have hsf : s' = sf := by
        have := unhide Hall
        rw [hpe, Nat.sub_self] at this
        injection this
      obtain ⟨aT, capT, hv3, _, _⟩ := owns_slice (unhide Hr).ot
      subst hv3
      have hconv := RunAt.told (w := wr.drew) ((unhide Hr).kept fun _ _ => rfl)
      have c5 : wr.cell? ⟨rb, 5, none⟩ = some (.slice aT s'.out.length capT) := cell_of_block (unhide Hr).r rfl
      have hltw : w.heap.size < w0.heap.size := heap_lt (unhide Hr0)
      have hnF : ¬ Foot mb rb vS vR vT w.heap.size := fun h => by have := (unhide Hrun).lt _ (.inl h); omega
      have hb3 : wr.heap[w.heap.size]? = some (Obj.cells #[Value.string ⟨#[]⟩, Value.int .i64 0, Value.int .i64 0] 36) := ((unhide Hmv).block _ hltw hnF).trans (unhide Hr0)
      have b0 : wr.cell? ⟨w.heap.size, 0, none⟩ = some (.string ⟨#[]⟩) := cell_of_block hb3 rfl
      have b1 : wr.cell? ⟨w.heap.size, 1, none⟩ = some (.int .i64 0) := cell_of_block hb3 rfl
      have b2 : wr.cell? ⟨w.heap.size, 2, none⟩ = some (.int .i64 0) := cell_of_block hb3 rfl
      have g0 : wr.frozen? ⟨w.heap.size, 0, none⟩ = false := frozen_of_block 0 hb3
      have g1 : wr.frozen? ⟨w.heap.size, 1, none⟩ = false := frozen_of_block 1 hb3
      have g2 : wr.frozen? ⟨w.heap.size, 2, none⟩ = false := frozen_of_block 2 hb3
      have Hb3 := hide hb3
      have Hpe := hide hpe
      have Hsf := hide hsf
      have hge : ¬ ((s'.pos : Int) < (s.words.length : Int)) := by omega
      clear hb3 hpe hsf hlt
      go_wp2
      go_region_held3 (fun w' => w'.cell? ⟨rb, 1, none⟩ = some (.slice aW s.words.length capW) ∧ w'.cell? ⟨rb, 2, none⟩ = some (.int .i64 s'.pos)) (first | exact ⟨c1, c2⟩ | go_keep) (fail)
      go_wp2
      have hsf := unhide Hsf
      subst hsf
      refine bodyPost_ret (v := .agg #[.string ⟨s'.out.toArray⟩, .int .i64 0, .int .i64 0]) (by simp [results, Tryd.results13, go_sem, b0, b1, b2]) rfl ⟨rfl, v1, v2, .slice aT s'.out.length capT, ?_, ?_, ?_⟩
      · refine (unhide Hr).kept fun k hk => ?_
        have hne : k ≠ w.heap.size := by
          rcases hk with hk | hk
          · rcases unhide Hfr k hk with h | h
            · have := (unhide Hrun).lt k (.inl h); omega
            · omega
          · have := (unhide Hrun).lt k (.inr hk); omega
        exact (Below.heap_setCell _ _ _ _ hne).trans ((Below.heap_setCell _ _ _ _ hne).trans (Below.heap_setCell _ _ _ _ hne))
      · have h1 : Mv (Foot mb rb vS vR vT) w wr := (Mv.of_below (unhide Hb0) _).trans (Fresh.refl _ _) (unhide Hmv)
        exact (((h1.setCell (.inr (Nat.le_refl _)) _).setCell (.inr (Nat.le_refl _)) _).setCell (.inr (Nat.le_refl _)) _).drew
      · exact (Fresh.refl _ _).trans (unhide Hb0).size (unhide Hfr)
end Go.Proofs.YthpcapohfjidoaaDoor
