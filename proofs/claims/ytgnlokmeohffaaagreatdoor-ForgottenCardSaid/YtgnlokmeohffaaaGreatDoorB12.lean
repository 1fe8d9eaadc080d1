/- Parts of the proof: see the last text. -/
import Derived.Deep.RegionHeld3
import Derived.Test.YtgnlokmeohffaaaGreatDoorProg
import Derived.Test.YtgnlokmeohffaaaGreatDoorShelf
import Derived.WalkKit
import Derived.WalkSpells
import Derived.WalkLawsBesides
import Derived.Lib.ItoaNum
import Derived.Test.YtgnlokmeohffaaaGreatDoorB11
/- The list of what was made keeps its length, whatever is done; a word of the line makes at most one. Of no program. -/
namespace Go.Proofs.YtgnlokmeohffaaaGreatDoor
namespace N
open Go.RowKit

def Len (m m2 : Mach) : Prop := m2.all.length = m.all.length
theorem Len.of_all {m m2 : Mach} (h : m2.all = m.all) : Len m m2 := by unfold Len; rw [h]
theorem Len.trans {a b c : Mach} (h : Len a b) (h2 : Len b c) : Len a c := Eq.trans h2 h
theorem does_len (m : Mach) (s : Txt) (l rest : List Int) : Len m (does m s l rest) := by
  by_cases h : (s == [33]) = true
  · rw [beq_iff_eq] at h
    subst h
    show (m.all.modify (l.getD 1 0 - 1000).toNat fun e => { e with n := l.getD 0 0 }).length = m.all.length
    exact List.length_modify ..
  · refine Len.of_all ?_
    unfold does
    simp only [if_neg h]
    simp only [apply_ite Mach.all, ite_self]
theorem prim_len (m : Mach) (s : Txt) : Len m (prim m s).1 := by
  unfold prim
  simp only
  repeat' split
  all_goals first
    | exact Len.of_all rfl
    | exact does_len _ _ _ _
theorem forgets_len (m : Mach) (k : Nat) : Len m (forgets m k) := by
  show (m.all.take k ++ (m.all.drop k).map fun e : Ent => { e with gone := true }).length = m.all.length
  rw [List.length_append, List.length_map, List.length_take, List.length_drop]
  omega

theorem owns_len_of {f : Nat} (hb : ∀ m k l d a r, Len m (body f m k l d a r).1) (m : Mach) (j depth : Nat) : Len m (owns f m j depth).1 := by
  unfold owns
  cases m.all[j]? with
  | none => exact Len.of_all rfl
  | some e =>
    simp only
    split
    · exact Len.of_all (push_all _ _)
    · split
      · exact Len.of_all (push_all _ _)
      · split
        · exact forgets_len _ _
        · split
          · exact Len.of_all rfl
          · exact hb _ _ _ _ _ _
theorem onTo_len {f : Nat} (hb : ∀ m k l d a r, Len m (body f m k l d a r).1) {m : Mach} {p : Mach × Int} (hp : Len m p.1) (k : Nat) (l : List Cell) (depth next : Nat) (r : List (Int × Int)) : Len m (onTo f k l depth p next r).1 := by
  unfold onTo
  split
  · exact hp
  · exact hp.trans (hb _ _ _ _ _ _)
theorem cellDoes_len_of {f : Nat} (hb : ∀ m k l d a r, Len m (body f m k l d a r).1) (m : Mach) (depth : Nat) (c : Cell) : Len m (cellDoes f m depth c).1 := by
  unfold cellDoes
  split
  · exact Len.of_all (push_all _ _)
  · split
    · exact owns_len_of hb _ _ _
    · cases (prim m c.name).2.2 with
      | none => exact prim_len _ _
      | some j => exact (prim_len m c.name).trans (owns_len_of hb _ _ _)
theorem body_len : ∀ f m k l d a r, Len m (body f m k l d a r).1
  | 0, m, _, _, _, _, _ => Len.of_all rfl
  | f + 1, m, k, l, d, a, r => by
    have hb := body_len f
    have h0 : Len m (stepped m) := Len.of_all rfl
    cases hl : l[a]? with
    | none =>
      rw [body_none f m k l d a r hl]
      exact Len.of_all rfl
    | some c =>
      by_cases hs : 1000 ≤ m.steps
      · rw [body_out f m k l d a r c hl hs]
        exact h0
      · by_cases hk : c.kind = 1 ∨ c.kind = 2 ∨ c.kind = 3
        · rw [body_cell f m k l d a r c hl hs hk]
          exact onTo_len hb (h0.trans (cellDoes_len_of hb _ _ _)) _ _ _ _ _
        · rw [body, hl]
          simp only [if_neg hs]
          rw [if_neg (show ¬ c.kind = 1 by omega), if_neg (show ¬ c.kind = 2 by omega), if_neg (show ¬ c.kind = 3 by omega)]
          split
          · exact h0
          · split
            · have := onTo_len hb (h0.trans (owns_len_of hb (stepped m) k d)) k l d (a + 1) r
              unfold onTo at this
              simp only [← owns_eq] at this
              exact this
            · split
              · exact onTo_len hb (p := ((rounds (stepped m) l a c.name r).1, (rounds (stepped m) l a c.name r).2.2.2)) (h0.trans (Len.of_all (rounds_all _ _ _ _ _))) _ _ _ _ _
              · exact onTo_len hb (p := ((ways (stepped m) l a c.name).1, (ways (stepped m) l a c.name).2.2)) (h0.trans (Len.of_all (ways_all _ _ _ _))) _ _ _ _ _
theorem owns_len (f : Nat) (m : Mach) (j depth : Nat) : Len m (owns f m j depth).1 := owns_len_of (body_len f) m j depth
theorem cellDoes_len (f : Nat) (m : Mach) (depth : Nat) (c : Cell) : Len m (cellDoes f m depth c).1 := cellDoes_len_of (body_len f) m depth c

/-- A body that is read to its end is read within the line. -/
theorem reads_in (m : Mach) (ws : List Txt) : ∀ (f at' : Nat) (o : List Txt) (b : List Cell), (reads m ws f at' o b).2.1 = 0 → at' < (reads m ws f at' o b).2.2.2 ∧ (reads m ws f at' o b).2.2.2 ≤ ws.length
  | 0, _, _, _, h => by simp [reads] at h
  | f + 1, at', o, b, h => by
    have ih := reads_in m ws f
    rw [reads] at h ⊢
    cases hw : ws[at']? with
    | none => rw [hw] at h; simp at h
    | some s =>
      rw [hw] at h
      have hlt := (List.getElem?_eq_some_iff.1 hw).1
      simp only at h ⊢
      revert h
      repeat' split
      all_goals intro h
      all_goals first
        | (simp at h; done)
        | exact ⟨by simp, by show at' + 1 ≤ _; omega⟩
        | (obtain ⟨h1, h2⟩ := ih _ _ _ h; exact ⟨by omega, h2⟩)
        | (have hh := h; contradiction)
end N
end Go.Proofs.YtgnlokmeohffaaaGreatDoor
/- A word of the line that is done: where the next stands. Of no program. -/
namespace Go.Proofs.YtgnlokmeohffaaaGreatDoor
open Go.RowKit

/-- What a word of the line leaves, if it is done. -/
structure OneOk (m : N.Mach) (ws : List N.Txt) (p : Nat) (res : N.Mach × Int × Nat × Nat) : Prop where
  lo : res.2.1 = 0 → p < res.2.2.2
  hi : res.2.1 = 0 → res.2.2.2 ≤ ws.length
  st : res.2.1 = 0 → res.1.steps ≤ 1000
  ln : res.1.all.length ≤ m.all.length + 1

theorem name_lt {m : N.Mach} {ws : List N.Txt} {p : Nat} {f : Bool} (h : N.nameErr m ws[p + 1]? f = 0) : p + 2 ≤ ws.length := by
  obtain ⟨t, ht⟩ := name_some h
  have := (List.getElem?_eq_some_iff.1 ht).1
  omega
theorem push_steps (m : N.Mach) (n : Int) : (N.push m n).1.steps = m.steps := by unfold N.push; split <;> rfl

theorem one_ok (m : N.Mach) (ws : List N.Txt) (p : Nat) (l : N.Txt) (hp : p < ws.length) (hst : m.steps ≤ 1000) : OneOk m ws p (N.one m ws p l) := by
  by_cases h1 : l = wDef
  · rw [h1, one_def]
    by_cases he : N.nameErr m ws[p + 1]? true = 0
    · rw [if_neg (by simpa using he)]
      have hr := N.reads_in m ws (ws.length + 1) (p + 2) [] []
      exact ⟨fun h => by have := (hr h).1; simp only; omega, fun h => (hr h).2, fun _ => hst, by simp⟩
    · rw [if_pos he]
      exact ⟨fun h => (he h).elim, fun h => (he h).elim, fun _ => hst, Nat.le_succ _⟩
  by_cases h2 : l = wTok
  · rw [h2, one_tok]
    by_cases he : N.nameErr m ws[p + 1]? false = 0
    · rw [if_neg (by simpa using he)]
      have := name_lt he
      cases N.newest m ((ws[p + 1]?).getD []) with
      | none => exact ⟨fun h => (by cases h), fun h => (by cases h), fun _ => hst, Nat.le_succ _⟩
      | some k => exact ⟨fun _ => by simp only; omega, fun _ => this, fun _ => by simp only; rw [push_steps]; exact hst, by simp only; rw [N.push_all]; omega⟩
    · rw [if_pos he]
      exact ⟨fun h => (he h).elim, fun h => (he h).elim, fun _ => hst, Nat.le_succ _⟩
  by_cases h3 : l = wVar
  · rw [h3, one_var]
    by_cases he : N.nameErr m ws[p + 1]? true = 0
    · rw [if_neg (by simpa using he)]
      have := name_lt he
      exact ⟨fun _ => by simp only; omega, fun _ => this, fun _ => hst, by simp⟩
    · rw [if_pos he]
      exact ⟨fun h => (he h).elim, fun h => (he h).elim, fun _ => hst, Nat.le_succ _⟩
  by_cases h4 : l = wCon
  · rw [h4, one_con]
    by_cases he : N.nameErr m ws[p + 1]? true = 0
    · rw [if_neg (by simpa using he)]
      have := name_lt he
      cases hpop : N.pop m with
      | none => exact ⟨fun h => (by cases h), fun h => (by cases h), fun _ => hst, Nat.le_succ _⟩
      | some q =>
        obtain ⟨m1, n⟩ := q
        have ha := N.pop_all hpop
        have hs : m1.steps = m.steps := by
          unfold N.pop at hpop
          cases hl : m.S.getLast? with
          | none => rw [hl] at hpop; cases hpop
          | some x =>
            rw [hl] at hpop
            injection hpop with hpop
            injection hpop with hpop _
            rw [← hpop]
        refine ⟨fun _ => ?_, fun _ => this, fun _ => ?_, ?_⟩
        · simp only; omega
        · simp only; omega
        · simp only [List.length_append, List.length_singleton]
          rw [ha]
          exact Nat.le_refl _
    · rw [if_pos he]
      exact ⟨fun h => (he h).elim, fun h => (he h).elim, fun _ => hst, Nat.le_succ _⟩
  by_cases h5 : l = wMark
  · rw [h5, one_mark]
    by_cases he : N.nameErr m ws[p + 1]? true = 0
    · rw [if_neg (by simpa using he)]
      have := name_lt he
      exact ⟨fun _ => by simp only; omega, fun _ => this, fun _ => hst, by simp⟩
    · rw [if_pos he]
      exact ⟨fun h => (he h).elim, fun h => (he h).elim, fun _ => hst, Nat.le_succ _⟩
  by_cases h6 : l = wForg
  · rw [h6, one_forg]
    by_cases he : N.nameErr m ws[p + 1]? false = 0
    · rw [if_neg (by simpa using he)]
      have := name_lt he
      cases N.newest m ((ws[p + 1]?).getD []) with
      | none => exact ⟨fun h => (by cases h), fun h => (by cases h), fun _ => hst, Nat.le_succ _⟩
      | some k =>
        have hln : (N.forgets m k).all.length = m.all.length := N.forgets_len m k
        exact ⟨fun _ => by simp only; omega, fun _ => this, fun _ => hst, by simp only; omega⟩
    · rw [if_pos he]
      exact ⟨fun h => (he h).elim, fun h => (he h).elim, fun _ => hst, Nat.le_succ _⟩
  rw [one_rest m ws p l h1 h2 h3 h4 h5 h6]
  cases L.isBold l with
  | true => exact ⟨fun h => (by cases h), fun h => (by cases h), fun _ => hst, Nat.le_succ _⟩
  | false =>
    rw [if_neg (by simp)]
    cases N.meaning m l with
    | none => exact ⟨fun h => (by cases h), fun h => (by cases h), fun _ => hst, Nat.le_succ _⟩
    | some c =>
      have hs := N.cellDoes_steps N.fuel m 0 c
      have hln : (N.cellDoes N.fuel m 0 c).1.all.length = m.all.length := N.cellDoes_len N.fuel m 0 c
      exact ⟨fun _ => Nat.lt_succ_self _, fun _ => hp, fun h => hs.2 h hst, by simp only; omega⟩
end Go.Proofs.YtgnlokmeohffaaaGreatDoor
/- all, at whatever run: the line is done as the document's machine does it. -/
namespace Go.Proofs.YtgnlokmeohffaaaGreatDoor
open Go.RowKit

theorem runs_step (m : N.Mach) (ws : List N.Txt) (f p : Nat) (l : N.Txt) (hl : ws[p]? = some l) : N.runs (f + 1) m ws p =
    if (stepOne m ws p l).2.1 ≠ 0 then ({ (stepOne m ws p l).1 with S := [], R := [] }, (stepOne m ws p l).2.1, (stepOne m ws p l).2.2.1) else N.runs f (stepOne m ws p l).1 ws (stepOne m ws p l).2.2.2 := by
  rw [N.runs, hl]
  unfold stepOne
  by_cases h : 1000 ≤ m.steps
  · have h2 : 1000 < m.steps + 1 := by omega
    simp only [if_pos h, if_pos h2]
    rfl
  · have h2 : ¬ 1000 < m.steps + 1 := by omega
    simp only [if_neg h, if_neg h2]

theorem run_far {w : World} {mb rb ab : Nat} {vO vB vW vS vR vT : Value} {s : L.RunS} (h : RunAt w mb rb vO vB vW vS vR vT s) {c : Array Value} (ha : w.heap[ab]? = some (Obj.cells c 36)) : ∀ k, Foot mb rb vS vR vT k ∨ vW.ownBlock = some k → k ≠ ab := by
  rintro k ((rfl | rfl | e | e | e) | e)
  · exact ne_of_type h.m ha (by decide)
  · exact ne_of_type h.r ha (by decide)
  · exact fun x => own_ne_of_type h.st ha (by decide) (x ▸ e)
  · exact fun x => own_ne_of_type h.asd ha (by decide) (x ▸ e)
  · exact fun x => own_ne_of_type h.ot ha (by decide) (x ▸ e)
  · exact fun x => own_ne_of_type h.wd ha (by decide) (x ▸ e)
theorem own_far {w : World} {ab k : Nat} {c : Array Value} (ha : w.heap[ab]? = some (Obj.cells c 36)) (hk : OBlock w k) : k ≠ ab := by
  rintro rfl
  obtain ⟨cs, t, fr, hc, ht⟩ := hk
  rw [ha] at hc
  injection hc with hc
  injection hc with _ hc _
  subst hc
  revert ht
  decide
/-- A line has come to its end, or stopped. -/
def Ended (mb rb : Nat) (vO vW vS vR vT : Value) (wv : List Own) (m : N.Mach) (w w' : World) : Prop :=
  ∃ vO' vB' v1 v2 v3 wv' s', RunAt w' mb rb vO' vB' vW v1 v2 v3 s' ∧ OwnAt w' m.all wv' vO' vB' ∧ Mv (FootN mb rb vO vS vR vT wv) w w' ∧ Fresh w (FootN mb rb vO vS vR vT wv) (FootN mb rb vO' v1 v2 v3 wv') ∧ s'.S = m.S ∧ s'.R = m.R ∧ s'.out = m.out

/-- What holds at the head of the loop. -/
def InvA (w0 : World) (mb rb : Nat) (vO vW vS vR vT : Value) (wv : List Own) (s : L.RunS) (n0 : Nat) (res : N.Mach × Int × Nat) (wr : World) : Prop :=
  ∃ f vO' vB' v1 v2 v3 wv' s' all', Ready wr mb rb vO' vB' vW v1 v2 v3 wv' s' all' ∧ Mv (FootN mb rb vO vS vR vT wv) w0 wr ∧ Fresh w0 (FootN mb rb vO vS vR vT wv) (FootN mb rb vO' v1 v2 v3 wv') ∧ s'.words = s.words ∧ s'.depth = 0 ∧ s'.pos ≤ s.words.length ∧ all'.length ≤ n0 + s'.pos ∧ s.words.length - s'.pos < f ∧ N.runs f (toM s' all') s.words s'.pos = res

theorem all_any (hS : StepLaw) (hT : StopLaw) (w : World) (mb rb : Nat) (vO vB vW vS vR vT : Value) (wv : List Own) (s : L.RunS) (all : List N.Ent) (h : Ready w mb rb vO vB vW vS vR vT wv s all) (hw : WordsOk s) (hold : all.length + 1000 ≤ 1000000000000) (hd : s.depth = 0) (hp : s.pos ≤ s.words.length) :
    Calls Tryz.prog 27 #[.pointer (some ⟨rb, 0, none⟩)] w fun r w' => ∃ v, r = .returned v ∧ v = .agg #[.string ⟨(N.runs (s.words.length + 1) (toM s all) s.words s.pos).1.out.toArray⟩, .int .i64 (N.runs (s.words.length + 1) (toM s all) s.words s.pos).2.1, .int .i64 ((N.runs (s.words.length + 1) (toM s all) s.words s.pos).2.2 : Int)] ∧
      Ended mb rb vO vW vS vR vT wv (N.runs (s.words.length + 1) (toM s all) s.words s.pos).1 w w' := by
  generalize hres : N.runs (s.words.length + 1) (toM s all) s.words s.pos = res
  obtain ⟨aW, capW, rfl, _, _⟩ := owns_slice h.run.wd
  have hwl := h.run.wl
  have hb0 : Below w.heap.size w (w.alloc (Obj.cells #[Value.string ⟨#[]⟩, Value.int .i64 0, Value.int .i64 0] 36)) := (Below.refl _ _).alloc (Nat.le_refl _) _
  have hnew : (w.alloc (Obj.cells #[Value.string ⟨#[]⟩, Value.int .i64 0, Value.int .i64 0] 36)).heap[w.heap.size]? = some (Obj.cells #[Value.string ⟨#[]⟩, Value.int .i64 0, Value.int .i64 0] 36) := heap_alloc_new w _
  refine all_walk w rb s.words.length capW aW (InvA (w.alloc (Obj.cells #[Value.string ⟨#[]⟩, Value.int .i64 0, Value.int .i64 0] 36)) mb rb vO _ vS vR vT wv s (all.length) res) (fun wr => s.words.length + 1 - placeAt wr rb) _ hwl
    ⟨s.words.length + 1, vO, vB, vS, vR, vT, wv, s, all, h.below hb0, Mv.refl _ _, Fresh.refl _ _, rfl, hd, hp, Nat.le_add_right _ _, by omega, hres⟩ (hide fun wr hI => ?_)
  generalize (w.alloc (Obj.cells #[Value.string ⟨#[]⟩, Value.int .i64 0, Value.int .i64 0] 36)) = w0 at *
  obtain ⟨f, vO', vB', v1, v2, v3, wv', s', all', hR, hmv, hfr, hws, hdp, hps, hln, hfu, hrun⟩ := hI
  have hab : wr.heap[w.heap.size]? = some (Obj.cells #[Value.string ⟨#[]⟩, Value.int .i64 0, Value.int .i64 0] 36) := (hmv.block _ (heap_lt hnew) fun x => by have := footN_lt h x; omega).trans hnew
  obtain ⟨aT, cT, rfl, _, _⟩ := owns_slice hR.run.ot
  have htab0 : TabOk w0 := tabIs_of_block h.tab (hb0.block _ (tab_lt h.tab))
  have hw1 : Mv (FootN mb rb vO vS vR vT wv) w w0 := Mv.of_below hb0 _
  have c2 : wr.cell? ⟨rb, 2, none⟩ = some (.int .i64 (s'.pos : Int)) := cell_of_block hR.run.r rfl
  refine ⟨s'.pos, aT, s'.out.length, cT, ⟨s'.out.toArray⟩, by omega, ?_, c2, cell_of_block hR.run.r rfl, hab, ?_⟩
  · exact cell_of_block hR.run.r rfl
  obtain ⟨f', rfl⟩ : ∃ f', f = f' + 1 := ⟨f - 1, by omega⟩
  by_cases hlt : s'.pos < s.words.length
  case neg =>
    refine .inl ⟨hlt, RunAt.told (hR.run.below (Below.refl _ _).drew), fun W hW => ?_⟩
    have hnone : s.words[s'.pos]? = none := List.getElem?_eq_none (by omega)
    rw [N.runs, hnone] at hrun
    simp only at hrun
    rw [← hrun]
    refine ⟨rfl, vO', vB', v1, v2, _, wv', s', hR.run.kept fun k hk => hW.block k (hR.run.lt k hk) (run_far hR.run hab k hk), hR.own.kept fun k hk => hW.block k (oblock_lt hk) (own_far hab hk), ?_, (Fresh.refl _ _).trans hb0.size hfr, rfl, rfl, rfl⟩
    have h1 := hw1.trans (Fresh.refl _ _) hmv
    refine ⟨hW.os.trans h1.os, hW.tape.trans h1.tape, hW.output.trans h1.output, Nat.le_trans h1.size hW.size, fun k hk hn => (hW.block k (Nat.lt_of_lt_of_le hk h1.size) (show k ≠ w.heap.size by omega)).trans (h1.block k hk hn)⟩
  case pos =>
    refine .inr ⟨hlt, ?_⟩
    obtain ⟨l, hl⟩ : ∃ l, s.words[s'.pos]? = some l := ⟨_, List.getElem?_eq_getElem hlt⟩
    rw [runs_step _ _ _ _ l hl] at hrun
    have hstep := step_any hS hT wr.drew mb rb vO' vB' _ v1 v2 _ wv' s' all' l (hR.below (Below.refl _ _).drew) (by rw [hws]; exact hl) (fun t ht => hw t (by rw [← hws]; exact ht)) (by omega) hdp
    rw [hws] at hstep
    refine hstep.mono ?_
    rintro r w' ⟨rfl, vO2, vB2, x1, x2, x3, wv2, s2, g1, g2, g3, g4, g5, g6, g7, g8, g9⟩
    have hmd : Mv (FootN mb rb vO vS vR vT wv) w0 wr.drew := hmv.drew
    have hm2 := hmd.trans hfr g3
    have hf2 := hfr.trans hmd.size g4
    have hab2 : w'.heap[w.heap.size]? = some (Obj.cells #[Value.string ⟨#[]⟩, Value.int .i64 0, Value.int .i64 0] 36) := (hm2.block _ (heap_lt hnew) fun x => by have := footN_lt h x; omega).trans hnew
    refine ⟨_, rfl, ?_⟩
    generalize hq : stepOne (toM s' all') s.words s'.pos l = q at *
    by_cases hz : q.2.1 = 0
    · refine .inr ⟨hz, ?_⟩
      obtain ⟨e1, e2, e3⟩ := g9 hz
      have hok : OneOk (toM s' all') s.words s'.pos q := by
        rw [← hq]
        unfold stepOne
        by_cases hs : 1000 ≤ (toM s' all').steps
        · exfalso
          rw [← hq] at hz
          unfold stepOne at hz
          rw [if_pos hs] at hz
          cases hz
        · rw [if_neg hs]
          have := one_ok { toM s' all' with steps := (toM s' all').steps + 1 } s.words s'.pos l hlt (by simp only; omega)
          exact ⟨this.lo, this.hi, this.st, this.ln⟩
      have hlo := hok.lo hz
      have hhi := hok.hi hz
      have hst2 := hok.st hz
      have hln2 := hok.ln
      have hsp : s2.pos + 1 = q.2.2.2 := by
        rw [g6]
        unfold spot
        rw [if_pos hz]
        omega
      rw [if_neg (by simpa using hz)] at hrun
      have hmvp : Mv (Foot mb rb x1 x2 x3) w' (w'.setCell ⟨rb, 2, none⟩ (.int .i64 ((s2.pos : Int) + 1))) := Mv.setCell (T := Foot mb rb x1 x2 x3) (Mv.refl _ _) (.inl (.inr (.inl rfl))) _
      have hrn := g1.setPos (s2.pos + 1) (.int .i64 ((s2.pos : Int) + 1)) (by simp)
      have hmN : Mv (FootN mb rb vO vS vR vT wv) w0 (w'.setCell ⟨rb, 2, none⟩ (.int .i64 ((s2.pos : Int) + 1))) := hm2.setCell (.inl (.inl (.inr (.inl rfl)))) _
      refine ⟨s2.pos, by omega, cell_of_block g1.r rfl, frozen_of_block 2 g1.r, ⟨f', vO2, vB2, x1, x2, x3, wv2, _, q.1.all, ⟨hrn, g2.mv g1 hmvp, ?_, ?_, ?_, ?_⟩, hmN, hf2, g5.trans hws, g7.trans hdp, ?_, ?_, ?_, ?_⟩, ?_⟩
      · exact tab_next htab0 h.nof hmN
      · exact foot_next htab0 h.nof hf2
      · show s2.steps ≤ 1000
        omega
      · show s2.depth ≤ 12
        rw [g7, hdp]
        omega
      · show s2.pos + 1 ≤ _
        omega
      · show q.1.all.length ≤ all.length + (s2.pos + 1)
        have : (toM s' all').all.length = all'.length := rfl
        omega
      · show s.words.length - (s2.pos + 1) < f'
        omega
      · rw [← hrun]
        show N.runs f' ⟨q.1.all, s2.S, s2.R, s2.out, s2.steps⟩ s.words (s2.pos + 1) = _
        rw [e1, e2, e3, g8, hsp]
      · show s.words.length + 1 - placeAt _ rb < s.words.length + 1 - placeAt wr rb
        have p1 : placeAt wr rb = s'.pos := by unfold placeAt; rw [c2]; simp
        have p2 : placeAt (w'.setCell ⟨rb, 2, none⟩ (.int .i64 ((s2.pos : Int) + 1))) rb = s2.pos + 1 := by
          have : (w'.setCell ⟨rb, 2, none⟩ (.int .i64 ((s2.pos : Int) + 1))).cell? ⟨rb, 2, none⟩ = some (.int .i64 ((s2.pos : Int) + 1)) := cell_of_block (set_block g1.r 2 _) rfl
          unfold placeAt
          rw [this]
          simp only
          omega
        rw [p1, p2]
        omega
    · refine .inl ⟨hz, ?_⟩
      rw [if_pos hz] at hrun
      rw [← hrun]
      refine (fail_any w' mb rb vO2 vB2 _ x1 x2 x3 s2 q.2.1 g1).mono ?_
      rintro r w3 ⟨rfl, hr3, hm3⟩
      have hm3F : Mv (Foot mb rb x1 x2 x3) w' w3 := hm3.weaken fun k hk => .inl hk
      have hab3 : w3.heap[w.heap.size]? = some (Obj.cells #[Value.string ⟨#[]⟩, Value.int .i64 0, Value.int .i64 0] 36) := (hm3.block _ (heap_lt hab2) fun x => by have := heap_lt h.run.m; omega).trans hab2
      have ho3 := g2.mv g1 hm3F
      have hsp : s2.pos = q.2.2.1 := by
        rw [g6]
        unfold spot
        rw [if_neg hz]
      refine ⟨_, _, rfl, hab3, fun W hW => ⟨by rw [g8, hsp], vO2, vB2, _, _, x3, wv2, _, hr3.kept fun k hk => hW.block k (hr3.lt k hk) (run_far hr3 hab3 k hk), ho3.kept fun k hk => hW.block k (oblock_lt hk) (own_far hab3 hk), ?_, ?_, rfl, rfl, g8⟩⟩
      · have h1 : Mv (FootN mb rb vO vS vR vT wv) w w3 := (hw1.trans (Fresh.refl _ _) hm2).trans (Fresh.refl _ _) (hm3.weaken fun k hk => .inl (.inl hk))
        exact ⟨hW.os.trans h1.os, hW.tape.trans h1.tape, hW.output.trans h1.output, Nat.le_trans h1.size hW.size, fun k hk hn => (hW.block k (Nat.lt_of_lt_of_le hk h1.size) (show k ≠ w.heap.size by omega)).trans (h1.block k hk hn)⟩
      · intro k hk
        have hk2 : FootN mb rb vO2 x1 x2 x3 wv2 k := by
          rcases hk with (x | x | x | x | x) | x
          · exact .inl (.inl x)
          · exact .inl (.inr (.inl x))
          · simp [Value.ownBlock] at x
          · simp [Value.ownBlock] at x
          · exact .inl (.inr (.inr (.inr (.inr x))))
          · exact .inr x
        exact ((Fresh.refl _ _).trans hb0.size hf2) k hk2
end Go.Proofs.YtgnlokmeohffaaaGreatDoor
/- A region in which loads may be taken first though a call at its end writes their cells: that call waits for them. (Beside Derived.OrdersHeld: there S is asked behind every operation; here only ahead of operation number m.) -/
namespace Go.Proofs.YtgnlokmeohffaaaGreatDoor
open Go

section
variable {P : Program} {ops : Array Oper} {Q : Exit → Act → World → Prop} {md : Region.Mode} {S : World → Prop} {m : Nat}

/-- Whatever came up, what it waits for came up too. -/
def Clo (md : Region.Mode) (ops : Array Oper) (listed : Array Bool) : Prop := ∀ k ok, ops[k]? = some ok → listed.getD k false = true → ∀ e ∈ ok.after, Region.binds md e = true → listed.getD e.on false = true

theorem getD_false_true {listed : Array Bool} {k : Nat} (h : listed.getD k true = false) : listed.getD k false = false := by
  rcases Nat.lt_or_ge k listed.size with h' | h'
  · simp [h'] at h ⊢
    exact h
  · simp [Array.getElem?_eq_none h'] at h

theorem Clo.step {listed : Array Bool} {j : Nat} (h : Clo md ops listed) (hj : j ∈ Region.ready md ops listed) : Clo md ops (listed.setIfInBounds j true) := by
  intro k ok hk hl e he hb
  obtain ⟨_, o, ho, hall⟩ := mem_ready.1 hj
  by_cases hjk : j = k
  · subst hjk
    rw [ho] at hk
    injection hk with hk
    subst hk
    exact getD_set_true (hall e he hb)
  · rw [getD_set_ne false hjk] at hl
    exact getD_set_true (h k ok hk hl e he hb)

theorem Clo.none (n : Nat) : Clo md ops (Array.replicate n false) := by
  intro k ok _ hl
  exfalso
  rcases Nat.lt_or_ge k n with h' | h'
  · simp [h'] at hl
  · simp [h'] at hl

/-- Number m waits for number i, by way of others. -/
def leads (md : Region.Mode) (ops : Array Oper) : Nat → Nat → Nat → Bool
  | 0, _, _ => false
  | f + 1, m, i => match ops[m]? with
    | none => false
    | some o => o.after.any fun e => Region.binds md e && (e.on == i || leads md ops f e.on i)

theorem leads_spec {listed : Array Bool} (hc : Clo md ops listed) : ∀ (f m i : Nat), leads md ops f m i = true → (∀ o, ops[m]? = some o → ∀ e ∈ o.after, Region.binds md e = true → listed.getD e.on false = true) → listed.getD i false = true
  | 0, _, _, h, _ => by simp [leads] at h
  | f + 1, m, i, h, ha => by
    unfold leads at h
    cases ho : ops[m]? with
    | none => rw [ho] at h; cases h
    | some o =>
      rw [ho] at h
      obtain ⟨e, he, hb⟩ := Array.any_eq_true'.1 h
      simp only [Bool.and_eq_true, Bool.or_eq_true, beq_iff_eq] at hb
      have h1 := ha o ho e he hb.1
      rcases hb.2 with h2 | h2
      · rw [← h2]; exact h1
      · exact leads_spec hc f e.on i h2 fun o' ho' => hc e.on o' ho' h1

/-- Whatever order is picked from here on, and S holds behind every operation that comes up ahead of number m. -/
def wpAnyU (P : Program) (md : Region.Mode) (ops : Array Oper) (Q : Exit → Act → World → Prop) (S : World → Prop) (m : Nat) : Nat → Array Bool → Act → World → Prop
  | 0, _, _, _ => False
  | fuel + 1, listed, a, w => Region.ready md ops listed ≠ [] ∧
    ∀ i ∈ Region.ready md ops listed, (i = m → wpOp P ops Q i (wpAny P md ops Q fuel (listed.setIfInBounds i true)) a w) ∧
      (i ≠ m → wpOp P ops Q i (fun a' w' => S w' ∧ wpAnyU P md ops Q S m fuel (listed.setIfInBounds i true) a' w') a w)

theorem wpAny_of_until : ∀ (fuel : Nat) (listed : Array Bool) (a : Act) (w : World), wpAnyU P md ops Q S m fuel listed a w → wpAny P md ops Q fuel listed a w
  | 0, _, _, _, h => h.elim
  | fuel + 1, _, _, _, h => ⟨fun h0 => (h.1 h0).elim, fun i hi => by
    by_cases him : i = m
    · exact (h.2 i hi).1 him
    · exact wpOp_mono (fun a' w' h' => wpAny_of_until fuel _ a' w' h'.2) ((h.2 i hi).2 him)⟩

theorem wpAnyU_first {i f : Nat} {oi : Oper} {v : Value} (hi : ops[i]? = some oi) (hsel : ∀ (j : Nat) (o : Oper) cs b, ops[j]? = some o → o.op ≠ .select cs b) (hm : i ≠ m) (hlead : leads md ops f m i = true)
    (hQ : ∀ c a w, Q (.panic c) (a.put oi.dst v) w → Q (.panic c) a w) :
    ∀ (fuel : Nat) (listed : Array Bool) (a : Act) (w : World), Clo md ops listed →
      (∀ j oj, ops[j]? = some oj → j ≠ i → listed.getD j true = false → (∀ e ∈ oj.after, Region.binds md e = true → e.on ≠ i) → oi.apart ops oj = true) →
      i ∈ Region.ready md ops listed → YieldsIf P ops S oi v a → S w →
      wpAnyU P md ops Q S m fuel (listed.setIfInBounds i true) (a.put oi.dst v) w → wpAnyU P md ops Q S m (fuel + 1) listed a w := by
  intro fuel
  induction fuel with
  | zero => intro listed a w _ _ _ _ _ H; exact H.elim
  | succ fuel ih =>
    intro listed a w hclo hfree hr hy hS H
    have hun := getD_false_true (mem_ready.1 hr).1
    refine ⟨fun h => (by rw [h] at hr; cases hr), fun j hj => ⟨fun hjm => ?_, fun hjm => ?_⟩⟩
    · exfalso
      subst hjm
      obtain ⟨_, o, ho, hall⟩ := mem_ready.1 hj
      have := leads_spec hclo f j i hlead fun o' ho' => by
        rw [ho] at ho'
        injection ho' with ho'
        subst ho'
        exact hall
      rw [hun] at this
      cases this
    · by_cases hji : j = i
      · subst hji
        exact hy.wpOp hi hS ⟨hS, H⟩
      · have h1 := (H.2 j (ready_mono hj hji)).2 hjm
        obtain ⟨hjun, oj, hoj, hall⟩ := mem_ready.1 hj
        have hnot : ∀ e ∈ oj.after, Region.binds md e = true → e.on ≠ i := fun e he hb heq => by
          have h1 := hall e he hb
          rw [heq, hun] at h1
          cases h1
        have h2 := wpOp_putIf hoj (hfree j oj hoj hji hjun hnot) (fun cs b => hsel i oi cs b hi) (fun cs b => hsel j oj cs b hoj) hQ hy h1
        refine wpOp_mono (fun a' w' h3 => ⟨h3.2.1, ih (listed.setIfInBounds j true) a' w' (hclo.step hj) ?_ (ready_mono hr (Ne.symm hji)) h3.1 h3.2.1 ?_⟩) h2
        · intro k ok hk hki hun2 hno
          refine hfree k ok hk hki ?_ hno
          by_cases hjk : j = k
          · subst hjk; exact hjun
          · rw [getD_set_ne true hjk] at hun2; exact hun2
        · rw [Array.setIfInBounds_comm _ _ hji]
          exact h3.2.2

theorem wpAnyU_take {i : Nat} (f : Nat) {oi : Oper} {v : Value} {fuel : Nat} {listed : Array Bool} {a : Act} {w : World} (hi : ops[i]? = some oi)
    (hs : Region.noSelect ops = true) (hm : (i != m) = true) (hlead : leads md ops f m i = true) (hf : Region.free md ops listed i = true) (hr : (Region.ready md ops listed).contains i = true)
    (hQ : ∀ c a w, Q (.panic c) (a.put oi.dst v) w → Q (.panic c) a w) (hc : Clo md ops listed) (hy : YieldsIf P ops S oi v a) (hS : S w)
    (h : Clo md ops (listed.setIfInBounds i true) → wpAnyU P md ops Q S m fuel (listed.setIfInBounds i true) (a.put oi.dst v) w) : wpAnyU P md ops Q S m (fuel + 1) listed a w := by
  have hr' : i ∈ Region.ready md ops listed := by simpa using hr
  exact wpAnyU_first hi (Region.noSelect_spec hs) (by simpa using hm) hlead hQ fuel listed a w hc (Region.free_spec hi hf) hr' hy hS (h (hc.step hr'))

/-- Number m alone may come up. -/
theorem wpAnyU_then {fuel : Nat} {listed : Array Bool} {a : Act} {w : World} {o : Oper} (hr : Region.ready md ops listed = [m]) (ho : ops[m]? = some o)
    (h : ∀ K' : Act → World → Prop, Shut (∀ a w, wpAny P md ops Q fuel (listed.setIfInBounds m true) a w → K' a w) → if Region.wanted o (yielded ops a.tmps) = true then Oper.wp P o a w K' Q else K' (a.put o.dst undef) w) : wpAnyU P md ops Q S m (fuel + 1) listed a w := by
  refine ⟨by rw [hr]; simp, fun i hi => ?_⟩
  rw [hr] at hi
  have hi : i = m := by simpa using hi
  subst hi
  exact ⟨fun _ => wpOp_step ho (fun K' hK => h K' hK), fun x => (x rfl).elim⟩
/-- Another alone may come up. -/
theorem wpAnyU_one {i fuel : Nat} {listed : Array Bool} {a : Act} {w : World} {o : Oper} (hr : Region.ready md ops listed = [i]) (hm : (i != m) = true) (ho : ops[i]? = some o)
    (h : ∀ K' : Act → World → Prop, Shut (∀ a w, S w → wpAnyU P md ops Q S m fuel (listed.setIfInBounds i true) a w → K' a w) → if Region.wanted o (yielded ops a.tmps) = true then Oper.wp P o a w K' Q else K' (a.put o.dst undef) w) : wpAnyU P md ops Q S m (fuel + 1) listed a w := by
  refine ⟨by rw [hr]; simp, fun j hj => ?_⟩
  rw [hr] at hj
  have hj : j = i := by simpa using hj
  subst hj
  exact ⟨fun x => ((by simpa using hm : ¬ j = m) x).elim, fun _ => wpOp_step ho (fun K' hK => h K' (fun a w hS hW => hK a w ⟨hS, hW⟩))⟩

theorem wpAny_one {i fuel : Nat} {listed : Array Bool} {a : Act} {w : World} {o : Oper} (hr : Region.ready md ops listed = [i]) (ho : ops[i]? = some o)
    (h : ∀ K' : Act → World → Prop, Shut (∀ a w, wpAny P md ops Q fuel (listed.setIfInBounds i true) a w → K' a w) → if Region.wanted o (yielded ops a.tmps) = true then Oper.wp P o a w K' Q else K' (a.put o.dst undef) w) : wpAny P md ops Q (fuel + 1) listed a w :=
  wpAny_all hr (by simp) fun j hj => by
    have hj : j = i := by simpa using hj
    subst hj
    exact wpOp_step ho (fun K' hK => h K' hK)

theorem wp_region_until {id : Nat} {a : Act} {w : World} (hm : P.follows .mixedOrders = true)
    (h : Clo .any ops (Array.replicate ops.size false) → wpAnyU P .any ops Q S m ops.size (Array.replicate ops.size false) a w.drew) : (Code.region id ops true).wp P Q a w :=
  wp_region_any hm (wpAny_of_until _ _ _ _ (h (Clo.none _)))
end
end Go.Proofs.YtgnlokmeohffaaaGreatDoor
/- step's walk where the step counts: its region loads r.at, which do may change: Y0's law. (Written by tools/mkstep.py.) -/
namespace Go.Proofs.YtgnlokmeohffaaaGreatDoor
open Go.RowKit
attribute [local go_sem ↓] Go.wp_at_zero Go.wp_at_succ

set_option maxRecDepth 100000 in
set_option maxHeartbeats 1600000 in
theorem lstep_walk (w : World) (rb mb gW nW capW pos : Nat) (txt : ByteArray) (V : Value) (code : Int) (P : World → World → Prop) (Q : World → Prop) (hp : pos < nW)
    (H : Hid (Calls Tryz.prog 51 #[.pointer (some ⟨rb, 0, none⟩)] w fun r w' => r = .returned (.int .i64 0) ∧
      (w'.cell? ⟨rb, 0, none⟩ = some (.pointer (some ⟨mb, 0, none⟩)) ∧ w'.cell? ⟨rb, 1, none⟩ = some (.slice (some ⟨gW, 0, none⟩) nW capW) ∧ w'.cell? ⟨rb, 2, none⟩ = some (.int .i64 pos) ∧ w'.cell? ⟨gW, pos, none⟩ = some (.string txt)) ∧ Q w'))
    (HM : Hid (∀ w1 W, Q w1 → Below w1.heap.size w1 W → Calls Tryz.prog 53 #[.pointer (some ⟨mb, 0, none⟩), .string txt] W fun r w' => r = .returned V ∧ Below W.heap.size W w'))
    (HD : Hid (∀ w1 W, Q w1 → Below w1.heap.size w1 W → Calls Tryz.prog 52 #[.pointer (some ⟨rb, 0, none⟩), V] W fun r w' => r = .returned (.int .i64 code) ∧ P w1 w')) :
    Calls Tryz.prog 45 #[.pointer (some ⟨rb, 0, none⟩)] w fun r w' => r = .returned (.int .i64 code) ∧ ∃ w1, Q w1 ∧ P w1 w' := by
  have i1 : (0 : Int) ≤ (pos : Int) := by omega
  have i2 : (pos : Int) < (nW : Int) := by omega
  go_enter Tryz.func45, Tryz.ntmps45
  go_wp2_with fail
  refine (unhide H).mono ?_
  rintro e w1 ⟨rfl, ⟨c0, c1, c2, c3⟩, hQ⟩
  have HQ := hide hQ
  have hM := hide (unhide HM w1 w1.drew hQ (Below.refl _ _).drew)
  clear hQ
  go_wp2
  refine wp_region_until (m := 16) (S := fun w' : World => w'.cell? ⟨rb, 0, none⟩ = some (.pointer (some ⟨mb, 0, none⟩)) ∧ w'.cell? ⟨rb, 1, none⟩ = some (.slice (some ⟨gW, 0, none⟩) nW capW) ∧ w'.cell? ⟨rb, 2, none⟩ = some (.int .i64 pos) ∧ w'.cell? ⟨gW, pos, none⟩ = some (.string txt)) (by kernel_rfl) (fun hc => ?_)
  have hS : (fun w' : World => w'.cell? ⟨rb, 0, none⟩ = some (.pointer (some ⟨mb, 0, none⟩)) ∧ w'.cell? ⟨rb, 1, none⟩ = some (.slice (some ⟨gW, 0, none⟩) nW capW) ∧ w'.cell? ⟨rb, 2, none⟩ = some (.int .i64 pos) ∧ w'.cell? ⟨gW, pos, none⟩ = some (.string txt)) w1.drew := ⟨c0, c1, c2, c3⟩
  refine wpAnyU_take (i := 0) 20 (oi := { dst := some 9, op := Op.move (Operand.tmp 0), type := 87, pos := "run.go:37", after := #[], guard := none }) (v := .pointer (some ⟨rb, 0, none⟩)) rfl (by kernel_rfl) (by rfl) (by kernel_rfl) (by kernel_rfl) (by kernel_rfl) (fun _ _ _ h => h) hc (Or.inl ⟨by rfl, ?_⟩) hS (fun hc => ?_)
  · intro w hSw
    obtain ⟨s0, s1, s2, s3⟩ := hSw
    go_simp
  simp only [Act.put, List.setIfInBounds_toArray, List.set_cons_zero, List.set_cons_succ]
  refine wpAnyU_take (i := 1) 20 (oi := { dst := some 10, op := Op.move (Operand.tmp 0), type := 87, pos := "run.go:37", after := #[], guard := none }) (v := .pointer (some ⟨rb, 0, none⟩)) rfl (by kernel_rfl) (by rfl) (by kernel_rfl) (by kernel_rfl) (by kernel_rfl) (fun _ _ _ h => h) hc (Or.inl ⟨by rfl, ?_⟩) hS (fun hc => ?_)
  · intro w hSw
    obtain ⟨s0, s1, s2, s3⟩ := hSw
    go_simp
  simp only [Act.put, List.setIfInBounds_toArray, List.set_cons_zero, List.set_cons_succ]
  refine wpAnyU_take (i := 2) 20 (oi := { dst := some 11, op := Op.nilCheck (Operand.tmp 10), type := 0, pos := "run.go:37", after := #[{ on := 1, ground := Ground.data }], guard := none }) (v := .pointer (some ⟨rb, 0, none⟩)) rfl (by kernel_rfl) (by rfl) (by kernel_rfl) (by kernel_rfl) (by kernel_rfl) (fun _ _ _ h => h) hc (Or.inl ⟨by rfl, ?_⟩) hS (fun hc => ?_)
  · intro w hSw
    obtain ⟨s0, s1, s2, s3⟩ := hSw
    go_simp
  simp only [Act.put, List.setIfInBounds_toArray, List.set_cons_zero, List.set_cons_succ]
  refine wpAnyU_take (i := 3) 20 (oi := { dst := some 12, op := Op.fieldAddr 67 (Operand.tmp 11) 0, type := 0, pos := "run.go:37", after := #[{ on := 2, ground := Ground.data }], guard := none }) (v := .pointer (some ⟨rb, 0, none⟩)) rfl (by kernel_rfl) (by rfl) (by kernel_rfl) (by kernel_rfl) (by kernel_rfl) (fun _ _ _ h => h) hc (Or.inl ⟨by rfl, ?_⟩) hS (fun hc => ?_)
  · intro w hSw
    obtain ⟨s0, s1, s2, s3⟩ := hSw
    go_simp
  simp only [Act.put, List.setIfInBounds_toArray, List.set_cons_zero, List.set_cons_succ]
  refine wpAnyU_take (i := 4) 20 (oi := { dst := some 13, op := Op.load 27 (Operand.tmp 12), type := 27, pos := "run.go:37", after := #[{ on := 3, ground := Ground.data }], guard := none }) (v := .pointer (some ⟨mb, 0, none⟩)) rfl (by kernel_rfl) (by rfl) (by kernel_rfl) (by kernel_rfl) (by kernel_rfl) (fun _ _ _ h => h) hc (Or.inl ⟨by rfl, ?_⟩) hS (fun hc => ?_)
  · intro w hSw
    obtain ⟨s0, s1, s2, s3⟩ := hSw
    go_simp
  simp only [Act.put, List.setIfInBounds_toArray, List.set_cons_zero, List.set_cons_succ]
  refine wpAnyU_take (i := 5) 20 (oi := { dst := some 14, op := Op.move (Operand.tmp 0), type := 87, pos := "run.go:37", after := #[], guard := none }) (v := .pointer (some ⟨rb, 0, none⟩)) rfl (by kernel_rfl) (by rfl) (by kernel_rfl) (by kernel_rfl) (by kernel_rfl) (fun _ _ _ h => h) hc (Or.inl ⟨by rfl, ?_⟩) hS (fun hc => ?_)
  · intro w hSw
    obtain ⟨s0, s1, s2, s3⟩ := hSw
    go_simp
  simp only [Act.put, List.setIfInBounds_toArray, List.set_cons_zero, List.set_cons_succ]
  refine wpAnyU_take (i := 6) 20 (oi := { dst := some 15, op := Op.nilCheck (Operand.tmp 14), type := 0, pos := "run.go:37", after := #[{ on := 5, ground := Ground.data }], guard := none }) (v := .pointer (some ⟨rb, 0, none⟩)) rfl (by kernel_rfl) (by rfl) (by kernel_rfl) (by kernel_rfl) (by kernel_rfl) (fun _ _ _ h => h) hc (Or.inl ⟨by rfl, ?_⟩) hS (fun hc => ?_)
  · intro w hSw
    obtain ⟨s0, s1, s2, s3⟩ := hSw
    go_simp
  simp only [Act.put, List.setIfInBounds_toArray, List.set_cons_zero, List.set_cons_succ]
  refine wpAnyU_take (i := 7) 20 (oi := { dst := some 16, op := Op.fieldAddr 67 (Operand.tmp 15) 1, type := 0, pos := "run.go:37", after := #[{ on := 6, ground := Ground.data }], guard := none }) (v := .pointer (some ⟨rb, 1, none⟩)) rfl (by kernel_rfl) (by rfl) (by kernel_rfl) (by kernel_rfl) (by kernel_rfl) (fun _ _ _ h => h) hc (Or.inl ⟨by rfl, ?_⟩) hS (fun hc => ?_)
  · intro w hSw
    obtain ⟨s0, s1, s2, s3⟩ := hSw
    go_simp
  simp only [Act.put, List.setIfInBounds_toArray, List.set_cons_zero, List.set_cons_succ]
  refine wpAnyU_take (i := 8) 20 (oi := { dst := some 17, op := Op.load 23 (Operand.tmp 16), type := 23, pos := "run.go:37", after := #[{ on := 7, ground := Ground.data }], guard := none }) (v := .slice (some ⟨gW, 0, none⟩) nW capW) rfl (by kernel_rfl) (by rfl) (by kernel_rfl) (by kernel_rfl) (by kernel_rfl) (fun _ _ _ h => h) hc (Or.inl ⟨by rfl, ?_⟩) hS (fun hc => ?_)
  · intro w hSw
    obtain ⟨s0, s1, s2, s3⟩ := hSw
    go_simp
  simp only [Act.put, List.setIfInBounds_toArray, List.set_cons_zero, List.set_cons_succ]
  refine wpAnyU_take (i := 9) 20 (oi := { dst := some 18, op := Op.move (Operand.tmp 0), type := 87, pos := "run.go:37", after := #[], guard := none }) (v := .pointer (some ⟨rb, 0, none⟩)) rfl (by kernel_rfl) (by rfl) (by kernel_rfl) (by kernel_rfl) (by kernel_rfl) (fun _ _ _ h => h) hc (Or.inl ⟨by rfl, ?_⟩) hS (fun hc => ?_)
  · intro w hSw
    obtain ⟨s0, s1, s2, s3⟩ := hSw
    go_simp
  simp only [Act.put, List.setIfInBounds_toArray, List.set_cons_zero, List.set_cons_succ]
  refine wpAnyU_take (i := 10) 20 (oi := { dst := some 19, op := Op.nilCheck (Operand.tmp 18), type := 0, pos := "run.go:37", after := #[{ on := 9, ground := Ground.data }], guard := none }) (v := .pointer (some ⟨rb, 0, none⟩)) rfl (by kernel_rfl) (by rfl) (by kernel_rfl) (by kernel_rfl) (by kernel_rfl) (fun _ _ _ h => h) hc (Or.inl ⟨by rfl, ?_⟩) hS (fun hc => ?_)
  · intro w hSw
    obtain ⟨s0, s1, s2, s3⟩ := hSw
    go_simp
  simp only [Act.put, List.setIfInBounds_toArray, List.set_cons_zero, List.set_cons_succ]
  refine wpAnyU_take (i := 11) 20 (oi := { dst := some 20, op := Op.fieldAddr 67 (Operand.tmp 19) 2, type := 0, pos := "run.go:37", after := #[{ on := 10, ground := Ground.data }], guard := none }) (v := .pointer (some ⟨rb, 2, none⟩)) rfl (by kernel_rfl) (by rfl) (by kernel_rfl) (by kernel_rfl) (by kernel_rfl) (fun _ _ _ h => h) hc (Or.inl ⟨by rfl, ?_⟩) hS (fun hc => ?_)
  · intro w hSw
    obtain ⟨s0, s1, s2, s3⟩ := hSw
    go_simp
  simp only [Act.put, List.setIfInBounds_toArray, List.set_cons_zero, List.set_cons_succ]
  refine wpAnyU_take (i := 12) 20 (oi := { dst := some 21, op := Op.load 3 (Operand.tmp 20), type := 3, pos := "run.go:37", after := #[{ on := 11, ground := Ground.data }], guard := none }) (v := .int .i64 (pos : Int)) rfl (by kernel_rfl) (by rfl) (by kernel_rfl) (by kernel_rfl) (by kernel_rfl) (fun _ _ _ h => h) hc (Or.inl ⟨by rfl, ?_⟩) hS (fun hc => ?_)
  · intro w hSw
    obtain ⟨s0, s1, s2, s3⟩ := hSw
    go_simp
  simp only [Act.put, List.setIfInBounds_toArray, List.set_cons_zero, List.set_cons_succ]
  refine wpAnyU_take (i := 13) 20 (oi := { dst := some 22, op := Op.indexAddr 23 (Operand.tmp 17) (Operand.tmp 21), type := 0, pos := "run.go:37", after := #[{ on := 8, ground := Ground.data }, { on := 12, ground := Ground.data }], guard := none }) (v := .pointer (some ⟨gW, pos, none⟩)) rfl (by kernel_rfl) (by rfl) (by kernel_rfl) (by kernel_rfl) (by kernel_rfl) (fun _ _ _ h => h) hc (Or.inl ⟨by rfl, ?_⟩) hS (fun hc => ?_)
  · intro w hSw
    obtain ⟨s0, s1, s2, s3⟩ := hSw
    go_simp
  simp only [Act.put, List.setIfInBounds_toArray, List.set_cons_zero, List.set_cons_succ]
  refine wpAnyU_take (i := 14) 20 (oi := { dst := some 23, op := Op.load 9 (Operand.tmp 22), type := 9, pos := "run.go:37", after := #[{ on := 13, ground := Ground.data }], guard := none }) (v := .string txt) rfl (by kernel_rfl) (by rfl) (by kernel_rfl) (by kernel_rfl) (by kernel_rfl) (fun _ _ _ h => h) hc (Or.inl ⟨by rfl, ?_⟩) hS (fun hc => ?_)
  · intro w hSw
    obtain ⟨s0, s1, s2, s3⟩ := hSw
    go_simp
  simp only [Act.put, List.setIfInBounds_toArray, List.set_cons_zero, List.set_cons_succ]
  refine wpAnyU_one (i := 15) (o := { dst := some 24, op := Op.call { callee := Callee.value (Operand.func 53), args := #[Operand.tmp 13, Operand.tmp 23], argTypes := #[27, 9] }, type := 107, pos := "run.go:37", after := #[{ on := 4, ground := Ground.data }, { on := 14, ground := Ground.data }], guard := none }) (by kernel_rfl) (by rfl) rfl (fun K' hK => ?_)
  go_simp
  refine (unhide hM).mono ?_
  rintro e w2 ⟨rfl, hb⟩
  have hb2 : Below w1.heap.size w1 w2 := ⟨hb.os, hb.tape, hb.output, hb.size, hb.block⟩
  have d0 : w2.cell? ⟨rb, 0, none⟩ = some (.pointer (some ⟨mb, 0, none⟩)) := ((bcell hb2).1 rb 0 (block_lt c0)).trans c0
  have d1 : w2.cell? ⟨rb, 1, none⟩ = some (.slice (some ⟨gW, 0, none⟩) nW capW) := ((bcell hb2).1 rb 1 (block_lt c1)).trans c1
  have d2 : w2.cell? ⟨rb, 2, none⟩ = some (.int .i64 pos) := ((bcell hb2).1 rb 2 (block_lt c2)).trans c2
  have d3 : w2.cell? ⟨gW, pos, none⟩ = some (.string txt) := ((bcell hb2).1 gW pos (block_lt c3)).trans c3
  have hD := hide (unhide HD w1 w2 (unhide HQ) hb2)
  refine hK.out _ _ ⟨d0, d1, d2, d3⟩ ?_
  clear hK K'
  try simp only [Act.put, List.setIfInBounds_toArray, List.set_cons_zero, List.set_cons_succ]
  refine wpAnyU_then (o := { dst := some 25, op := Op.call { callee := Callee.value (Operand.func 52), args := #[Operand.tmp 9, Operand.tmp 24], argTypes := #[87, 107] }, type := 33, pos := "run.go:37", after := #[{ on := 0, ground := Ground.data }, { on := 15, ground := Ground.data }, { on := 15, ground := Ground.chain }], guard := none }) (by kernel_rfl) rfl (fun K' hK => ?_)
  go_simp
  refine (unhide hD).mono ?_
  rintro e w3 ⟨rfl, hP⟩
  have HP := hide hP
  clear hP
  refine hK.out _ _ ?_
  clear hK K'
  try simp only [Act.put, List.setIfInBounds_toArray, List.set_cons_zero, List.set_cons_succ]
  refine wpAny_one (i := 17) (o := { dst := some 2, op := Op.assign (Operand.tmp 25), type := 33, pos := "run.go:37", after := #[{ on := 16, ground := Ground.data }, { on := 16, ground := Ground.chain }, { on := 0, ground := Ground.phase }, { on := 1, ground := Ground.phase }, { on := 2, ground := Ground.phase }, { on := 3, ground := Ground.phase }, { on := 4, ground := Ground.phase }, { on := 5, ground := Ground.phase }, { on := 6, ground := Ground.phase }, { on := 7, ground := Ground.phase }, { on := 8, ground := Ground.phase }, { on := 9, ground := Ground.phase }, { on := 10, ground := Ground.phase }, { on := 11, ground := Ground.phase }, { on := 12, ground := Ground.phase }, { on := 13, ground := Ground.phase }, { on := 14, ground := Ground.phase }, { on := 15, ground := Ground.phase }, { on := 16, ground := Ground.phase }], guard := none }) (by kernel_rfl) rfl (fun K' hK => ?_)
  go_simp
  refine hK.out _ _ ?_
  clear hK K'
  try simp only [Act.put, List.setIfInBounds_toArray, List.set_cons_zero, List.set_cons_succ]
  refine wpAny_done (by kernel_rfl) ?_ _
  go_wp2
  go_ret
  exact ⟨rfl, w1, unhide HQ, unhide HP⟩
end Go.Proofs.YtgnlokmeohffaaaGreatDoor
/- step's walks: where the steps are used up; and where the step counts (Y1). -/
namespace Go.Proofs.YtgnlokmeohffaaaGreatDoor
open Go.RowKit
attribute [local go_sem ↓] Go.wp_at_zero Go.wp_at_succ

set_option maxRecDepth 100000 in
theorem lstep_stop (w : World) (rb : Nat) (code : Int) (hc : (code != 0) = true) (P : World → Prop)
    (H : Hid (Calls Tryz.prog 51 #[.pointer (some ⟨rb, 0, none⟩)] w fun r w' => r = .returned (.int .i64 code) ∧ P w')) :
    Calls Tryz.prog 45 #[.pointer (some ⟨rb, 0, none⟩)] w fun r w' => r = .returned (.int .i64 code) ∧ P w' := by
  go_enter Tryz.func45, Tryz.ntmps45
  go_wp2_with fail
  refine (unhide H).mono ?_
  rintro e w' ⟨rfl, hP⟩
  have HP := hide hP
  clear hP
  go_wp2
  go_ret
  exact ⟨rfl, unhide HP⟩

theorem stopLaw : StopLaw := fun w rb code hc P H => lstep_stop w rb code hc P H
theorem stepLaw : StepLaw := fun w rb mb gW nW capW pos txt V code P Q hp H HM HD => lstep_walk w rb mb gW nW capW pos txt V code P Q hp H HM HD
end Go.Proofs.YtgnlokmeohffaaaGreatDoor
/- Do, at whatever machine: what the document's machine does with a line. -/
namespace Go.Proofs.YtgnlokmeohffaaaGreatDoor
open Go.RowKit
attribute [local go_sem ↓] Go.wp_at_zero Go.wp_at_succ

/-- A machine in memory. -/
structure MachN (w : World) (mb : Nat) (vO vB vS vR : Value) (wv : List Own) (m : N.Mach) : Prop where
  mc : w.heap[mb]? = some (.cells #[vS, vR, vO, vB] 60)
  st : w.ownsRow 0 3 1 vS m.S.length (m.S.map (Value.int .i64))
  rt : w.ownsRow 0 3 1 vR m.R.length (m.R.map (Value.int .i64))
  ap : ∀ k, vS.ownBlock = some k → vR.ownBlock = some k → False
  sl : m.S.length ≤ 16
  rl : m.R.length ≤ 16
  si : ∀ x ∈ m.S, inI64 x
  ri : ∀ x ∈ m.R, inI64 x
  own : OwnAt w m.all wv vO vB

/-- The blocks of a machine that may turn. -/
def FootM (mb : Nat) (vO vS vR : Value) (wv : List Own) : Nat → Prop := fun k => k = mb ∨ vS.ownBlock = some k ∨ vR.ownBlock = some k ∨ VarIn wv k ∨ vO.ownBlock = some k

theorem MachN.kept {w w' : World} {mb : Nat} {vO vB vS vR : Value} {wv : List Own} {m : N.Mach} (h : MachN w mb vO vB vS vR wv m) (hk : ∀ k, FootM mb vO vS vR wv k ∨ OBlock w k → w'.heap[k]? = w.heap[k]?) : MachN w' mb vO vB vS vR wv m where
  mc := (hk mb (.inl (.inl rfl))).trans h.mc
  st := owns_kept h.st fun k e => hk k (.inl (.inr (.inl e)))
  rt := owns_kept h.rt fun k e => hk k (.inl (.inr (.inr (.inl e))))
  ap := h.ap
  sl := h.sl
  rl := h.rl
  si := h.si
  ri := h.ri
  own := h.own.kept fun k e => hk k (.inr e)
theorem MachN.lt {w : World} {mb : Nat} {vO vB vS vR : Value} {wv : List Own} {m : N.Mach} (h : MachN w mb vO vB vS vR wv m) : ∀ k, FootM mb vO vS vR wv k ∨ OBlock w k → k < w.heap.size := by
  rintro k ((rfl | e | e | e | e) | e)
  · exact heap_lt h.mc
  · exact (h.st.lt k e).2
  · exact (h.rt.lt k e).2
  · exact varIn_lt h.own e
  · exact (h.own.row.lt k e).2
  · exact oblock_lt e
theorem MachN.below {w w' : World} {mb : Nat} {vO vB vS vR : Value} {wv : List Own} {m : N.Mach} (h : MachN w mb vO vB vS vR wv m) (hb : Below w.heap.size w w') : MachN w' mb vO vB vS vR wv m := h.kept fun k hk => hb.block k (h.lt k hk)
theorem MachN.stay {w : World} {mb : Nat} {vO vB vS vR : Value} {wv : List Own} {m : N.Mach} (h : MachN w mb vO vB vS vR wv m) (out : N.Txt) (st : Nat) : MachN w mb vO vB vS vR wv { m with out := out, steps := st } := ⟨h.mc, h.st, h.rt, h.ap, h.sl, h.rl, h.si, h.ri, h.own⟩
/-- A machine, and the table of the library apart from it. -/
structure MachT (w : World) (mb : Nat) (vO vB vS vR : Value) (wv : List Own) (m : N.Mach) : Prop where
  n : MachN w mb vO vB vS vR wv m
  tab : TabOk w
  nof : ¬ FootM mb vO vS vR wv 3
theorem MachT.below {w w' : World} {mb : Nat} {vO vB vS vR : Value} {wv : List Own} {m : N.Mach} (h : MachT w mb vO vB vS vR wv m) (hb : Below w.heap.size w w') : MachT w' mb vO vB vS vR wv m := ⟨h.n.below hb, tabIs_of_block h.tab (hb.block _ (tab_lt h.tab)), h.nof⟩

/-- A machine goes on to where the document's does. -/
def DoesTo (mb : Nat) (vO vS vR : Value) (wv : List Own) (m' : N.Mach) (w w' : World) : Prop :=
  ∃ vO' vB' v1 v2 wv', MachT w' mb vO' vB' v1 v2 wv' m' ∧ Mv (FootM mb vO vS vR wv) w w' ∧ Fresh w (FootM mb vO vS vR wv) (FootM mb vO' v1 v2 wv')
theorem DoesTo.stay {w w' : World} {mb : Nat} {vO vB vS vR : Value} {wv : List Own} {m : N.Mach} (h : MachT w mb vO vB vS vR wv m) (hb : Below w.heap.size w w') : DoesTo mb vO vS vR wv m w w' := ⟨vO, vB, vS, vR, wv, h.below hb, Mv.of_below hb _, Fresh.refl _ _⟩
/-- What a line answers, as a value. -/
def ansVal (r : N.Mach × N.Txt × Int × Nat) : Value := .agg #[.string ⟨r.2.1.toArray⟩, .int .i64 r.2.2.1, .int .i64 (r.2.2.2 : Int)]

theorem split_len (l : List UInt8) : ∀ cur, (L.splitGo l cur).length ≤ l.length + 1 := by
  induction l with
  | nil => intro cur; unfold L.splitGo; split <;> simp
  | cons c t ih =>
    intro cur
    unfold L.splitGo
    split
    · split
      · have := ih []; simp; omega
      · have := ih []; simp; omega
    · have := ih (cur ++ [c]); simp; omega
theorem split_len0 (l : List UInt8) : ∀ cur, cur ≠ [] ∨ (L.splitGo l cur).length ≤ l.length := by
  induction l with
  | nil => intro cur; cases cur <;> simp [L.splitGo]
  | cons c t ih =>
    intro cur
    cases cur with
    | cons a b => exact .inl (by simp)
    | nil =>
      right
      unfold L.splitGo
      split
      · rcases ih [] with h | h
        · exact (h rfl).elim
        · simp; omega
      · have := split_len t ([] ++ [c]); simp at this ⊢; omega
theorem split_small (l : List UInt8) : ∀ cur, ∀ t ∈ L.splitGo l cur, t ≠ [] ∧ t.length ≤ cur.length + l.length := by
  induction l with
  | nil =>
    intro cur t ht
    unfold L.splitGo at ht
    split at ht
    · simp at ht
    · rename_i hne
      have : t = cur := by simpa using ht
      subst this
      exact ⟨by simpa using hne, by simp⟩
  | cons c u ih =>
    intro cur t ht
    unfold L.splitGo at ht
    split at ht
    · split at ht
      · obtain ⟨h1, h2⟩ := ih [] t ht
        exact ⟨h1, by simp at h2 ⊢; omega⟩
      · rename_i hne
        rcases List.mem_cons.1 ht with rfl | ht
        · exact ⟨by simpa using hne, by simp⟩
        · obtain ⟨h1, h2⟩ := ih [] t ht
          exact ⟨h1, by simp at h2 ⊢; omega⟩
    · obtain ⟨h1, h2⟩ := ih _ t ht
      exact ⟨h1, by simp at h2 ⊢; omega⟩

set_option maxRecDepth 100000 in
theorem Do_long (w : World) (mb : Nat) (line : ByteArray) (hlen : ¬ line.size ≤ 500) :
    Calls Tryz.prog 15 #[.pointer (some ⟨mb, 0, none⟩), .string line] w fun r w' => r = .returned (.agg #[.string ⟨#[]⟩, .int .i64 1, .int .i64 0]) ∧ Below w.heap.size w w' := by
  have h1 : (500 : Int) < (line.size : Int) := by omega
  go_enter Tryz.func15, Tryz.ntmps15
  go_wp2
  have hnb := heap_alloc_new w (Obj.cells #[Value.string ⟨#[]⟩, Value.int .i64 1, Value.int .i64 0] 36)
  have b0 := cell_of_block (j := 0) hnb rfl
  have b1 := cell_of_block (j := 1) hnb rfl
  have b2 := cell_of_block (j := 2) hnb rfl
  refine bodyPost_ret (v := .agg #[.string ⟨#[]⟩, .int .i64 1, .int .i64 0]) (by simp [results, Tryz.results15, go_sem, b0, b1, b2]) rfl ⟨rfl, ?_⟩
  exact (Below.refl _ _).alloc (Nat.le_refl _) _

def start (m : N.Mach) (ws : List (List UInt8)) : L.RunS := ⟨m.S, m.R, ws, 0, 0, 0, []⟩

set_option maxRecDepth 100000 in
set_option maxHeartbeats 1600000 in
theorem Do_short (w : World) (mb : Nat) (vO vB vS vR : Value) (wv : List Own) (m : N.Mach) (line : ByteArray) (hm : MachT w mb vO vB vS vR wv m) (hold : m.all.length + 1000 ≤ 1000000000000) (hlen : line.size ≤ 500) :
    Calls Tryz.prog 15 #[.pointer (some ⟨mb, 0, none⟩), .string line] w fun r w' => r = .returned (ansVal (N.doLine m line.data.toList)) ∧ DoesTo mb vO vS vR wv (N.doLine m line.data.toList).1 w w' := by
  have hsz := Lib.size_eq line
  have hN : N.doLine m line.data.toList = ((N.runs ((L.split line.data.toList).length + 1) (toM (start m (L.split line.data.toList)) m.all) (L.split line.data.toList) 0).1, (N.runs ((L.split line.data.toList).length + 1) (toM (start m (L.split line.data.toList)) m.all) (L.split line.data.toList) 0).1.out, (N.runs ((L.split line.data.toList).length + 1) (toM (start m (L.split line.data.toList)) m.all) (L.split line.data.toList) 0).2) := by
    unfold N.doLine
    rw [if_neg (by omega)]
    rfl
  rw [hN]
  have hwl : (L.split line.data.toList).length ≤ 500 := by
    rcases split_len0 line.data.toList [] with h | h
    · exact (h rfl).elim
    · show (L.splitGo line.data.toList []).length ≤ 500
      omega
  have hwords : ∀ t ∈ L.split line.data.toList, t ≠ [] ∧ t.length ≤ 500 := fun t ht => by
    obtain ⟨h1, h2⟩ := split_small line.data.toList [] t ht
    exact ⟨h1, by simp at h2; omega⟩
  have HN := hide hN
  have Hm := hide hm
  have Hold := hide hold
  have Hwl := hide (And.intro hwl hwords)
  generalize hws : L.split line.data.toList = ws at *
  generalize hres : N.runs (ws.length + 1) (toM (start m ws) m.all) ws 0 = res at *
  clear hm hold hwl hwords hN hsz
  go_enter Tryz.func15, Tryz.ntmps15
  go_wp2_with fail
  have hb0 : Below w.heap.size w (w.alloc (Obj.cells #[Value.string ⟨#[]⟩, Value.int .i64 0, Value.int .i64 0] 36)) := (Below.refl _ _).alloc (Nat.le_refl _) _
  have hr0 : (w.alloc (Obj.cells #[Value.string ⟨#[]⟩, Value.int .i64 0, Value.int .i64 0] 36)).heap[w.heap.size]? = some (Obj.cells #[Value.string ⟨#[]⟩, Value.int .i64 0, Value.int .i64 0] 36) := heap_alloc_new w _
  generalize (w.alloc (Obj.cells #[Value.string ⟨#[]⟩, Value.int .i64 0, Value.int .i64 0] 36)) = w0 at *
  refine (words_any line _ (by omega)).mono ?_
  rintro e w1 ⟨vW, rfl, hown, hb1⟩
  rw [hws] at hown
  obtain ⟨aW, capW, hvW, _, _⟩ := owns_slice hown
  subst hvW
  have hmm := (unhide Hm).n
  have hlt0 : w.heap.size < w0.heap.size := heap_lt hr0
  have hlt1 := hb1.size
  have hbw1 : Below w.heap.size w w1 := hb0.trans (hb1.mono (Nat.le_of_lt hlt0))
  have hbW : Below w.heap.size w (w1.alloc (Obj.cells #[Value.pointer (some ⟨mb, 0, none⟩), Value.slice aW ws.length capW, Value.int .i64 0, Value.int .i64 0, Value.int .i64 0, Value.slice none 0 0] 67)) := hbw1.alloc (by omega) _
  have hltm := heap_lt hmm.mc
  have hwd : w1.ownsRow 0 9 1 (.slice aW ws.length capW) ws.length (ws.map wordCell) := by
    refine ⟨hown.1, ?_⟩
    rcases hown.2 with h | ⟨g, cap, cur, h1, _, h3⟩
    · exact .inl h
    · exact .inr ⟨g, cap, cur, h1, Nat.zero_le _, h3⟩
  have hmW := (unhide Hm).below hbW
  have hrun : RunAt (w1.alloc (Obj.cells #[Value.pointer (some ⟨mb, 0, none⟩), Value.slice aW ws.length capW, Value.int .i64 0, Value.int .i64 0, Value.int .i64 0, Value.slice none 0 0] 67)) mb w1.heap.size vO vB (.slice aW ws.length capW) vS vR (.slice none 0 0) (start m ws) := by
    refine ⟨hmW.n.mc, heap_alloc_new w1 _, hmW.n.st, hmW.n.rt, World.ownsRow_nil _ _ _ _, ?_, hmm.ap, hmm.sl, hmm.rl, by simp [start], (unhide Hwl).1, hmm.si, hmm.ri⟩
    exact owns_kept hwd fun k e => Below.heap_alloc _ _ _ (hwd.lt k e).2
  have hFW : ¬ FootN mb w1.heap.size vO vS vR (.slice none 0 0) wv 3 := by
    have htl := tab_lt (unhide Hm).tab
    have hnf := (unhide Hm).nof
    rintro ((h | h | h | h | h) | h | h)
    · exact hnf (.inl h)
    · omega
    · exact hnf (.inr (.inl h))
    · exact hnf (.inr (.inr (.inl h)))
    · simp [Value.ownBlock] at h
    · exact hnf (.inr (.inr (.inr (.inl h))))
    · exact hnf (.inr (.inr (.inr (.inr h))))
  have hready : Ready _ mb w1.heap.size vO vB (.slice aW ws.length capW) vS vR (.slice none 0 0) wv (start m ws) m.all := ⟨hrun, hmW.n.own, hmW.tab, hFW, Nat.zero_le _, Nat.zero_le _⟩
  have hall := all_any stepLaw stopLaw _ mb w1.heap.size vO vB _ vS vR (.slice none 0 0) wv (start m ws) m.all hready (unhide Hwl).2 (unhide Hold) rfl (Nat.zero_le _)
  rw [show (start m ws).words = ws from rfl, show (start m ws).pos = 0 from rfl, hres] at hall
  have hrb : (w1.alloc (Obj.cells #[Value.pointer (some ⟨mb, 0, none⟩), Value.slice aW ws.length capW, Value.int .i64 0, Value.int .i64 0, Value.int .i64 0, Value.slice none 0 0] 67)).heap[w.heap.size]? = some (Obj.cells #[Value.string ⟨#[]⟩, Value.int .i64 0, Value.int .i64 0] 36) := (Below.heap_alloc _ _ _ (by omega)).trans ((hb1.block _ hlt0).trans hr0)
  have HA := hide hall
  have HRB := hide hrb
  have HBW := hide hbW
  have HRd := hide hready
  have Hl := hide (And.intro hlt0 hlt1)
  clear hall hrb hbW hrun hlt0 hlt1 hmm hwd hFW hbw1 hb1 hb0 hr0 hown hltm hready hmW
  go_wp2_with fail
  refine (unhide HA).mono ?_
  rintro e w3 ⟨_, rfl, rfl, hend⟩
  generalize (w1.alloc (Obj.cells #[Value.pointer (some ⟨mb, 0, none⟩), Value.slice aW ws.length capW, Value.int .i64 0, Value.int .i64 0, Value.int .i64 0, Value.slice none 0 0] 67)) = W at *
  have hltW : w.heap.size < W.heap.size := heap_lt (unhide HRB)
  have hnF : ¬ FootN mb w1.heap.size vO vS vR (.slice none 0 0) wv w.heap.size := by
    have hl := unhide Hl
    have hmm := (unhide Hm).n
    rintro ((h | h | h | h | h) | h | h)
    · have := heap_lt hmm.mc; omega
    · omega
    · have := (hmm.st.lt _ h).2; omega
    · have := (hmm.rt.lt _ h).2; omega
    · simp [Value.ownBlock] at h
    · have := varIn_lt hmm.own h; omega
    · have := (hmm.own.row.lt _ h).2; omega
  have hb3 : w3.heap[w.heap.size]? = some (Obj.cells #[Value.string ⟨#[]⟩, Value.int .i64 0, Value.int .i64 0] 36) := by
    obtain ⟨_, _, _, _, _, _, _, _, _, hm3, _⟩ := hend
    exact (hm3.block _ hltW hnF).trans (unhide HRB)
  have b0 : w3.cell? ⟨w.heap.size, 0, none⟩ = some (.string ⟨#[]⟩) := cell_of_block hb3 rfl
  have b1 : w3.cell? ⟨w.heap.size, 1, none⟩ = some (.int .i64 0) := cell_of_block hb3 rfl
  have b2 : w3.cell? ⟨w.heap.size, 2, none⟩ = some (.int .i64 0) := cell_of_block hb3 rfl
  have g0 : w3.frozen? ⟨w.heap.size, 0, none⟩ = false := frozen_of_block 0 hb3
  have g1 : w3.frozen? ⟨w.heap.size, 1, none⟩ = false := frozen_of_block 1 hb3
  have g2 : w3.frozen? ⟨w.heap.size, 2, none⟩ = false := frozen_of_block 2 hb3
  have H3 := hide (And.intro hend hb3)
  clear hend hb3
  go_wp2
  refine bodyPost_ret (v := ansVal (res.1, res.1.out, res.2)) (by simp [ansVal, results, Tryz.results15, go_sem, b0, b1, b2]) rfl ⟨rfl, ?_⟩
  obtain ⟨⟨vO', vB', x1, x2, x3, wv', s', hr3, ho3, hm3, hf3, e1, e2, _⟩, hb3⟩ := unhide H3
  have hoth : ∀ k, k ≠ w.heap.size → (((w3.setCell ⟨w.heap.size, 0, none⟩ (.string ⟨res.1.out.toArray⟩)).setCell ⟨w.heap.size, 1, none⟩ (.int .i64 res.2.1)).setCell ⟨w.heap.size, 2, none⟩ (.int .i64 (res.2.2 : Int))).heap[k]? = w3.heap[k]? := fun k hne =>
    (Below.heap_setCell _ _ _ _ hne).trans ((Below.heap_setCell _ _ _ _ hne).trans (Below.heap_setCell _ _ _ _ hne))
  have hk : ∀ k, FootN mb w1.heap.size vO' x1 x2 x3 wv' k → k ≠ w.heap.size := fun k hk e => by
    rcases hf3 k hk with h | h
    · exact hnF (e ▸ h)
    · omega
  have hob : ∀ k, OBlock w3 k → k ≠ w.heap.size := fun k ⟨cs, t, fr, hc, ht⟩ e => by
    rw [e, hb3] at hc
    injection hc with hc
    injection hc with _ hc _
    subst hc
    revert ht
    decide
  have hb := unhide HBW
  have hl := unhide Hl
  have hmv : Mv (FootM mb vO vS vR wv) w w3 := ⟨hm3.os.trans hb.os, hm3.tape.trans hb.tape, hm3.output.trans hb.output, Nat.le_trans hb.size hm3.size, fun k hk hn => (hm3.block k (by omega) (by
    rintro ((h | h | h | h | h) | h | h)
    · exact hn (.inl h)
    · omega
    · exact hn (.inr (.inl h))
    · exact hn (.inr (.inr (.inl h)))
    · simp [Value.ownBlock] at h
    · exact hn (.inr (.inr (.inr (.inl h))))
    · exact hn (.inr (.inr (.inr (.inr h)))))).trans (hb.block k hk)⟩
  have hmv2 : Mv (FootM mb vO vS vR wv) w (((w3.setCell ⟨w.heap.size, 0, none⟩ (.string ⟨res.1.out.toArray⟩)).setCell ⟨w.heap.size, 1, none⟩ (.int .i64 res.2.1)).setCell ⟨w.heap.size, 2, none⟩ (.int .i64 (res.2.2 : Int))) :=
    ((hmv.setCell (.inr (Nat.le_refl _)) _).setCell (.inr (Nat.le_refl _)) _).setCell (.inr (Nat.le_refl _)) _
  have hfr : Fresh w (FootM mb vO vS vR wv) (FootM mb vO' x1 x2 wv') := by
    intro k hk
    have hk' : FootN mb w1.heap.size vO' x1 x2 x3 wv' k := by
      rcases hk with h | h | h | h | h
      · exact .inl (.inl h)
      · exact .inl (.inr (.inr (.inl h)))
      · exact .inl (.inr (.inr (.inr (.inl h))))
      · exact .inr (.inl h)
      · exact .inr (.inr h)
    rcases hf3 k hk' with ((h | h | h | h | h) | h | h) | h
    · exact .inl (.inl h)
    · exact .inr (by omega)
    · exact .inl (.inr (.inl h))
    · exact .inl (.inr (.inr (.inl h)))
    · simp [Value.ownBlock] at h
    · exact .inl (.inr (.inr (.inr (.inl h))))
    · exact .inl (.inr (.inr (.inr (.inr h))))
    · exact .inr (by omega)
  have htl := tab_lt (unhide Hm).tab
  have hnf := (unhide Hm).nof
  refine ⟨vO', vB', x1, x2, wv', ⟨⟨?_, ?_, ?_, hr3.ap, ?_, ?_, ?_, ?_, ?_⟩, ?_, ?_⟩, hmv2, hfr⟩
  · exact (hoth mb (hk mb (.inl (.inl rfl)))).trans hr3.m
  · show World.ownsRow _ _ _ _ _ res.1.S.length _
    rw [← e1]
    exact owns_kept hr3.st fun k e => hoth k (hk k (.inl (.inr (.inr (.inl e)))))
  · show World.ownsRow _ _ _ _ _ res.1.R.length _
    rw [← e2]
    exact owns_kept hr3.asd fun k e => hoth k (hk k (.inl (.inr (.inr (.inr (.inl e))))))
  · show res.1.S.length ≤ 16
    rw [← e1]; exact hr3.sl
  · show res.1.R.length ≤ 16
    rw [← e2]; exact hr3.rl
  · show ∀ x ∈ res.1.S, inI64 x
    rw [← e1]; exact hr3.si
  · show ∀ x ∈ res.1.R, inI64 x
    rw [← e2]; exact hr3.ri
  · exact ho3.kept fun k h => hoth k (hob k h)
  · exact tabIs_of_block (unhide Hm).tab (hmv2.block _ htl hnf)
  · intro h
    rcases hfr _ h with h | h
    · exact hnf h
    · omega

theorem Do_any (w : World) (mb : Nat) (vO vB vS vR : Value) (wv : List Own) (m : N.Mach) (line : ByteArray) (hm : MachT w mb vO vB vS vR wv m) (hold : m.all.length + 1000 ≤ 1000000000000) :
    Calls Tryz.prog 15 #[.pointer (some ⟨mb, 0, none⟩), .string line] w fun r w' => r = .returned (ansVal (N.doLine m line.data.toList)) ∧ DoesTo mb vO vS vR wv (N.doLine m line.data.toList).1 w w' := by
  by_cases hlen : line.size ≤ 500
  · exact Do_short w mb vO vB vS vR wv m line hm hold hlen
  · have hsz := Lib.size_eq line
    have hN : N.doLine m line.data.toList = (m, [], 1, 0) := by
      unfold N.doLine
      rw [if_pos (by omega)]
    rw [hN]
    exact (Do_long w mb line hlen).mono fun r w' hh => ⟨hh.1, DoesTo.stay hm hh.2⟩
end Go.Proofs.YtgnlokmeohffaaaGreatDoor
/- New and Stack. -/
namespace Go.Proofs.YtgnlokmeohffaaaGreatDoor
open Go.RowKit

theorem new_any (w : World) :
    Calls Tryz.prog 25 #[] w fun r w' => r = .returned (.pointer (some ⟨w.heap.size, 0, none⟩)) ∧ w' = w.alloc (.cells #[.slice none 0 0, .slice none 0 0, .slice none 0 0, .int .i64 0] 60) := by
  go_enter Tryz.func25, Tryz.ntmps25
  go_wp2
  go_ret
  exact ⟨rfl, rfl⟩

/-- Stack: a list of its own. -/
theorem stack_any (w : World) (mb n : Nat) (vS : Value) (S : List Int) (h0 : w.cell? ⟨mb, 0, none⟩ = some vS) (hs : w.ownsRow 0 3 1 vS n (S.map (Value.int .i64))) (hn : n ≤ 16) :
    Calls Tryz.prog 16 #[.pointer (some ⟨mb, 0, none⟩)] w fun r w' => ∃ v, r = .returned v ∧ w'.ownsRow w.heap.size 3 1 v n (S.map (Value.int .i64)) ∧ Below w.heap.size w w' := by
  have hl : S.length = n := by simpa using hs.1
  rcases hs.2 with ⟨rfl, rfl⟩ | ⟨g, cap, cur, rfl, hg⟩
  · have HS := hide hl
    clear hl hs
    go_enter Tryz.func16, Tryz.ntmps16
    go_wp2_with fail
    refine (Tryz.slices_Clone_int_nil 0 0 _).mono ?_
    rintro e w' ⟨rfl, rfl⟩
    go_wp2
    go_ret
    refine ⟨_, rfl, ?_, Below.refl _ _⟩
    rw [List.length_eq_zero_iff.1 (unhide HS)]
    exact World.ownsRow_nil _ _ _ _
  · have hc : ∀ j, j < S.length → w.cell? ⟨g, 0 + j, none⟩ = some (.int .i64 (S.getD j 0)) := fun j hj => by
      have := hs.cells (g := g) rfl j (.int .i64 S[j]) (by rw [List.getElem?_map, List.getElem?_eq_getElem hj]; rfl)
      rw [add_lit] at this
      rw [this, List.getD_eq_getElem?_getD, List.getElem?_eq_getElem hj]
      rfl
    have HC := hide hc
    have HS := hide hl
    clear hc hl hs hg
    go_enter Tryz.func16, Tryz.ntmps16
    go_wp2_with fail
    refine (Tryz.slices_Clone_int g 0 n cap S _ (by rw [unhide HS]; exact Nat.le_refl _) (by omega) (unhide HC)).mono ?_
    rintro e w' ⟨v', rfl, ho, _, hb⟩
    have HO := hide ho
    have HB := hide hb
    clear ho hb
    go_wp2
    go_ret
    refine ⟨v', rfl, ?_, unhide HB⟩
    have := unhide HO
    rwa [List.take_of_length_le (by rw [unhide HS]; exact Nat.le_refl _)] at this
end Go.Proofs.YtgnlokmeohffaaaGreatDoor
/- Machines beside one another: what one does leaves the other as it was. New. -/
namespace Go.Proofs.YtgnlokmeohffaaaGreatDoor
open Go.RowKit

/-- A block that definitions lie in. -/
def DBlock (w : World) (k : Nat) : Prop := ∃ cs t fr, w.heap[k]? = some (.cells cs t fr) ∧ (t = 180 ∨ t = 107)
theorem EntAt.kept2 {w w' : World} {wv : List Own} {j : Nat} {e : N.Ent} {o : Own} (h : EntAt w wv j e o) (ho : wv[j]? = some o) (hv : ∀ k, VarIn wv k → w'.heap[k]? = w.heap[k]?) (hd : ∀ k, DBlock w k → w'.heap[k]? = w.heap[k]?) : EntAt w' wv j e o := by
  cases o with
  | defn b =>
    obtain ⟨h0, vB, body, h1, h2, h3⟩ := h
    refine ⟨h0, vB, body, (hd b ⟨_, _, _, h1, .inl rfl⟩).trans h1, owns_kept h2 fun k e => hd k ?_, h3⟩
    obtain ⟨cur, hc⟩ := owns_block h2 e
    exact ⟨cur, _, _, hc, .inr rfl⟩
  | vari b => exact ⟨h.1, h.2.1, (hv b ⟨j, ho⟩).trans h.2.2⟩
  | cons nm t n => exact h
  | mark nm t => exact h
theorem OwnAt.kept2 {w w' : World} {all : List N.Ent} {wv : List Own} {vO vB : Value} (h : OwnAt w all wv vO vB) (hr : ∀ k, vO.ownBlock = some k → w'.heap[k]? = w.heap[k]?) (hv : ∀ k, VarIn wv k → w'.heap[k]? = w.heap[k]?) (hd : ∀ k, DBlock w k → w'.heap[k]? = w.heap[k]?) : OwnAt w' all wv vO vB where
  len := h.len
  begun := h.begun
  row := owns_kept h.row hr
  ent := fun j e o h1 h2 h3 => (h.ent j e o h1 h2 h3).kept2 h2 hv hd
  ok := h.ok
  few := h.few
  apart := h.apart
  old := h.old
  und := h.und
/-- A machine's own blocks are none that definitions lie in. -/
theorem MachN.foot_not {w : World} {mb : Nat} {vO vB vS vR : Value} {wv : List Own} {m : N.Mach} (h : MachN w mb vO vB vS vR wv m) {k : Nat} (hk : DBlock w k) : ¬ FootM mb vO vS vR wv k := by
  obtain ⟨cs, t, fr, hc, ht⟩ := hk
  have key : ∀ {cs' : Array Value} {t' : TypeId} {fr' : Nat × Nat}, w.heap[k]? = some (.cells cs' t' fr') → t' = t := fun h' => by
    rw [hc] at h'
    injection h' with h'
    injection h' with _ h' _
    exact h'.symm
  rintro (rfl | e | e | e | e)
  · have := key h.mc
    subst this
    revert ht
    decide
  · obtain ⟨_, h'⟩ := owns_block h.st e
    have := key h'
    subst this
    revert ht
    decide
  · obtain ⟨_, h'⟩ := owns_block h.rt e
    have := key h'
    subst this
    revert ht
    decide
  · obtain ⟨j, hj⟩ := e
    obtain ⟨en, he, hen⟩ := h.own.und j k hj
    have := h.own.ent j en _ he hj hen
    have := key this.2.2
    subst this
    revert ht
    decide
  · obtain ⟨_, h'⟩ := owns_block h.own.row e
    have := key h'
    subst this
    revert ht
    decide

/-- A machine in memory, and the blocks of it that may turn. -/
def Has (w : World) (mb : Nat) (F : Nat → Prop) (m : N.Mach) : Prop := ∃ vO vB vS vR wv, MachT w mb vO vB vS vR wv m ∧ F = FootM mb vO vS vR wv
theorem Has.lt {w : World} {mb : Nat} {F : Nat → Prop} {m : N.Mach} (h : Has w mb F m) : ∀ k, F k → k < w.heap.size := by
  obtain ⟨_, _, _, _, _, h, rfl⟩ := h
  exact fun k hk => h.n.lt k (.inl hk)
theorem Has.tab {w : World} {mb : Nat} {F : Nat → Prop} {m : N.Mach} (h : Has w mb F m) : TabOk w ∧ ¬ F 3 := by
  obtain ⟨_, _, _, _, _, h, rfl⟩ := h
  exact ⟨h.tab, h.nof⟩
theorem Has.below {w w' : World} {mb : Nat} {F : Nat → Prop} {m : N.Mach} (h : Has w mb F m) (hb : Below w.heap.size w w') : Has w' mb F m := by
  obtain ⟨vO, vB, vS, vR, wv, h, rfl⟩ := h
  exact ⟨vO, vB, vS, vR, wv, h.below hb, rfl⟩
theorem Has.self {w : World} {mb : Nat} {F : Nat → Prop} {m : N.Mach} (h : Has w mb F m) : F mb := by
  obtain ⟨vO, vB, vS, vR, wv, _, rfl⟩ := h
  exact .inl rfl
theorem Has.tabAt {w w' : World} {mb : Nat} {F : Nat → Prop} {m : N.Mach} (h : Has w mb F m) (hm : Mv F w w') : TabOk w' := tabIs_of_block h.tab.1 (hm.block _ (tab_lt h.tab.1) h.tab.2)
/-- The one is left alone while the other turns. -/
theorem Has.apart {w w' : World} {mb nb : Nat} {F G : Nat → Prop} {m n : N.Mach} (h : Has w mb F m) (hn : Has w nb G n) (hd : ∀ k, F k → ¬ G k) (hm : Mv G w w') : Has w' mb F m := by
  have ht := hn.tabAt hm
  obtain ⟨vO, vB, vS, vR, wv, h, rfl⟩ := h
  obtain ⟨_, _, _, _, _, hn, rfl⟩ := hn
  have hk : ∀ k, FootM mb vO vS vR wv k → w'.heap[k]? = w.heap[k]? := fun k hk => hm.block k (h.n.lt k (.inl hk)) (hd k hk)
  refine ⟨vO, vB, vS, vR, wv, ⟨⟨?_, ?_, ?_, h.n.ap, h.n.sl, h.n.rl, h.n.si, h.n.ri, ?_⟩, ht, h.nof⟩, rfl⟩
  · exact (hk mb (.inl rfl)).trans h.n.mc
  · exact owns_kept h.n.st fun k e => hk k (.inr (.inl e))
  · exact owns_kept h.n.rt fun k e => hk k (.inr (.inr (.inl e)))
  · refine h.n.own.kept2 (fun k e => hk k (.inr (.inr (.inr (.inr e))))) (fun k e => hk k (.inr (.inr (.inr (.inl e))))) fun k e => hm.block k ?_ (hn.n.foot_not e)
    obtain ⟨_, _, _, hc, _⟩ := e
    exact heap_lt hc
/-- What turned is apart still. -/
theorem apart_next {w : World} {F G G' : Nat → Prop} (hF : ∀ k, F k → k < w.heap.size) (hd : ∀ k, F k → ¬ G k) (hf : Fresh w G G') : ∀ k, F k → ¬ G' k := fun k hk hg => by
  rcases hf k hg with h | h
  · exact hd k hk h
  · have := hF k hk; omega

/-- Do. -/
theorem Has.do {w : World} {mb : Nat} {F : Nat → Prop} {m : N.Mach} (h : Has w mb F m) (line : ByteArray) (hold : m.all.length + 1000 ≤ 1000000000000) :
    Calls Tryz.prog 15 #[.pointer (some ⟨mb, 0, none⟩), .string line] w fun r w' => r = .returned (ansVal (N.doLine m line.data.toList)) ∧ ∃ F', Has w' mb F' (N.doLine m line.data.toList).1 ∧ Mv F w w' ∧ Fresh w F F' := by
  obtain ⟨vO, vB, vS, vR, wv, h, rfl⟩ := h
  refine (Do_any w mb vO vB vS vR wv m line h hold).mono ?_
  rintro r w' ⟨rfl, vO', vB', v1, v2, wv', hm, hmv, hf⟩
  exact ⟨rfl, _, ⟨vO', vB', v1, v2, wv', hm, rfl⟩, hmv, hf⟩

/-- New: a machine of its own. -/
theorem new_has (w : World) (htab : TabOk w) : Calls Tryz.prog 25 #[] w fun r w' => r = .returned (.pointer (some ⟨w.heap.size, 0, none⟩)) ∧ Below w.heap.size w w' ∧ Has w' w.heap.size (fun k => k = w.heap.size) N.new := by
  refine (new_any w).mono ?_
  rintro r w' ⟨rfl, rfl⟩
  have hb : Below w.heap.size w (w.alloc (.cells #[.slice none 0 0, .slice none 0 0, .slice none 0 0, .int .i64 0] 60)) := (Below.refl _ _).alloc (Nat.le_refl _) _
  have htl := tab_lt htab
  refine ⟨rfl, hb, .slice none 0 0, .int .i64 0, .slice none 0 0, .slice none 0 0, [], ⟨⟨heap_alloc_new w _, World.ownsRow_nil _ _ _ _, World.ownsRow_nil _ _ _ _, fun k h _ => by simp [Value.ownBlock] at h, by simp [N.new], by simp [N.new], by simp [N.new], by simp [N.new], ?_⟩, tabIs_of_block htab (hb.block _ htl), ?_⟩, ?_⟩
  · exact ⟨rfl, rfl, World.ownsRow_nil _ _ _ _, fun j e o h => by simp [N.new] at h, fun j e h => by simp [N.new] at h, Nat.zero_le _, fun i j b h => by simp at h, Nat.zero_le _, fun j b h => by simp at h⟩
  · rintro (h | h | h | ⟨j, h⟩ | h)
    · omega
    · simp [Value.ownBlock] at h
    · simp [Value.ownBlock] at h
    · simp at h
    · simp [Value.ownBlock] at h
  · funext k
    apply propext
    constructor
    · intro h; exact .inl h
    · rintro (h | h | h | ⟨j, h⟩ | h)
      · exact h
      · simp [Value.ownBlock] at h
      · simp [Value.ownBlock] at h
      · simp at h
      · simp [Value.ownBlock] at h

/-- Stack. -/
theorem Has.stack {w : World} {mb : Nat} {F : Nat → Prop} {m : N.Mach} (h : Has w mb F m) : Calls Tryz.prog 16 #[.pointer (some ⟨mb, 0, none⟩)] w fun r w' => ∃ v, r = .returned v ∧ w'.ownsRow w.heap.size 3 1 v m.S.length (m.S.map (Value.int .i64)) ∧ Below w.heap.size w w' := by
  obtain ⟨vO, vB, vS, vR, wv, h, rfl⟩ := h
  exact stack_any w mb _ vS m.S (cell_of_block h.n.mc rfl) h.n.st h.n.sl
end Go.Proofs.YtgnlokmeohffaaaGreatDoor
/- What digits and pick answer, for every number. -/
namespace Go.Proofs.YtgnlokmeohffaaaGreatDoor
open Go.RowKit

set_option maxHeartbeats 400000 in
theorem digits_pos (n : Nat) (w : World) (h1 : (n : Int) ≤ 9223372036854775807) :
    Calls Tryz.prog 13 #[.int .i64 n] w fun e w' => e = .returned (.string (digStr n)) ∧ w' = w := by
  have hlt : ¬ ((n : Int) < 0) := by omega
  have hl : (Lib.decDigits n).length ≤ 19 := dec_len n (by omega)
  go_enter Tryz.func13, Tryz.ntmps13
  go_wp2
  go_loop [0, 3] (fun a b => ∃ (m : Nat) (s : List UInt8), a = .int .i64 m ∧ b = .string ⟨s.toArray⟩ ∧ m ≤ n ∧ s.length ≤ 19 ∧ Lib.decDigits n = Lib.decDigits m ++ s) (fun a _ => (intOf a).toNat)
  case atStart => exact ⟨n, [], rfl, rfl, Nat.le_refl _, by simp, by simp⟩
  case round =>
    obtain ⟨m, s, rfl, rfl, hm, hsl, hs⟩ := hrel
    have HS := hide hs
    clear hs
    by_cases hz : m / 10 = 0
    · have hb : ((m : Int) / 10 == 0) = true := by rw [beq_iff_eq]; omega
      clear hz
      go_wp2
      go_ret
      refine ⟨?_, rfl⟩
      have hz : m / 10 = 0 := by rw [beq_iff_eq] at hb; omega
      rw [digit_cons, digStr, unhide HS, dec_small hz]
      rfl
    · have hb : ((m : Int) / 10 == 0) = false := by rw [beq_eq_false_iff_ne]; omega
      have Hz := hide hz
      clear hz
      go_wp2
      refine ⟨⟨m / 10, UInt8.ofNat (48 + m % 10) :: s, by go_num, by rw [digit_cons], by omega, ?_, ?_⟩, ?_⟩
      · have h2 := congrArg List.length (unhide HS)
        rw [dec_big (unhide Hz)] at h2
        simp at h2 ⊢
        omega
      · rw [unhide HS, dec_big (unhide Hz)]; simp
      · have := unhide Hz
        simp [intOf]; omega

/-- digits, for every number. -/
theorem digits_any (n : Int) (w : World) (h0 : -9223372036854775808 ≤ n) (h1 : n ≤ 9223372036854775807) :
    Calls Tryz.prog 13 #[.int .i64 n] w fun e w' => e = .returned (.string (itoaStr n)) ∧ w' = w := by
  by_cases hn : 0 ≤ n
  · obtain ⟨k, rfl⟩ := Int.eq_ofNat_of_zero_le hn
    rw [itoaStr_nat]
    exact digits_pos k w h1
  · have hlt : n < 0 := by omega
    by_cases hm : -9223372036854775808 < n
    · obtain ⟨k, hk⟩ := Int.eq_ofNat_of_zero_le (show 0 ≤ -n by omega)
      have Hk := hide hk
      have hl : (Lib.decDigits k).length ≤ 19 := dec_len k (by omega)
      have hneg : itoaStr n = ⟨(45 :: Lib.decDigits k).toArray⟩ := by
        unfold itoaStr Lib.itoa
        rw [if_pos hlt, show n.natAbs = k by omega]
      have Hneg := hide hneg
      have hkle : (k : Int) ≤ 9223372036854775807 := by omega
      have Hkle := hide hkle
      clear hk hneg hkle
      go_enter Tryz.func13, Tryz.ntmps13
      go_wp2_with fail
      rw [unhide Hk]
      refine (digits_pos k _ (unhide Hkle)).mono ?_
      rintro e w' ⟨rfl, rfl⟩
      have hsz : (digStr k).size ≤ 19 := by rw [digStr_size]; exact hl
      go_wp2
      go_ret
      refine ⟨?_, rfl⟩
      rw [unhide Hneg, digStr, minus_cons]
      rfl
    · have hmin : n = -9223372036854775808 := by omega
      have hb : ¬ (-9223372036854775808 < n) := hm
      have hs : itoaStr n = ⟨#[45, 57, 50, 50, 51, 51, 55, 50, 48, 51, 54, 56, 53, 52, 55, 55, 53, 56, 48, 56]⟩ := by
        rw [hmin]; exact itoaStr_min
      have Hs := hide hs
      clear hmin hm hs
      go_enter Tryz.func13, Tryz.ntmps13
      go_wp2
      go_ret
      refine ⟨?_, rfl⟩
      rw [unhide Hs]
      rfl

/-- pick: from 0 up to n, at whatever number. -/
theorem pick_any (c n : Int) (w : World) (h0 : -9223372036854775808 ≤ c) (h1 : c ≤ 9223372036854775807) (hn : 0 < n) (hn1 : n ≤ 9223372036854775807) :
    Calls Tryz.prog 14 #[.int .i64 c, .int .i64 n] w fun e w' => e = .returned (.int .i64 ((if c < 0 then -(c + 1) else c) % n)) ∧ w' = w := by
  have hne : (n == 0) = false := by rw [beq_eq_false_iff_ne]; omega
  by_cases hc : c < 0
  · rw [if_pos hc]
    have hm : 0 ≤ -(c + 1) := by omega
    have hm2 : -(c + 1) ≤ 9223372036854775807 := by omega
    go_enter Tryz.func14, Tryz.ntmps14
    go_wp2
    go_ret
    exact ⟨ret_int (by rw [← Int.neg_tmod, Int.tmod_eq_emod_of_nonneg hm]), rfl⟩
  · rw [if_neg hc]
    go_enter Tryz.func14, Tryz.ntmps14
    go_wp2
    go_ret
    exact ⟨rfl, rfl⟩
end Go.Proofs.YtgnlokmeohffaaaGreatDoor
/- One machine, and two: lines that are done on them, and what lies below stays. -/
namespace Go.Proofs.YtgnlokmeohffaaaGreatDoor
open Go.RowKit

/-- A machine all of whose blocks that may turn lie from B on. -/
def Solo (B : Nat) (w : World) (mb : Nat) (m : N.Mach) : Prop := B ≤ w.heap.size ∧ ∃ F, Has w mb F m ∧ ∀ k, F k → B ≤ k
theorem Solo.below {B : Nat} {w w' : World} {mb : Nat} {m : N.Mach} (h : Solo B w mb m) (hb : Below w.heap.size w w') : Solo B w' mb m := by
  obtain ⟨h0, F, h, hF⟩ := h
  exact ⟨Nat.le_trans h0 hb.size, F, h.below hb, hF⟩
theorem Solo.tab {B : Nat} {w : World} {mb : Nat} {m : N.Mach} (h : Solo B w mb m) : TabOk w := by
  obtain ⟨_, F, h, _⟩ := h
  exact h.tab.1
theorem fresh_from {B : Nat} {w : World} {F F' : Nat → Prop} (hB : B ≤ w.heap.size) (hF : ∀ k, F k → B ≤ k) (hf : Fresh w F F') : ∀ k, F' k → B ≤ k := fun k hk => by
  rcases hf k hk with h | h
  · exact hF k h
  · omega
theorem Solo.do {B : Nat} {w : World} {mb : Nat} {m : N.Mach} (h : Solo B w mb m) (line : ByteArray) (hold : m.all.length + 1000 ≤ 1000000000000) :
    Calls Tryz.prog 15 #[.pointer (some ⟨mb, 0, none⟩), .string line] w fun r w' => r = .returned (ansVal (N.doLine m line.data.toList)) ∧ Solo B w' mb (N.doLine m line.data.toList).1 ∧ Below B w w' := by
  obtain ⟨h0, F, h, hF⟩ := h
  refine (h.do line hold).mono ?_
  rintro r w' ⟨rfl, F', h', hm, hf⟩
  exact ⟨rfl, ⟨Nat.le_trans h0 hm.size, F', h', fresh_from h0 hF hf⟩, hm.below hF h0⟩
theorem Solo.new {B : Nat} (w : World) (hB : B ≤ w.heap.size) (htab : TabOk w) : Calls Tryz.prog 25 #[] w fun r w' => r = .returned (.pointer (some ⟨w.heap.size, 0, none⟩)) ∧ Below w.heap.size w w' ∧ Solo B w' w.heap.size N.new := by
  refine (new_has w htab).mono ?_
  rintro r w' ⟨rfl, hb, h⟩
  exact ⟨rfl, hb, Nat.le_trans hB hb.size, _, h, fun k hk => by rw [hk]; exact hB⟩
theorem Solo.stack {B : Nat} {w : World} {mb : Nat} {m : N.Mach} (h : Solo B w mb m) : Calls Tryz.prog 16 #[.pointer (some ⟨mb, 0, none⟩)] w fun r w' => ∃ v, r = .returned v ∧ w'.ownsRow w.heap.size 3 1 v m.S.length (m.S.map (Value.int .i64)) ∧ Below w.heap.size w w' := by
  obtain ⟨_, F, h, _⟩ := h
  exact h.stack
theorem Solo.few {B : Nat} {w : World} {mb : Nat} {m : N.Mach} (h : Solo B w mb m) : m.S.length ≤ 16 ∧ m.R.length ≤ 16 := by
  obtain ⟨_, F, ⟨_, _, _, _, _, h, _⟩, _⟩ := h
  exact ⟨h.n.sl, h.n.rl⟩

set_option maxRecDepth 100000 in
theorem does_ok (w : World) (mb : Nat) (line out : ByteArray) (P : World → Prop)
    (H : Hid (Calls Tryz.prog 15 #[.pointer (some ⟨mb, 0, none⟩), .string line] w fun r w' => r = .returned (.agg #[.string out, .int .i64 0, .int .i64 0]) ∧ P w')) :
    Calls Tryz.prog 12 #[.pointer (some ⟨mb, 0, none⟩), .string line, .string out] w fun r w' => r = .returned (.bool true) ∧ ∃ W, P W ∧ Below W.heap.size W w' := by
  go_enter Tryz.func12, Tryz.ntmps12
  go_wp2_with fail
  refine (unhide H).mono ?_
  rintro e w1 ⟨rfl, hP⟩
  have HP := hide hP
  clear hP
  go_wp2
  go_ret
  exact ⟨rfl, w1, unhide HP, (Below.refl _ _).alloc (Nat.le_refl _) _⟩
theorem Solo.does {B : Nat} {w : World} {mb : Nat} {m m' : N.Mach} (h : Solo B w mb m) (line out : ByteArray) (hold : m.all.length + 1000 ≤ 1000000000000) (hl : N.doLine m line.data.toList = (m', out.data.toList, 0, 0)) :
    Calls Tryz.prog 12 #[.pointer (some ⟨mb, 0, none⟩), .string line, .string out] w fun r w' => r = .returned (.bool true) ∧ Solo B w' mb m' ∧ Below B w w' := by
  have h0 := h.1
  have hd := h.do line hold
  rw [hl] at hd
  refine (does_ok w mb line out (fun W => Solo B W mb m' ∧ Below B w W) (hide (hd.mono fun r w' hh => ⟨hh.1.trans ?_, hh.2⟩))).mono ?_
  · rfl
  · rintro r w' ⟨rfl, W, ⟨h1, h2⟩, hb⟩
    exact ⟨rfl, h1.below hb, h2.trans (hb.mono h1.1)⟩

/-- Two machines apart. -/
def Duo (B : Nat) (w : World) (mb nb : Nat) (m n : N.Mach) : Prop := B ≤ w.heap.size ∧ ∃ F G, Has w mb F m ∧ Has w nb G n ∧ (∀ k, F k → ¬ G k) ∧ (∀ k, F k → B ≤ k) ∧ ∀ k, G k → B ≤ k
theorem Duo.swap {B : Nat} {w : World} {mb nb : Nat} {m n : N.Mach} (h : Duo B w mb nb m n) : Duo B w nb mb n m := by
  obtain ⟨h0, F, G, h1, h2, h3, h4, h5⟩ := h
  exact ⟨h0, G, F, h2, h1, fun k hg hf => h3 k hf hg, h5, h4⟩
theorem Duo.below {B : Nat} {w w' : World} {mb nb : Nat} {m n : N.Mach} (h : Duo B w mb nb m n) (hb : Below w.heap.size w w') : Duo B w' mb nb m n := by
  obtain ⟨h0, F, G, h1, h2, h3⟩ := h
  exact ⟨Nat.le_trans h0 hb.size, F, G, h1.below hb, h2.below hb, h3⟩
theorem Duo.tab {B : Nat} {w : World} {mb nb : Nat} {m n : N.Mach} (h : Duo B w mb nb m n) : TabOk w := by
  obtain ⟨_, F, G, h, _⟩ := h
  exact h.tab.1
theorem Duo.left {B : Nat} {w : World} {mb nb : Nat} {m n : N.Mach} (h : Duo B w mb nb m n) : Solo B w mb m := by
  obtain ⟨h0, F, G, h1, h2, h3, h4, h5⟩ := h
  exact ⟨h0, F, h1, h4⟩
theorem Duo.do {B : Nat} {w : World} {mb nb : Nat} {m n : N.Mach} (h : Duo B w mb nb m n) (line : ByteArray) (hold : m.all.length + 1000 ≤ 1000000000000) :
    Calls Tryz.prog 15 #[.pointer (some ⟨mb, 0, none⟩), .string line] w fun r w' => r = .returned (ansVal (N.doLine m line.data.toList)) ∧ Duo B w' mb nb (N.doLine m line.data.toList).1 n ∧ Below B w w' := by
  obtain ⟨h0, F, G, h1, h2, h3, h4, h5⟩ := h
  refine (h1.do line hold).mono ?_
  rintro r w' ⟨rfl, F', h', hm, hf⟩
  have h3' := apart_next h2.lt (fun k hg hF => h3 k hF hg) hf
  exact ⟨rfl, ⟨Nat.le_trans h0 hm.size, F', G, h', h2.apart h1 (fun k hg hF => h3 k hF hg) hm, fun k hF hg => h3' k hg hF, fresh_from h0 h4 hf, h5⟩, hm.below h4 h0⟩
theorem Duo.does {B : Nat} {w : World} {mb nb : Nat} {m m' n : N.Mach} (h : Duo B w mb nb m n) (line out : ByteArray) (hold : m.all.length + 1000 ≤ 1000000000000) (hl : N.doLine m line.data.toList = (m', out.data.toList, 0, 0)) :
    Calls Tryz.prog 12 #[.pointer (some ⟨mb, 0, none⟩), .string line, .string out] w fun r w' => r = .returned (.bool true) ∧ Duo B w' mb nb m' n ∧ Below B w w' := by
  have hd := h.do line hold
  rw [hl] at hd
  refine (does_ok w mb line out (fun W => Duo B W mb nb m' n ∧ Below B w W) (hide (hd.mono fun r w' hh => ⟨hh.1.trans ?_, hh.2⟩))).mono ?_
  · rfl
  · rintro r w' ⟨rfl, W, ⟨h1, h2⟩, hb⟩
    exact ⟨rfl, h1.below hb, h2.trans (hb.mono h1.1)⟩
/-- One more machine beside one. -/
theorem Solo.two {B : Nat} {w : World} {mb : Nat} {m : N.Mach} (h : Solo B w mb m) : Calls Tryz.prog 25 #[] w fun r w' => r = .returned (.pointer (some ⟨w.heap.size, 0, none⟩)) ∧ Below w.heap.size w w' ∧ Duo B w' w.heap.size mb N.new m := by
  obtain ⟨h0, F, h, hF⟩ := h
  refine (new_has w h.tab.1).mono ?_
  rintro r w' ⟨rfl, hb, hn⟩
  exact ⟨rfl, hb, Nat.le_trans h0 hb.size, _, F, hn, h.below hb, fun k hk hf => by have := h.lt k hf; omega, fun k hk => by omega, hF⟩
end Go.Proofs.YtgnlokmeohffaaaGreatDoor
