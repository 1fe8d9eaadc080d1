/- Parts of the proof: see the last text. -/
import Derived.Test.YtgnlokmeohffaaaGreatDoorB6
/- What was made stays as it was made (but for a variable's number, and that it is forgotten), whatever is done. Of no program. -/
namespace Go.Proofs.YtgnlokmeohffaaaGreatDoor
namespace N
open Go.RowKit

def Alike (a b : Ent) : Prop := b.body = a.body ∧ b.ended = a.ended ∧ b.kind = a.kind ∧ b.name = a.name
def Kept (m m2 : Mach) : Prop := ∀ (j : Nat) (e : Ent), m.all[j]? = some e → ∃ e2, m2.all[j]? = some e2 ∧ Alike e e2
theorem Kept.of_all {m m2 : Mach} (h : m2.all = m.all) : Kept m m2 := fun _ e he => ⟨e, by rw [h]; exact he, rfl, rfl, rfl, rfl⟩
theorem Kept.trans {a b c : Mach} (h : Kept a b) (h2 : Kept b c) : Kept a c := fun j e he => by
  obtain ⟨e2, h1, k1, k2, k3, k4⟩ := h j e he
  obtain ⟨e3, h3, l1, l2, l3, l4⟩ := h2 j e2 h1
  exact ⟨e3, h3, l1.trans k1, l2.trans k2, l3.trans k3, l4.trans k4⟩

theorem push_all (m : Mach) (n : Int) : (push m n).1.all = m.all := by unfold push; split <;> rfl
theorem does_kept (m : Mach) (s : Txt) (l rest : List Int) : Kept m (does m s l rest) := by
  by_cases h : (s == [33]) = true
  · rw [beq_iff_eq] at h
    subst h
    intro j e he
    refine ⟨_, by show (m.all.modify (l.getD 1 0 - 1000).toNat fun e => { e with n := l.getD 0 0 })[j]? = _; rw [List.getElem?_modify, he]; rfl, ?_⟩
    show Alike e (if (l.getD 1 0 - 1000).toNat = j then { e with n := l.getD 0 0 } else e)
    split <;> exact ⟨rfl, rfl, rfl, rfl⟩
  · refine Kept.of_all ?_
    unfold does
    simp only [if_neg h]
    simp only [apply_ite Mach.all, ite_self]
theorem prim_kept (m : Mach) (s : Txt) : Kept m (prim m s).1 := by
  unfold prim
  simp only
  repeat' split
  all_goals first
    | exact Kept.of_all rfl
    | exact fun j e he => does_kept _ _ _ _ j e he
theorem pop_all {m m1 : Mach} {n : Int} (h : pop m = some (m1, n)) : m1.all = m.all := by
  unfold pop at h
  cases hl : m.S.getLast? with
  | none => rw [hl] at h; cases h
  | some x =>
    rw [hl] at h
    injection h with h
    injection h with h _
    rw [← h]
theorem ways_all (m : Mach) (l : List Cell) (a : Nat) (s : Txt) : (ways m l a s).1.all = m.all := by
  unfold ways
  split
  · cases hp : pop m with
    | none => rfl
    | some q =>
      obtain ⟨m1, n⟩ := q
      have := pop_all hp
      simp only
      repeat' split
      all_goals exact this
  · repeat' split
    all_goals rfl
theorem rounds_all (m : Mach) (l : List Cell) (a : Nat) (s : Txt) (r : List (Int × Int)) : (rounds m l a s r).1.all = m.all := by
  unfold rounds
  simp only
  repeat' split
  all_goals first
    | rfl
    | exact push_all _ _
theorem forgets_kept (m : Mach) (k : Nat) : Kept m (forgets m k) := fun j e he => by
  have hlt := (List.getElem?_eq_some_iff.1 he).1
  unfold forgets
  by_cases hj : j < k
  · refine ⟨e, ?_, rfl, rfl, rfl, rfl⟩
    show (m.all.take k ++ _)[j]? = some e
    rw [List.getElem?_append_left (by rw [List.length_take]; omega), List.getElem?_take, if_pos hj]
    exact he
  · refine ⟨{ e with gone := true }, ?_, rfl, rfl, rfl, rfl⟩
    show (m.all.take k ++ (m.all.drop k).map _)[j]? = _
    rw [List.getElem?_append_right (by rw [List.length_take]; omega), List.getElem?_map, List.getElem?_drop, List.length_take]
    have : k + (j - min k m.all.length) = j := by omega
    rw [this, he]
    rfl

theorem owns_kept_of {f : Nat} (hb : ∀ m k l d a r, Kept m (body f m k l d a r).1) (m : Mach) (j depth : Nat) : Kept m (owns f m j depth).1 := by
  unfold owns
  cases m.all[j]? with
  | none => exact Kept.of_all rfl
  | some e =>
    simp only
    split
    · exact Kept.of_all (push_all _ _)
    · split
      · exact Kept.of_all (push_all _ _)
      · split
        · exact forgets_kept _ _
        · split
          · exact Kept.of_all rfl
          · exact hb _ _ _ _ _ _
theorem onTo_kept {f : Nat} (hb : ∀ m k l d a r, Kept m (body f m k l d a r).1) {m : Mach} {p : Mach × Int} (hp : Kept m p.1) (k : Nat) (l : List Cell) (depth next : Nat) (r : List (Int × Int)) : Kept m (onTo f k l depth p next r).1 := by
  unfold onTo
  split
  · exact hp
  · exact hp.trans (hb _ _ _ _ _ _)
theorem cellDoes_kept_of {f : Nat} (hb : ∀ m k l d a r, Kept m (body f m k l d a r).1) (m : Mach) (depth : Nat) (c : Cell) : Kept m (cellDoes f m depth c).1 := by
  unfold cellDoes
  split
  · exact Kept.of_all (push_all _ _)
  · split
    · exact owns_kept_of hb _ _ _
    · cases (prim m c.name).2.2 with
      | none => exact prim_kept _ _
      | some j => exact (prim_kept m c.name).trans (owns_kept_of hb _ _ _)
theorem body_kept : ∀ f m k l d a r, Kept m (body f m k l d a r).1
  | 0, m, _, _, _, _, _ => Kept.of_all rfl
  | f + 1, m, k, l, d, a, r => by
    have hb := body_kept f
    have h0 : Kept m (stepped m) := Kept.of_all rfl
    cases hl : l[a]? with
    | none =>
      rw [body_none f m k l d a r hl]
      exact Kept.of_all rfl
    | some c =>
      by_cases hs : 1000 ≤ m.steps
      · rw [body_out f m k l d a r c hl hs]
        exact h0
      · by_cases hk : c.kind = 1 ∨ c.kind = 2 ∨ c.kind = 3
        · rw [body_cell f m k l d a r c hl hs hk]
          exact onTo_kept hb (h0.trans (cellDoes_kept_of hb _ _ _)) _ _ _ _ _
        · rw [body, hl]
          simp only [if_neg hs]
          rw [if_neg (show ¬ c.kind = 1 by omega), if_neg (show ¬ c.kind = 2 by omega), if_neg (show ¬ c.kind = 3 by omega)]
          split
          · exact h0
          · split
            · have := onTo_kept hb (h0.trans (owns_kept_of hb (stepped m) k d)) k l d (a + 1) r
              unfold onTo at this
              simp only [← owns_eq] at this
              exact this
            · split
              · exact onTo_kept hb (p := ((rounds (stepped m) l a c.name r).1, (rounds (stepped m) l a c.name r).2.2.2)) (h0.trans (Kept.of_all (rounds_all _ _ _ _ _))) _ _ _ _ _
              · exact onTo_kept hb (p := ((ways (stepped m) l a c.name).1, (ways (stepped m) l a c.name).2.2)) (h0.trans (Kept.of_all (ways_all _ _ _ _))) _ _ _ _ _
theorem owns_kept (f : Nat) (m : Mach) (j depth : Nat) : Kept m (owns f m j depth).1 := owns_kept_of (body_kept f) m j depth
theorem cellDoes_kept (f : Nat) (m : Mach) (depth : Nat) (c : Cell) : Kept m (cellDoes f m depth c).1 := cellDoes_kept_of (body_kept f) m depth c
end N
end Go.Proofs.YtgnlokmeohffaaaGreatDoor
/- A definition while it is done: what holds at the head of its loop, and what each word leaves. -/
namespace Go.Proofs.YtgnlokmeohffaaaGreatDoor
open Go.RowKit

/-- A definition that is being done. w0: the world in which it began; k: its place; l: its body; res: what the document's machine comes to; F: the fuel. -/
structure Ctx where
  mb : Nat
  rb : Nat
  cb : Nat
  b : Nat
  k : Nat
  F : Nat
  vO : Value
  vB : Value
  vW : Value
  vS : Value
  vR : Value
  vT : Value
  wv : List Own
  s1 : L.RunS
  l : List N.Cell
  res : N.Mach × Int
  w0 : World

def Ctx.Goes (C : Ctx) (m : N.Mach) (code : Int) (w : World) : Prop := GoesN C.mb C.rb C.vO C.vB C.vW C.vS C.vR C.vT C.wv C.s1 m code C.w0 w
def Ctx.At (C : Ctx) (pos : Nat) (r : List (Int × Int)) (w : World) : Prop := ∃ vL, CallAt w C.cb C.rb C.b pos vL r ∧ ∀ j, vL.ownBlock = some j → C.w0.heap.size ≤ j
def Ctx.Ent (C : Ctx) (m : N.Mach) : Prop := ∃ e, m.all[C.k]? = some e ∧ e.ended = true ∧ e.body = C.l
def Ctx.Inv (C : Ctx) (t : Nat) (w : World) : Prop := ∃ f m pos r, C.Goes m 0 w ∧ m.steps ≤ 1000 ∧ t ≤ m.steps ∧ C.At pos r w ∧ r.length ≤ m.steps ∧ (pos < C.l.length → (r.length : Int) = N.dc C.l pos) ∧ C.Ent m ∧ f ≤ C.F ∧ 1000 - m.steps < f ∧ N.body f m C.k C.l C.s1.depth pos r = C.res
def Ctx.Post (C : Ctx) (code : Int) (w : World) : Prop := code = C.res.2 ∧ C.Goes C.res.1 code w
def Ctx.Done (C : Ctx) (t : Nat) (code : Int) (w : World) : Prop := (code ≠ 0 ∧ C.Post code w) ∨ (code = 0 ∧ C.Inv t w)

structure Ctx.Ok (C : Ctx) : Prop where
  ready : ∃ all, Ready C.w0 C.mb C.rb C.vO C.vB C.vW C.vS C.vR C.vT C.wv C.s1 all
  hcb : C.w0.heap.size ≤ C.cb
  own : C.wv[C.k]? = some (Own.defn C.b)
  ih : ∀ f, f < C.F → DoesDef C.mb C.rb C.vB C.vW C.wv f

theorem kept_ent {C : Ctx} {m m2 : N.Mach} (h : C.Ent m) (hk : N.Kept m m2) : C.Ent m2 := by
  obtain ⟨e, h1, h2, h3⟩ := h
  obtain ⟨e2, k1, k2, k3, _⟩ := hk C.k e h1
  exact ⟨e2, k1, k3.trans h2, k2.trans h3⟩

/-- What a word left, with what goes on behind it. -/
theorem done_of {C : Ctx} {m0 m2 : N.Mach} {code : Int} {f next : Nat} {r : List (Int × Int)} {w : World} (hg : C.Goes m2 code w) (hres : N.onTo f C.k C.l C.s1.depth (m2, code) next r = C.res) (hs : N.StepsOk m0 (m2, code)) (hm : m0.steps ≤ 1000) (hk : N.Kept m0 m2) (he : C.Ent m0)
    (hf : f ≤ C.F) (hfu : 1000 - m0.steps < f) (hc : code = 0 → C.At next r w ∧ r.length ≤ m2.steps ∧ (next < C.l.length → (r.length : Int) = N.dc C.l next)) : C.Done m0.steps code w := by
  unfold N.onTo at hres
  by_cases hz : code = 0
  · subst hz
    have h1 := hs.1
    have h2 := hs.2 rfl hm
    obtain ⟨h3, h4, h5⟩ := hc rfl
    rw [if_neg (by simp)] at hres
    simp only at h1 h2
    exact .inr ⟨rfl, f, m2, next, r, hg, h2, h1, h3, h4, h5, kept_ent he hk, hf, by omega, hres⟩
  · rw [if_pos hz] at hres
    exact .inl ⟨hz, by rw [← hres], by rw [← hres]; exact hg⟩

theorem ready_off {w W : World} {mb rb : Nat} {vO vB vW vS vR vT : Value} {wv : List Own} {s : L.RunS} {all : List N.Ent} (h : Ready w mb rb vO vB vW vS vR vT wv s all) {D : Nat → Prop} (hD : ∀ k, D k → CBlock w k) (ht : ¬ D 3) (hm : Mv D w W) : Ready W mb rb vO vB vW vS vR vT wv s all := by
  refine ⟨h.run.kept fun k hk => hm.block k (h.run.lt k hk) fun hd => foot_not_call h.run (hD k hd) hk, h.own.kept fun k hk => hm.block k (oblock_lt hk) fun hd => own_not_call hk (hD k hd), ?_, h.nof, h.st, h.dp⟩
  exact tabIs_of_block h.tab (hm.block _ (tab_lt h.tab) ht)

theorem footN_not_call {w : World} {mb rb : Nat} {vO vB vW vS vR vT : Value} {wv : List Own} {s : L.RunS} {all : List N.Ent} (hr : RunAt w mb rb vO vB vW vS vR vT s) (ho : OwnAt w all wv vO vB) {k : Nat} (hk : CBlock w k) : ¬ FootN mb rb vO vS vR vT wv k := by
  rintro (h | h | h)
  · exact foot_not_call hr hk (.inl h)
  · exact own_not_call (var_block ho h) hk
  · exact own_not_call (owns_oblock ho.row (.inr rfl) h) hk

theorem call_mv {w W : World} {mb rb cb rb' b pos : Nat} {vO vB vW vS vR vT vL : Value} {wv : List Own} {s : L.RunS} {all : List N.Ent} {r : List (Int × Int)} (h : Ready w mb rb vO vB vW vS vR vT wv s all) (hc : CallAt w cb rb' b pos vL r) (hm : Mv (FootN mb rb vO vS vR vT wv) w W) : CallAt W cb rb' b pos vL r :=
  hc.kept fun k hk => hm.block k (cblock_lt (hc.block hk)) (footN_not_call h.run h.own (hc.block hk))

/-- Blocks of the definition's own that turn: the run has gone on to the same. -/
theorem goes_off {C : Ctx} (hO : C.Ok) {m : N.Mach} {code : Int} {w W : World} (h : C.Goes m code w) {D : Nat → Prop} (hD : ∀ k, D k → CBlock w k ∧ C.w0.heap.size ≤ k) (hm : Mv D w W) : C.Goes m code W := by
  obtain ⟨vO, v1, v2, v3, s', h1, h2, h3, h4, h5⟩ := h
  obtain ⟨all0, hr0⟩ := hO.ready
  refine ⟨vO, v1, v2, v3, s', h1.kept fun k hk => hm.block k (h1.lt k hk) fun hd => foot_not_call h1 (hD k hd).1 hk, h2.kept fun k hk => hm.block k (oblock_lt hk) fun hd => own_not_call hk (hD k hd).1, ?_, h4, h5⟩
  exact ⟨hm.os.trans h3.os, hm.tape.trans h3.tape, hm.output.trans h3.output, Nat.le_trans h3.size hm.size, fun k hk ht => (hm.block k (Nat.lt_of_lt_of_le hk h3.size) fun hd => by have := (hD k hd).2; omega).trans (h3.block k hk ht)⟩

/-- The run at hand, and what lies between. -/
theorem goes_open {C : Ctx} (hO : C.Ok) {m : N.Mach} {w : World} (h : C.Goes m 0 w) (hst : m.steps ≤ 1000) : ∃ vO v1 v2 v3, Ready w C.mb C.rb vO C.vB C.vW v1 v2 v3 C.wv (upd C.s1 m) m.all ∧ Mv (FootN C.mb C.rb C.vO C.vS C.vR C.vT C.wv) C.w0 w ∧ Fresh C.w0 (FootN C.mb C.rb C.vO C.vS C.vR C.vT C.wv) (FootN C.mb C.rb vO v1 v2 v3 C.wv) := by
  obtain ⟨all0, hr0⟩ := hO.ready
  exact GoesN.open hr0 h hst

theorem goes_trans {C : Ctx} {m m2 : N.Mach} {code : Int} {w W : World} {vO v1 v2 v3 : Value} (hm : Mv (FootN C.mb C.rb C.vO C.vS C.vR C.vT C.wv) C.w0 w) (hf : Fresh C.w0 (FootN C.mb C.rb C.vO C.vS C.vR C.vT C.wv) (FootN C.mb C.rb vO v1 v2 v3 C.wv))
    (h : GoesN C.mb C.rb vO C.vB C.vW v1 v2 v3 C.wv (upd C.s1 m) m2 code w W) : C.Goes m2 code W := GoesN.trans hm hf h

theorem at_mv {C : Ctx} {w W : World} {vO v1 v2 v3 : Value} {s : L.RunS} {all : List N.Ent} {pos : Nat} {r : List (Int × Int)} (h : Ready w C.mb C.rb vO C.vB C.vW v1 v2 v3 C.wv s all) (hc : C.At pos r w) (hm : Mv (FootN C.mb C.rb vO v1 v2 v3 C.wv) w W) : C.At pos r W := by
  obtain ⟨vL, h1, h2⟩ := hc
  exact ⟨vL, call_mv h h1 hm, h2⟩
theorem at_below {C : Ctx} {w W : World} {pos : Nat} {r : List (Int × Int)} (hc : C.At pos r w) (hb : Below w.heap.size w W) : C.At pos r W := by
  obtain ⟨vL, h1, h2⟩ := hc
  exact ⟨vL, h1.below hb, h2⟩
theorem goes_below {C : Ctx} {m : N.Mach} {code : Int} {w W : World} (h : C.Goes m code w) (hb : Below w.heap.size w W) : C.Goes m code W := by
  obtain ⟨vO, v1, v2, v3, s', h1, h2, h3, h4, h5⟩ := h
  exact ⟨vO, v1, v2, v3, s', h1.below hb, h2.below hb, h3.trans (Fresh.refl _ _) (Mv.of_below hb _), h4, h5⟩

/-- Where the definition goes on is set. -/
theorem call_jump {w : World} {cb rb b pos : Nat} {vL : Value} {r : List (Int × Int)} (h : CallAt w cb rb b pos vL r) (p : Nat) (u : Value) (hu : u = .int .i64 (p : Int)) : CallAt (w.setCell ⟨cb, 2, none⟩ u) cb rb b p vL r ∧ Mv (fun k => k = cb) w (w.setCell ⟨cb, 2, none⟩ u) := by
  subst hu
  refine ⟨⟨set_block h.c 2 _, ?_, h.li⟩, (Mv.refl (fun k => k = cb) w).setCell (p := ⟨cb, 2, none⟩) (.inl rfl) _⟩
  refine ownsz_kept h.l fun k e => Below.heap_setCell _ _ _ _ ?_
  rintro rfl
  obtain ⟨_, h'⟩ := ownsz_block h.l e
  have := typed_ne h.c h'
  revert this
  decide

theorem off_cb {C : Ctx} (hO : C.Ok) {w : World} {pos : Nat} {r : List (Int × Int)} (h : C.At pos r w) : ∀ k, k = C.cb → CBlock w k ∧ C.w0.heap.size ≤ k := by
  rintro k rfl
  obtain ⟨vL, h1, _⟩ := h
  exact ⟨h1.block (.inl rfl), hO.hcb⟩

/-- A jump, behind which the run is the same. -/
theorem jump {C : Ctx} (hO : C.Ok) {w : World} {m : N.Mach} {code : Int} {pos p : Nat} {r : List (Int × Int)} (hg : C.Goes m code w) (ha : C.At pos r w) (u : Value) (hu : u = .int .i64 (p : Int)) : C.Goes m code (w.setCell ⟨C.cb, 2, none⟩ u) ∧ C.At p r (w.setCell ⟨C.cb, 2, none⟩ u) := by
  obtain ⟨vL, h1, h2⟩ := ha
  obtain ⟨h3, h4⟩ := call_jump h1 p u hu
  exact ⟨goes_off hO hg (off_cb hO ⟨vL, h1, h2⟩) h4, vL, h3, h2⟩

/-- Numbers are taken. -/
theorem goes_taken {C : Ctx} (hO : C.Ok) {m : N.Mach} {w : World} (hg : C.Goes m 0 w) (hst : m.steps ≤ 1000) {pos : Nat} {r : List (Int × Int)} (ha : C.At pos r w) (k : Nat) (hk : 1 ≤ k) (hk2 : k ≤ 2) :
    Calls Tryz.prog 114 #[.pointer (some ⟨C.rb, 0, none⟩), .int .i64 k] w fun e w' =>
      if m.S.length < k then e = .returned (.tuple #[.slice none 0 0, .int .i64 6]) ∧ w' = w
      else ∃ g o c, e = .returned (.tuple #[.slice (some ⟨g, o, none⟩) k c, .int .i64 0]) ∧ (∀ j u, (m.S.drop (m.S.length - k))[j]? = some u → w'.cell? ⟨g, o + j, none⟩ = some (.int .i64 u)) ∧
        C.Goes { m with S := m.S.take (m.S.length - k) } 0 w' ∧ C.At pos r w' := by
  obtain ⟨vO, v1, v2, v3, hR, hm, hf⟩ := goes_open hO hg hst
  refine (take_any w C.mb C.rb k vO C.vB C.vW v1 v2 v3 (upd C.s1 m) hR.run hk hk2).mono ?_
  intro e w' h
  by_cases hlt : m.S.length < k
  · have hlt' : (upd C.s1 m).S.length < k := hlt
    rw [if_pos hlt'] at h
    rw [if_pos hlt]
    exact h
  · have hlt' : ¬ (upd C.s1 m).S.length < k := hlt
    rw [if_neg hlt'] at h
    rw [if_neg hlt]
    obtain ⟨g, o, c, x1, he, hcell, hr1, hm1, hf1⟩ := h
    refine ⟨g, o, c, he, hcell, ?_, at_mv hR ha (hm1.weaken fun k hk => .inl hk)⟩
    refine goes_trans (m := m) hm hf ⟨vO, x1, v2, v3, _, hr1, hR.own.mv hR.run hm1, hm1.weaken fun k hk => .inl hk, footN_fresh hf1, rfl, rfl, rfl, rfl, fun _ => ⟨rfl, rfl, rfl⟩⟩

theorem pop_some {m : N.Mach} {x : Int} (h : m.S.drop (m.S.length - 1) = [x]) : N.pop m = some ({ m with S := m.S.take (m.S.length - 1) }, x) := by
  have hS : m.S = m.S.take (m.S.length - 1) ++ [x] := by rw [← h, List.take_append_drop]
  unfold N.pop
  have hl : m.S.getLast? = some x := by
    rw [hS]
    simp
  rw [hl]
  simp only
  rw [List.dropLast_eq_take]
theorem pop_none {m : N.Mach} (h : m.S.length < 1) : N.pop m = none := by
  unfold N.pop
  have : m.S = [] := List.length_eq_zero_iff.1 (by omega)
  rw [this]
  rfl
end Go.Proofs.YtgnlokmeohffaaaGreatDoor
/- The bold words within a body: what each leaves is what the document's machine does. -/
namespace Go.Proofs.YtgnlokmeohffaaaGreatDoor
open Go.RowKit

theorem goes_code {C : Ctx} {m : N.Mach} {w : World} (code : Int) (h : C.Goes m 0 w) : C.Goes m code w := by
  obtain ⟨vO, v1, v2, v3, s', h1, h2, h3, h4, h5, h6, h7, h8, h9⟩ := h
  exact ⟨vO, v1, v2, v3, s', h1, h2, h3, h4, h5, h6, h7, h8, fun _ => h9 rfl⟩
theorem take_few {C : Ctx} (hO : C.Ok) {m : N.Mach} {w : World} (hg : C.Goes m 0 w) (hst : m.steps ≤ 1000) {pos : Nat} {r : List (Int × Int)} (ha : C.At pos r w) (k : Nat) (hk : 1 ≤ k) (hk2 : k ≤ 2) (h : m.S.length < k) :
    Calls Tryz.prog 114 #[.pointer (some ⟨C.rb, 0, none⟩), .int .i64 k] w fun e w' => e = .returned (.tuple #[.slice none 0 0, .int .i64 6]) ∧ w' = w := by
  have := goes_taken hO hg hst ha k hk hk2
  simp only [if_pos h] at this
  exact this
theorem take_got {C : Ctx} (hO : C.Ok) {m : N.Mach} {w : World} (hg : C.Goes m 0 w) (hst : m.steps ≤ 1000) {pos : Nat} {r : List (Int × Int)} (ha : C.At pos r w) (k : Nat) (hk : 1 ≤ k) (hk2 : k ≤ 2) (h : ¬ m.S.length < k) :
    Calls Tryz.prog 114 #[.pointer (some ⟨C.rb, 0, none⟩), .int .i64 k] w fun e w' => ∃ g o c, e = .returned (.tuple #[.slice (some ⟨g, o, none⟩) k c, .int .i64 0]) ∧ (∀ j u, (m.S.drop (m.S.length - k))[j]? = some u → w'.cell? ⟨g, o + j, none⟩ = some (.int .i64 u)) ∧
        C.Goes { m with S := m.S.take (m.S.length - k) } 0 w' ∧ C.At pos r w' := by
  have := goes_taken hO hg hst ha k hk hk2
  simp only [if_neg h] at this
  exact this

/-- A bold word of a body is come to: at's place is behind it already. -/
structure Mid (C : Ctx) (W : World) (m0 : N.Mach) (pos : Nat) (r : List (Int × Int)) (f : Nat) (b : List UInt8) (g : Nat) : Prop where
  ok : C.Ok
  go : C.Goes m0 0 W
  st : m0.steps ≤ 1000
  ca : C.At (pos + 1) r W
  rl : r.length + 1 ≤ m0.steps
  dp : (r.length : Int) = N.dc C.l pos
  ent : C.Ent m0
  hf : f < C.F
  fu : 1000 - m0.steps < f
  hc : ∃ n0, C.l[pos]? = some ⟨4, n0, b⟩
  hg : (N.fwd b || N.bwd b) = true → g = N.goal C.l pos b
  jk : N.JumpOk C.l pos b g
  len : C.l.length ≤ 60
  res : (if b == N.wExit then (m0, 0)
      else if b == N.wRecurse then N.onTo f C.k C.l C.s1.depth (N.owns f m0 C.k C.s1.depth) (pos + 1) r
      else if b == N.wDo || b == N.wLoop || b == N.wI || b == N.wLeave then N.onTo f C.k C.l C.s1.depth ((N.rounds m0 C.l pos b r).1, (N.rounds m0 C.l pos b r).2.2.2) (N.rounds m0 C.l pos b r).2.1 (N.rounds m0 C.l pos b r).2.2.1
      else N.onTo f C.k C.l C.s1.depth ((N.ways m0 C.l pos b).1, (N.ways m0 C.l pos b).2.2) (N.ways m0 C.l pos b).2.1 r) = C.res

/-- What control is to do. -/
def CtlDoes (C : Ctx) (W : World) (m0 : N.Mach) (b : List UInt8) (g : Nat) : Prop :=
  Calls Tryz.prog 122 #[.pointer (some ⟨C.cb, 0, none⟩), .agg #[.string ⟨b.toArray⟩, .int .i64 (g : Int)]] W fun e w' => ∃ code, e = .returned (.int .i64 code) ∧ C.Done m0.steps code w'

theorem at_cells {C : Ctx} {w : World} {pos : Nat} {r : List (Int × Int)} (h : C.At pos r w) : w.cell? ⟨C.cb, 0, none⟩ = some (.pointer (some ⟨C.rb, 0, none⟩)) ∧ w.cell? ⟨C.cb, 1, none⟩ = some (.pointer (some ⟨C.b, 0, none⟩)) ∧ w.cell? ⟨C.cb, 2, none⟩ = some (.int .i64 pos) ∧ w.frozen? ⟨C.cb, 2, none⟩ = false := by
  obtain ⟨vL, h1, _⟩ := h
  exact ⟨cell_of_block h1.c rfl, cell_of_block h1.c rfl, cell_of_block h1.c rfl, frozen_of_block 2 h1.c⟩

theorem dc_next {l : List N.Cell} {pos : Nat} {n0 : Int} {b : List UInt8} (h : l[pos]? = some ⟨4, n0, b⟩) (hd : (b == N.wDo) = false) (hl : (b == N.wLoop) = false) : N.dc l (pos + 1) = N.dc l pos := by
  rw [N.dc_succ h]
  unfold N.dOf
  simp only [if_true, hd, hl, Bool.false_eq_true, if_false]
  omega

/-- if, until, while. -/
theorem ways_test (m : N.Mach) (l : List N.Cell) (p : Nat) (b : List UInt8) (hb : b = N.wIf ∨ b = N.wUntil ∨ b = N.wWhile) :
    N.ways m l p b = match N.pop m with | none => (m, 0, 6) | some (m1, n) => if n = 0 then (m1, N.goal l p b, 0) else (m1, p + 1, 0) := by
  rcases hb with rfl | rfl | rfl
  all_goals
    unfold N.ways
    rw [if_pos (by decide)]
    cases N.pop m with
    | none => rfl
    | some q =>
      obtain ⟨m1, n⟩ := q
      simp only
      by_cases hn : n = 0
      · rw [if_pos hn, if_pos hn]
        rfl
      · rw [if_neg hn, if_neg hn]
theorem kept_S (m : N.Mach) (S : List Int) : N.Kept m { m with S := S } := N.Kept.of_all rfl

theorem test_any {C : Ctx} {W : World} {m0 : N.Mach} {pos : Nat} {r : List (Int × Int)} {f : Nat} {b : List UInt8} {g : Nat} (h : Mid C W m0 pos r f b g) (hb : b = N.wIf ∨ b = N.wUntil ∨ b = N.wWhile) (W' : World) (hbl : Below W.heap.size W W') :
    Calls Tryz.prog 129 #[.pointer (some ⟨C.cb, 0, none⟩), .int .i64 (g : Int)] W' fun e w' => e = .returned (.int .i64 (N.ways m0 C.l pos b).2.2) ∧ C.Done m0.steps (N.ways m0 C.l pos b).2.2 w' := by
  have hres : N.onTo f C.k C.l C.s1.depth ((N.ways m0 C.l pos b).1, (N.ways m0 C.l pos b).2.2) (N.ways m0 C.l pos b).2.1 r = C.res := by
    rw [← h.res]
    rcases hb with rfl | rfl | rfl <;> rfl
  rw [ways_test m0 C.l pos b hb] at hres ⊢
  have hgo := goes_below h.go hbl
  have hca := at_below h.ca hbl
  obtain ⟨c0, c1, c2, f2⟩ := at_cells hca
  obtain ⟨n0, hc⟩ := h.hc
  have hfb : (N.fwd b || N.bwd b) = true := by rcases hb with rfl | rfl | rfl <;> rfl
  have hnd : (b == N.wDo) = false ∧ (b == N.wLoop) = false ∧ (b == N.wLeave) = false := by rcases hb with rfl | rfl | rfl <;> exact ⟨rfl, rfl, rfl⟩
  have hd1 := dc_next hc hnd.1 hnd.2.1
  by_cases hS : m0.S.length < 1
  · rw [pop_none hS] at hres ⊢
    refine (test_under W' C.cb C.rb g (fun w' => w' = W') c0 (hide (take_few h.ok hgo h.st hca 1 (Nat.le_refl _) (by decide) hS))).mono ?_
    rintro e w' ⟨rfl, rfl⟩
    refine ⟨rfl, ?_⟩
    exact done_of (m0 := m0) (m2 := m0) (goes_code _ hgo) hres (N.stepsOk_of rfl) h.st (N.Kept.of_all rfl) h.ent (Nat.le_of_lt h.hf) h.fu fun e => by cases e
  · have hTl : (m0.S.drop (m0.S.length - 1)).length = 1 := by rw [List.length_drop]; omega
    obtain ⟨x, hx⟩ : ∃ x, m0.S.drop (m0.S.length - 1) = [x] := List.length_eq_one_iff.1 hTl
    rw [pop_some hx] at hres ⊢
    simp only at hres ⊢
    have htk := take_got h.ok hgo h.st hca 1 (Nat.le_refl _) (by decide) hS
    rw [hx] at htk
    by_cases hx0 : x = 0
    · subst hx0
      rw [if_pos rfl] at hres ⊢
      refine (test_zero W' C.cb C.rb g ((pos + 1 : Nat) : Int) (fun w' => C.Goes { m0 with S := m0.S.take (m0.S.length - 1) } 0 w' ∧ C.At (pos + 1) r w') c0 (hide (htk.mono ?_))).mono ?_
      · rintro e w' ⟨g', o, c, he, hcell, hgo', hca'⟩
        obtain ⟨_, _, d2, e2⟩ := at_cells hca'
        exact ⟨g', o, c, he, hcell 0 0 rfl, d2, e2, hgo', hca'⟩
      · rintro e w' ⟨rfl, w1, ⟨hgo1, hca1⟩, rfl⟩
        refine ⟨rfl, ?_⟩
        obtain ⟨hgo2, hca2⟩ := jump h.ok hgo1 hca1 (p := g) (.int .i64 (g : Int)) rfl
        refine done_of (m0 := m0) hgo2 hres (N.stepsOk_of rfl) h.st (kept_S m0 _) h.ent (Nat.le_of_lt h.hf) h.fu fun _ => ?_
        rw [← h.hg hfb]
        refine ⟨hca2, by have := h.rl; show r.length ≤ m0.steps; omega, fun _ => ?_⟩
        have := (h.jk.1 hfb).1
        unfold N.ref at this
        rw [hnd.1, hnd.2.1, hnd.2.2] at this
        simp only [Bool.or_self, Bool.false_eq_true, if_false] at this
        rw [this, hd1]
        exact h.dp
    · rw [if_neg hx0] at hres ⊢
      refine (test_other W' C.cb C.rb x g (by rw [beq_eq_false_iff_ne]; exact hx0) (fun w' => C.Goes { m0 with S := m0.S.take (m0.S.length - 1) } 0 w' ∧ C.At (pos + 1) r w') c0 (hide (htk.mono ?_))).mono ?_
      · rintro e w' ⟨g', o, c, he, hcell, hgo', hca'⟩
        exact ⟨g', o, c, he, hcell 0 x rfl, hgo', hca'⟩
      · rintro e w' ⟨rfl, hgo1, hca1⟩
        refine ⟨rfl, done_of (m0 := m0) hgo1 hres (N.stepsOk_of rfl) h.st (kept_S m0 _) h.ent (Nat.le_of_lt h.hf) h.fu fun _ => ⟨hca1, by have := h.rl; show r.length ≤ m0.steps; omega, fun _ => ?_⟩⟩
        rw [hd1]
        exact h.dp

theorem ctl_any_test {C : Ctx} {W : World} {m0 : N.Mach} {pos : Nat} {r : List (Int × Int)} {f : Nat} {b : List UInt8} {g : Nat} (h : Mid C W m0 pos r f b g) (hb : b = N.wIf ∨ b = N.wUntil ∨ b = N.wWhile) : CtlDoes C W m0 b g := by
  have hk := fun W' hbl => test_any h hb W' hbl
  rcases hb with rfl | rfl | rfl
  · refine (ctl_if W C.cb g _ (fun _ w' => C.Done m0.steps _ w') (hide hk)).mono ?_
    rintro e w' ⟨rfl, _, _, hd⟩
    exact ⟨_, rfl, hd⟩
  · refine (ctl_until W C.cb g _ (fun _ w' => C.Done m0.steps _ w') (hide hk)).mono ?_
    rintro e w' ⟨rfl, _, _, hd⟩
    exact ⟨_, rfl, hd⟩
  · refine (ctl_while W C.cb g _ (fun _ w' => C.Done m0.steps _ w') (hide hk)).mono ?_
    rintro e w' ⟨rfl, _, _, hd⟩
    exact ⟨_, rfl, hd⟩

/-- else, again, repeat. -/
theorem ways_go (m : N.Mach) (l : List N.Cell) (p : Nat) (b : List UInt8) (hb : b = N.wElse ∨ b = N.wAgain ∨ b = N.wRepeat) : N.ways m l p b = (m, N.goal l p b, 0) := by
  rcases hb with rfl | rfl | rfl <;> rfl
theorem ctl_any_go {C : Ctx} {W : World} {m0 : N.Mach} {pos : Nat} {r : List (Int × Int)} {f : Nat} {b : List UInt8} {g : Nat} (h : Mid C W m0 pos r f b g) (hb : b = N.wElse ∨ b = N.wAgain ∨ b = N.wRepeat) : CtlDoes C W m0 b g := by
  have hres : N.onTo f C.k C.l C.s1.depth ((N.ways m0 C.l pos b).1, (N.ways m0 C.l pos b).2.2) (N.ways m0 C.l pos b).2.1 r = C.res := by
    rw [← h.res]
    rcases hb with rfl | rfl | rfl <;> rfl
  rw [ways_go m0 C.l pos b hb] at hres
  obtain ⟨n0, hc⟩ := h.hc
  have hfb : (N.fwd b || N.bwd b) = true := by rcases hb with rfl | rfl | rfl <;> rfl
  have hnd : (b == N.wDo) = false ∧ (b == N.wLoop) = false ∧ (b == N.wLeave) = false := by rcases hb with rfl | rfl | rfl <;> exact ⟨rfl, rfl, rfl⟩
  have hd1 := dc_next hc hnd.1 hnd.2.1
  obtain ⟨c0, c1, c2, f2⟩ := at_cells h.ca
  have fin : ∀ w', (∃ W', Below W.heap.size W W' ∧ w' = W'.setCell ⟨C.cb, 2, none⟩ (.int .i64 (g : Int))) → C.Done m0.steps 0 w' := by
    rintro w' ⟨W', hbl, rfl⟩
    obtain ⟨hgo2, hca2⟩ := jump h.ok (goes_below h.go hbl) (at_below h.ca hbl) (p := g) (.int .i64 (g : Int)) rfl
    refine done_of (m0 := m0) hgo2 hres (N.stepsOk_of rfl) h.st (N.Kept.of_all rfl) h.ent (Nat.le_of_lt h.hf) h.fu fun _ => ?_
    rw [← h.hg hfb]
    refine ⟨hca2, by have := h.rl; omega, fun _ => ?_⟩
    have := (h.jk.1 hfb).1
    unfold N.ref at this
    rw [hnd.1, hnd.2.1, hnd.2.2] at this
    simp only [Bool.or_self, Bool.false_eq_true, if_false] at this
    rw [this, hd1]
    exact h.dp
  rcases hb with rfl | rfl | rfl
  · exact (ctl_else W C.cb g _ c2 f2).mono fun e w' hh => ⟨0, hh.1, fin w' hh.2⟩
  · exact (ctl_again W C.cb g _ c2 f2).mono fun e w' hh => ⟨0, hh.1, fin w' hh.2⟩
  · exact (ctl_repeat W C.cb g _ c2 f2).mono fun e w' hh => ⟨0, hh.1, fin w' hh.2⟩

/-- then, begin. -/
theorem ctl_any_idle {C : Ctx} {W : World} {m0 : N.Mach} {pos : Nat} {r : List (Int × Int)} {f : Nat} {b : List UInt8} {g : Nat} (h : Mid C W m0 pos r f b g) (hb : b = N.wThen ∨ b = N.wBegin) : CtlDoes C W m0 b g := by
  have hres : N.onTo f C.k C.l C.s1.depth (m0, 0) (pos + 1) r = C.res := by
    rw [← h.res]
    rcases hb with rfl | rfl <;> rfl
  obtain ⟨n0, hc⟩ := h.hc
  have hnd : (b == N.wDo) = false ∧ (b == N.wLoop) = false := by rcases hb with rfl | rfl <;> exact ⟨rfl, rfl⟩
  have hd1 := dc_next hc hnd.1 hnd.2
  have fin : ∀ w', Below W.heap.size W w' → C.Done m0.steps 0 w' := fun w' hbl =>
    done_of (m0 := m0) (goes_below h.go hbl) hres (N.stepsOk_of rfl) h.st (N.Kept.of_all rfl) h.ent (Nat.le_of_lt h.hf) h.fu fun _ => ⟨at_below h.ca hbl, by have := h.rl; omega, fun _ => by rw [hd1]; exact h.dp⟩
  rcases hb with rfl | rfl
  · exact (ctl_then W C.cb g).mono fun e w' hh => ⟨0, hh.1, fin w' hh.2⟩
  · exact (ctl_begin W C.cb g).mono fun e w' hh => ⟨0, hh.1, fin w' hh.2⟩

/-- exit. -/
theorem ctl_any_exit {C : Ctx} {W : World} {m0 : N.Mach} {pos : Nat} {r : List (Int × Int)} {f : Nat} {g : Nat} (h : Mid C W m0 pos r f N.wExit g) (cap : Nat) (a : Option Addr) (hrow : ∀ W', Below W.heap.size W W' → W'.cell? ⟨C.b, 2, none⟩ = some (.slice a C.l.length cap)) : CtlDoes C W m0 N.wExit g := by
  have hres : (m0, (0 : Int)) = C.res := by rw [← h.res]; rfl
  obtain ⟨c0, c1, c2, f2⟩ := at_cells h.ca
  refine (ctl_exit W C.cb C.b C.l.length cap a g _ c1 c2 f2 (hrow W (Below.refl _ _))).mono ?_
  rintro e w' ⟨rfl, W', hbl, rfl⟩
  refine ⟨0, rfl, .inr ⟨rfl, ?_⟩⟩
  obtain ⟨hgo2, hca2⟩ := jump h.ok (goes_below h.go hbl) (at_below h.ca hbl) (p := C.l.length) (.int .i64 (C.l.length : Int)) rfl
  obtain ⟨f', hf'⟩ : ∃ f', f = f' + 1 := ⟨f - 1, by have := h.fu; omega⟩
  refine ⟨f, m0, C.l.length, r, hgo2, h.st, Nat.le_refl _, hca2, by have := h.rl; omega, fun hlt => by omega, h.ent, Nat.le_of_lt h.hf, h.fu, ?_⟩
  rw [hf', N.body_none f' m0 C.k C.l C.s1.depth C.l.length r (List.getElem?_eq_none (Nat.le_refl _))]
  exact hres

/-- recurse. -/
theorem ctl_any_recurse {C : Ctx} {W : World} {m0 : N.Mach} {pos : Nat} {r : List (Int × Int)} {f : Nat} {g : Nat} (h : Mid C W m0 pos r f N.wRecurse g) : CtlDoes C W m0 N.wRecurse g := by
  have hres : N.onTo f C.k C.l C.s1.depth ((N.owns f m0 C.k C.s1.depth).1, (N.owns f m0 C.k C.s1.depth).2) (pos + 1) r = C.res := by rw [← h.res]; rfl
  obtain ⟨n0, hc⟩ := h.hc
  have hd1 := dc_next hc rfl rfl
  obtain ⟨c0, c1, c2, f2⟩ := at_cells h.ca
  refine (ctl_recurse W C.cb C.rb C.b g (N.owns f m0 C.k C.s1.depth).2 (fun W' w' => C.Goes (N.owns f m0 C.k C.s1.depth).1 (N.owns f m0 C.k C.s1.depth).2 w' ∧ C.At (pos + 1) r w') c0 c1 (hide fun W' hbl => ?_)).mono ?_
  · have hgo := goes_below h.go hbl
    have hca := at_below h.ca hbl
    obtain ⟨vO, v1, v2, v3, hR, hm, hf⟩ := goes_open h.ok hgo h.st
    obtain ⟨e, he1, he2, _⟩ := h.ent
    refine (h.ok.ih f h.hf W' vO v1 v2 v3 (upd C.s1 m0) m0.all C.k C.b hR h.ok.own ⟨e, he1, he2⟩ h.fu).mono ?_
    intro ee w' hh
    have hmm : Mv (FootN C.mb C.rb vO v1 v2 v3 C.wv) W' w' := by
      obtain ⟨_, _, _, _, _, _, _, hmm, _⟩ := hh.2
      exact hmm
    have hca2 : C.At (pos + 1) r w' := at_mv hR hca hmm
    obtain ⟨d0, d1, _, _⟩ := at_cells hca2
    exact ⟨hh.1, ⟨d0, d1⟩, goes_trans (m := m0) hm hf hh.2, hca2⟩
  · rintro e w' ⟨rfl, _, _, hgo2, hca2⟩
    refine ⟨_, rfl, done_of (m0 := m0) hgo2 hres (N.owns_steps f m0 C.k C.s1.depth) h.st (N.owns_kept f m0 C.k C.s1.depth) h.ent (Nat.le_of_lt h.hf) h.fu fun _ => ⟨hca2, ?_, fun _ => by rw [hd1]; exact h.dp⟩⟩
    have h1 := (N.owns_steps f m0 C.k C.s1.depth).1
    have := h.rl
    omega
end Go.Proofs.YtgnlokmeohffaaaGreatDoor
/- do, loop, i, leave within a body: what each leaves is what the document's machine does. -/
namespace Go.Proofs.YtgnlokmeohffaaaGreatDoor
open Go.RowKit

/-- The innermost loop, as it lies. -/
theorem loops_last {w : World} {cb rb b pos : Nat} {vL : Value} {r : List (Int × Int)} {p : Int × Int} (h : CallAt w cb rb b pos vL (r ++ [p])) :
    ∃ g cap cur, vL = .slice (some ⟨g, 0, none⟩) (r.length + 1) cap ∧ w.heap[g]? = some (.cells cur 206) ∧ cur[r.length * 2]? = some (.int .i64 p.2) ∧ cur[r.length * 2 + 1]? = some (.int .i64 p.1) ∧ r.length + 1 ≤ cap ∧ cb ≠ g := by
  rcases h.l.2 with ⟨_, h2⟩ | ⟨g, cap, cur, h1, _, hg, hle, hm, hs, ht⟩
  · simp at h2
  · rw [List.length_append] at h1 hle ht
    have hc : ∀ j u, (loopCells (r ++ [p]))[j]? = some u → cur[j]? = some u := fun j u hu => by
      rw [← ht, List.getElem?_take] at hu
      split at hu
      · simpa using hu
      · cases hu
    have hl := loopCells_len r
    refine ⟨g, cap, cur, h1, hg, hc _ _ ?_, hc _ _ ?_, hle, ne_of_type h.c hg (by decide)⟩
    · rw [loopCells_snoc, List.getElem?_append_right (by omega), hl, Nat.sub_self]; rfl
    · rw [loopCells_snoc, List.getElem?_append_right (by omega), hl, show r.length * 2 + 1 - r.length * 2 = 1 by omega]; rfl

/-- The innermost loop's count is set. -/
theorem loops_set {w : World} {cb rb b pos : Nat} {vL : Value} {r : List (Int × Int)} {p : Int × Int} (h : CallAt w cb rb b pos vL (r ++ [p])) {g : Nat} (hg0 : vL.ownBlock = some g) (c' : Int) (hc : inI64 c') :
    CallAt (w.setCell ⟨g, r.length * 2, none⟩ (.int .i64 c')) cb rb b pos vL (r ++ [(p.1, c')]) := by
  have hl := loopCells_len r
  refine ⟨?_, ?_, fun q hq => ?_⟩
  · refine (Below.heap_setCell _ _ _ _ ?_).trans h.c
    rintro rfl
    obtain ⟨_, h'⟩ := ownsz_block h.l hg0
    have := typed_ne h.c h'
    revert this
    decide
  · refine ⟨by rw [loopCells_len], ?_⟩
    rcases h.l.2 with ⟨_, h2⟩ | ⟨g', cap, cur, rfl, hb, hg, hle, hm, hs, ht⟩
    · simp at h2
    · have : g' = g := by simpa [Value.ownBlock] using hg0
      subst this
      refine .inr ⟨g', cap, cur.setIfInBounds (r.length * 2) (.int .i64 c'), by simp, hb, set_block hg _ _, by simpa using hle, hm, by simpa using hs, ?_⟩
      have hlen : (r ++ [(p.1, c')]).length * 2 = (r ++ [p]).length * 2 := by simp
      rw [hlen]
      apply List.ext_getElem?
      intro j
      have htj : (cur.toList.take ((r ++ [p]).length * 2))[j]? = (loopCells (r ++ [p]))[j]? := by rw [ht]
      rw [List.getElem?_take] at htj ⊢
      rw [loopCells_snoc] at htj ⊢
      have hsz : r.length * 2 < cur.size := by
        rw [hs]
        have : (r ++ [p]).length ≤ cap := hle
        simp at this
        omega
      by_cases hj : j = r.length * 2
      · subst hj
        rw [if_pos (by simp)]
        rw [List.getElem?_append_right (by omega), hl, Nat.sub_self]
        simp [hsz]
      · have e1 : (cur.setIfInBounds (r.length * 2) (Value.int .i64 c')).toList[j]? = cur.toList[j]? := by
          rw [Array.getElem?_toList, Array.getElem?_toList, Array.getElem?_setIfInBounds_ne (by omega)]
        rw [e1, htj]
        by_cases hj2 : j < (loopCells r).length
        · rw [List.getElem?_append_left hj2, List.getElem?_append_left hj2]
        · rw [List.getElem?_append_right (by omega), List.getElem?_append_right (by omega)]
          obtain ⟨d, hd⟩ : ∃ d, j - (loopCells r).length = d + 1 := ⟨j - (loopCells r).length - 1, by omega⟩
          rw [hd]
          rfl
  · rcases List.mem_append.1 hq with hq | hq
    · exact h.li q (List.mem_append_left _ hq)
    · rw [List.mem_singleton] at hq
      subst hq
      exact ⟨(h.li p (List.mem_append_right _ (List.mem_singleton.2 rfl))).1, hc⟩

/-- The innermost loop is no more. -/
theorem loops_drop {w : World} {cb rb b pos g cap : Nat} {r : List (Int × Int)} {p : Int × Int} (h : CallAt w cb rb b pos (.slice (some ⟨g, 0, none⟩) (r.length + 1) cap) (r ++ [p])) :
    CallAt (w.setCell ⟨cb, 3, none⟩ (.slice (some ⟨g, 0, none⟩) r.length cap)) cb rb b pos (.slice (some ⟨g, 0, none⟩) r.length cap) r := by
  refine ⟨set_block h.c 3 _, ?_, fun q hq => h.li q (List.mem_append_left _ hq)⟩
  have hl := h.l
  rw [List.length_append] at hl
  have := ownsz_take hl r.length (by simp)
  have ht : (loopCells (r ++ [p])).take (r.length * 2) = loopCells r := by rw [loopCells_snoc, ← loopCells_len r, List.take_left]
  rw [ht] at this
  refine ownsz_kept this fun k e => Below.heap_setCell _ _ _ _ ?_
  rintro rfl
  obtain ⟨_, h'⟩ := ownsz_block h.l (k := k) e
  have := typed_ne h.c h'
  revert this
  decide

theorem last_of {r : List (Int × Int)} (h : r ≠ []) : ∃ r' p, r = r' ++ [p] := by
  rcases List.eq_nil_or_concat r with rfl | ⟨r', p, rfl⟩
  · exact (h rfl).elim
  · exact ⟨r', p, by simp⟩

theorem wrap_in (n : Int) : inI64 (IntKind.i64.wrap n) := by
  rw [IntKind.wrap_i64]
  constructor <;> omega

/-- leave. -/
theorem ctl_any_leave {C : Ctx} {W : World} {m0 : N.Mach} {pos : Nat} {r : List (Int × Int)} {f : Nat} {g : Nat} (h : Mid C W m0 pos r f N.wLeave g) : CtlDoes C W m0 N.wLeave g := by
  have hres : N.onTo f C.k C.l C.s1.depth (m0, 0) (N.goal C.l pos N.wLeave) r.dropLast = C.res := by rw [← h.res]; rfl
  have h1 := h.jk.2 rfl
  have hne : r ≠ [] := by
    rintro rfl
    have := h.dp
    simp only [List.length_nil] at this
    omega
  obtain ⟨r', p, rfl⟩ := last_of hne
  have hgl := h.hg rfl
  obtain ⟨vL, hcall, hnew⟩ := h.ca
  obtain ⟨gl, cap, cur, rfl, hg, q0, q1, hcap, hcbg⟩ := loops_last hcall
  have hrl := h.rl
  rw [List.length_append] at hrl
  refine (ctl_leave W C.cb gl r'.length (r'.length + 1) cap g _ rfl (by have := h.st; simp at hrl; omega) hcap (cell_of_block hcall.c rfl) (frozen_of_block 2 hcall.c) (cell_of_block hcall.c rfl) (frozen_of_block 3 hcall.c)).mono ?_
  rintro e w' ⟨rfl, W', hbl, rfl⟩
  refine ⟨0, rfl, ?_⟩
  have hcall' := loops_drop (hcall.below hbl)
  have hgo' := goes_below h.go hbl
  have hgo3 : C.Goes m0 0 (W'.setCell ⟨C.cb, 3, none⟩ (.slice (some ⟨gl, 0, none⟩) r'.length cap)) :=
    goes_off h.ok hgo' (off_cb h.ok (at_below h.ca hbl)) ((Mv.refl (fun k => k = C.cb) W').setCell (p := ⟨C.cb, 3, none⟩) (.inl rfl) _)
  obtain ⟨hgo2, hca2⟩ := jump h.ok hgo3 ⟨_, hcall', hnew⟩ (p := g) (.int .i64 (g : Int)) rfl
  rw [List.dropLast_concat] at hres
  refine done_of (m0 := m0) hgo2 hres (N.stepsOk_of rfl) h.st (N.Kept.of_all rfl) h.ent (Nat.le_of_lt h.hf) h.fu fun _ => ?_
  rw [← hgl]
  refine ⟨hca2, by simp at hrl; omega, fun _ => ?_⟩
  have := (h.jk.1 rfl).1
  rw [this]
  show (r'.length : Int) = N.dc C.l pos - 1
  have hdp := h.dp
  rw [List.length_append] at hdp
  rw [← hdp]
  simp

/-- i. -/
theorem ctl_any_i {C : Ctx} {W : World} {m0 : N.Mach} {pos : Nat} {r : List (Int × Int)} {f : Nat} {g : Nat} (h : Mid C W m0 pos r f N.wI g) : CtlDoes C W m0 N.wI g := by
  have h1 := h.jk.2 rfl
  have hne : r ≠ [] := by
    rintro rfl
    have := h.dp
    simp only [List.length_nil] at this
    omega
  obtain ⟨r', p, rfl⟩ := last_of hne
  have hres : N.onTo f C.k C.l C.s1.depth ((N.push m0 p.2).1, (N.push m0 p.2).2) (pos + 1) (r' ++ [p]) = C.res := by
    rw [← h.res]
    show _ = N.onTo f C.k C.l C.s1.depth ((N.push m0 ((r' ++ [p]).getLast?.getD (0, 0)).2).1, (N.push m0 ((r' ++ [p]).getLast?.getD (0, 0)).2).2) (pos + 1) (r' ++ [p])
    simp
  obtain ⟨n0, hc⟩ := h.hc
  have hd1 := dc_next hc rfl rfl
  obtain ⟨vL, hcall, hnew⟩ := h.ca
  obtain ⟨gl, cap, cur, rfl, hg, q0, q1, hcap, hcbg⟩ := loops_last hcall
  have hrl := h.rl
  rw [List.length_append] at hrl
  have hin := (hcall.li p (List.mem_append_right _ (List.mem_singleton.2 rfl))).2
  refine (ctl_i W C.cb C.rb gl r'.length (r'.length + 1) cap g p.2 (N.push m0 p.2).2 (fun W' w' => C.Goes (N.push m0 p.2).1 (N.push m0 p.2).2 w' ∧ C.At (pos + 1) (r' ++ [p]) w') rfl (by have := h.st; simp at hrl; omega) (cell_of_block hcall.c rfl) (cell_of_block hcall.c rfl) (cell_of_block hg q0) (hide fun W' hbl => ?_)).mono ?_
  · have hgo := goes_below h.go hbl
    have hca := hcall.below hbl
    obtain ⟨vO, v1, v2, v3, hR, hm, hf⟩ := goes_open h.ok hgo h.st
    have htoM : toM (upd C.s1 m0) m0.all = m0 := rfl
    have hlay := lay_N W' C.mb C.rb vO C.vB C.vW v1 v2 v3 C.wv (upd C.s1 m0) m0.all p.2 hR hin
    rw [htoM] at hlay
    refine hlay.mono ?_
    intro ee w' hh
    have hmm : Mv (FootN C.mb C.rb vO v1 v2 v3 C.wv) W' w' := by
      obtain ⟨_, _, _, _, _, _, _, hmm, _⟩ := hh.2
      exact hmm
    have hca2 := call_mv hR hca hmm
    obtain ⟨gl2, cap2, cur2, hv2, hg2, q02, _, _, _⟩ := loops_last hca2
    injection hv2 with hv2
    injection hv2 with hv2
    injection hv2 with hv2 _
    subst hv2
    exact ⟨hh.1, ⟨cell_of_block hca2.c rfl, cell_of_block hca2.c rfl, cell_of_block hg2 q02⟩, goes_trans (m := m0) hm hf hh.2, _, hca2, hnew⟩
  · rintro e w' ⟨rfl, _, _, hgo2, hca2⟩
    refine ⟨_, rfl, done_of (m0 := m0) hgo2 hres (N.stepsOk_of (N.push_steps _ _)) h.st (N.Kept.of_all (N.push_all _ _)) h.ent (Nat.le_of_lt h.hf) h.fu fun _ => ⟨hca2, ?_, fun _ => by rw [hd1]; exact h.dp⟩⟩
    rw [N.push_steps, List.length_append]
    omega

/-- loop. -/
theorem ctl_any_loop {C : Ctx} {W : World} {m0 : N.Mach} {pos : Nat} {r : List (Int × Int)} {f : Nat} {g : Nat} (h : Mid C W m0 pos r f N.wLoop g) : CtlDoes C W m0 N.wLoop g := by
  have h1 := h.jk.2 rfl
  have hne : r ≠ [] := by
    rintro rfl
    have := h.dp
    simp only [List.length_nil] at this
    omega
  obtain ⟨r', p, rfl⟩ := last_of hne
  have hgl := h.hg rfl
  have hwrap : wrap64 (p.2 + 1) = IntKind.i64.wrap (p.2 + 1) := by rw [IntKind.wrap_i64]; unfold wrap64; omega
  have hres : N.onTo f C.k C.l C.s1.depth (m0, 0) (if IntKind.i64.wrap (p.2 + 1) < p.1 then N.goal C.l pos N.wLoop else pos + 1) (if IntKind.i64.wrap (p.2 + 1) < p.1 then r' ++ [(p.1, IntKind.i64.wrap (p.2 + 1))] else r') = C.res := by
    rw [← h.res]
    show _ = N.onTo f C.k C.l C.s1.depth ((N.rounds m0 C.l pos N.wLoop (r' ++ [p])).1, (N.rounds m0 C.l pos N.wLoop (r' ++ [p])).2.2.2) (N.rounds m0 C.l pos N.wLoop (r' ++ [p])).2.1 (N.rounds m0 C.l pos N.wLoop (r' ++ [p])).2.2.1
    have hro : N.rounds m0 C.l pos N.wLoop (r' ++ [p]) = if wrap64 (p.2 + 1) < p.1 then (m0, N.backOf C.l N.wDo [N.wLoop] pos 0, r' ++ [(p.1, wrap64 (p.2 + 1))], 0) else (m0, pos + 1, r', 0) := by
      unfold N.rounds
      simp only
      rw [if_neg (by decide), if_pos (by decide)]
      simp
    rw [hro, hwrap]
    by_cases hl : IntKind.i64.wrap (p.2 + 1) < p.1
    · rw [if_pos hl, if_pos hl, if_pos hl]; rfl
    · rw [if_neg hl, if_neg hl, if_neg hl]
  obtain ⟨n0, hc⟩ := h.hc
  obtain ⟨vL, hcall, hnew⟩ := h.ca
  obtain ⟨gl, cap, cur, rfl, hg, q0, q1, hcap, hcbg⟩ := loops_last hcall
  have hrl := h.rl
  rw [List.length_append] at hrl
  have hm1000 : r'.length ≤ 1000 := by have := h.st; simp at hrl; omega
  have hnewg : C.w0.heap.size ≤ gl := hnew gl rfl
  have hdp := h.dp
  rw [List.length_append] at hdp
  -- the count is set, in whatever world
  have hset : ∀ W', Below W.heap.size W W' → C.Goes m0 0 (W'.setCell ⟨gl, r'.length * 2, none⟩ (.int .i64 (IntKind.i64.wrap (p.2 + 1)))) ∧ CallAt (W'.setCell ⟨gl, r'.length * 2, none⟩ (.int .i64 (IntKind.i64.wrap (p.2 + 1)))) C.cb C.rb C.b (pos + 1) (.slice (some ⟨gl, 0, none⟩) (r'.length + 1) cap) (r' ++ [(p.1, IntKind.i64.wrap (p.2 + 1))]) := by
    intro W' hbl
    have hc' := hcall.below hbl
    refine ⟨goes_off h.ok (goes_below h.go hbl) (D := fun k => k = gl) ?_ ((Mv.refl (fun k => k = gl) W').setCell (p := ⟨gl, r'.length * 2, none⟩) (.inl rfl) _), loops_set hc' rfl _ (wrap_in _)⟩
    rintro k rfl
    exact ⟨hc'.block (.inr rfl), hnewg⟩
  by_cases hl : IntKind.i64.wrap (p.2 + 1) < p.1
  · rw [if_pos hl, if_pos hl, ← hgl] at hres
    refine (ctl_loop W C.cb g (fun _ w' => C.Done m0.steps 0 w') (hide fun W' hbl => ?_)).mono ?_
    · have hc' := hcall.below hbl
      refine (count_on W' C.cb gl r'.length (r'.length + 1) cap cur p.1 p.2 g ((pos + 1 : Nat) : Int) _ rfl hm1000 hcap (cell_of_block hc'.c rfl) (cell_of_block hc'.c rfl) (frozen_of_block 2 hc'.c) (frozen_of_block 3 hc'.c) ((hbl.block gl (heap_lt hg)).trans hg) q0 q1 hcbg rfl hl).mono ?_
      rintro e w' ⟨rfl, w1, rfl, rfl⟩
      refine ⟨rfl, ?_⟩
      obtain ⟨hgo1, hca1⟩ := hset W' hbl
      have hdr := (Below.refl (W'.setCell ⟨gl, r'.length * 2, none⟩ (.int .i64 (IntKind.i64.wrap (p.2 + 1)))).heap.size (W'.setCell ⟨gl, r'.length * 2, none⟩ (.int .i64 (IntKind.i64.wrap (p.2 + 1))))).drew
      obtain ⟨hgo2, hca2⟩ := jump h.ok (goes_below hgo1 hdr) ⟨_, hca1.below hdr, hnew⟩ (p := g) (.int .i64 (g : Int)) rfl
      refine done_of (m0 := m0) hgo2 hres (N.stepsOk_of rfl) h.st (N.Kept.of_all rfl) h.ent (Nat.le_of_lt h.hf) h.fu fun _ => ⟨hca2, by rw [List.length_append]; simp at hrl ⊢; omega, fun _ => ?_⟩
      have := (h.jk.1 rfl).1
      rw [this]
      show ((r' ++ [(p.1, IntKind.i64.wrap (p.2 + 1))]).length : Int) = N.dc C.l pos
      rw [← hdp, List.length_append]
      simp
    · rintro e w' ⟨rfl, _, _, hd⟩
      exact ⟨0, rfl, hd⟩
  · rw [if_neg hl, if_neg hl] at hres
    refine (ctl_loop W C.cb g (fun _ w' => C.Done m0.steps 0 w') (hide fun W' hbl => ?_)).mono ?_
    · have hc' := hcall.below hbl
      refine (count_off W' C.cb gl r'.length (r'.length + 1) cap cur p.1 p.2 g ((pos + 1 : Nat) : Int) _ rfl hm1000 hcap (cell_of_block hc'.c rfl) (cell_of_block hc'.c rfl) (frozen_of_block 2 hc'.c) (frozen_of_block 3 hc'.c) ((hbl.block gl (heap_lt hg)).trans hg) q0 q1 hcbg rfl hl).mono ?_
      rintro e w' ⟨rfl, w1, rfl, rfl⟩
      refine ⟨rfl, ?_⟩
      obtain ⟨hgo1, hca1⟩ := hset W' hbl
      have hdr := (Below.refl (W'.setCell ⟨gl, r'.length * 2, none⟩ (.int .i64 (IntKind.i64.wrap (p.2 + 1)))).heap.size (W'.setCell ⟨gl, r'.length * 2, none⟩ (.int .i64 (IntKind.i64.wrap (p.2 + 1))))).drew
      have hgo2 := goes_below hgo1 hdr
      have hca2 := hca1.below hdr
      have hgo3 := goes_off h.ok hgo2 (off_cb h.ok ⟨_, hca2, hnew⟩) ((Mv.refl (fun k => k = C.cb) _).setCell (p := ⟨C.cb, 3, none⟩) (.inl rfl) (.slice (some ⟨gl, 0, none⟩) r'.length cap))
      refine done_of (m0 := m0) hgo3 hres (N.stepsOk_of rfl) h.st (N.Kept.of_all rfl) h.ent (Nat.le_of_lt h.hf) h.fu fun _ => ⟨⟨_, loops_drop hca2, hnew⟩, by simp at hrl; omega, fun _ => ?_⟩
      rw [N.dc_succ hc]
      show (r'.length : Int) = N.dc C.l pos + -1
      rw [← hdp]
      simp only [List.length_singleton]
      omega
    · rintro e w' ⟨rfl, _, _, hd⟩
      exact ⟨0, rfl, hd⟩

/-- do. -/
theorem ctl_any_do {C : Ctx} {W : World} {m0 : N.Mach} {pos : Nat} {r : List (Int × Int)} {f : Nat} {g : Nat} (h : Mid C W m0 pos r f N.wDo g) : CtlDoes C W m0 N.wDo g := by
  have hgl := h.hg rfl
  obtain ⟨n0, hc⟩ := h.hc
  by_cases hS : m0.S.length < 2
  · have hres : N.onTo f C.k C.l C.s1.depth (m0, 6) 0 [] = C.res := by
      rw [← h.res]
      show _ = N.onTo f C.k C.l C.s1.depth ((N.rounds m0 C.l pos N.wDo r).1, (N.rounds m0 C.l pos N.wDo r).2.2.2) (N.rounds m0 C.l pos N.wDo r).2.1 (N.rounds m0 C.l pos N.wDo r).2.2.1
      have : N.rounds m0 C.l pos N.wDo r = (m0, 0, [], 6) := by
        unfold N.rounds
        simp only
        rw [if_pos (by decide), if_pos hS]
      rw [this]
    refine (ctl_do W C.cb g 6 (fun _ w' => C.Done m0.steps 6 w') (hide fun W' hbl => ?_)).mono ?_
    · have hgo := goes_below h.go hbl
      have hca := at_below h.ca hbl
      refine (enter_under W' C.cb C.rb g (fun w' => w' = W') (at_cells hca).1 (hide (take_few h.ok hgo h.st hca 2 (by decide) (Nat.le_refl _) hS))).mono ?_
      rintro e w' ⟨rfl, rfl⟩
      exact ⟨rfl, done_of (m0 := m0) (goes_code _ hgo) hres (N.stepsOk_of rfl) h.st (N.Kept.of_all rfl) h.ent (Nat.le_of_lt h.hf) h.fu fun e => by cases e⟩
    · rintro e w' ⟨rfl, _, _, hd⟩
      exact ⟨6, rfl, hd⟩
  · have hTl : (m0.S.drop (m0.S.length - 2)).length = 2 := by rw [List.length_drop]; omega
    obtain ⟨x, y, hxy⟩ : ∃ x y, m0.S.drop (m0.S.length - 2) = [x, y] := by
      match m0.S.drop (m0.S.length - 2), hTl with
      | [x, y], _ => exact ⟨x, y, rfl⟩
    have hgx : m0.S.getD (m0.S.length - 2) 0 = x := by
      have := List.getElem?_drop (xs := m0.S) (i := m0.S.length - 2) (j := 0)
      rw [hxy] at this
      rw [List.getD_eq_getElem?_getD, show m0.S.length - 2 = m0.S.length - 2 + 0 by omega, ← this]
      rfl
    have hgy : m0.S.getD (m0.S.length - 1) 0 = y := by
      have := List.getElem?_drop (xs := m0.S) (i := m0.S.length - 2) (j := 1)
      rw [hxy] at this
      rw [List.getD_eq_getElem?_getD, show m0.S.length - 1 = m0.S.length - 2 + 1 by omega, ← this]
      rfl
    have hro : N.rounds m0 C.l pos N.wDo r = if x ≤ y then ({ m0 with S := m0.S.take (m0.S.length - 2) }, N.goal C.l pos N.wDo, r, 0) else ({ m0 with S := m0.S.take (m0.S.length - 2) }, pos + 1, r ++ [(x, y)], 0) := by
      unfold N.rounds
      simp only
      rw [if_pos (by decide), if_neg hS, hgx, hgy]
      rfl
    have hres : N.onTo f C.k C.l C.s1.depth ((N.rounds m0 C.l pos N.wDo r).1, (N.rounds m0 C.l pos N.wDo r).2.2.2) (N.rounds m0 C.l pos N.wDo r).2.1 (N.rounds m0 C.l pos N.wDo r).2.2.1 = C.res := by rw [← h.res]; rfl
    rw [hro] at hres
    have hin : inI64 x ∧ inI64 y := by
      obtain ⟨vO, v1, v2, v3, hR, _, _⟩ := goes_open h.ok h.go h.st
      have hmem : ∀ z ∈ m0.S.drop (m0.S.length - 2), inI64 z := fun z hz => hR.run.si z (List.mem_of_mem_drop hz)
      rw [hxy] at hmem
      exact ⟨hmem x (by simp), hmem y (by simp)⟩
    by_cases hle : x ≤ y
    · rw [if_pos hle, ← hgl] at hres
      refine (ctl_do W C.cb g 0 (fun _ w' => C.Done m0.steps 0 w') (hide fun W' hbl => ?_)).mono ?_
      · have hgo := goes_below h.go hbl
        have hca := at_below h.ca hbl
        have htk := take_got h.ok hgo h.st hca 2 (by decide) (Nat.le_refl _) hS
        rw [hxy] at htk
        refine (enter_past W' C.cb C.rb x y g ((pos + 1 : Nat) : Int) (by omega) (fun w' => C.Goes { m0 with S := m0.S.take (m0.S.length - 2) } 0 w' ∧ C.At (pos + 1) r w') (at_cells hca).1 (hide (htk.mono ?_))).mono ?_
        · rintro e w' ⟨g', o, c, he, hcell, hgo', hca'⟩
          obtain ⟨_, _, d2, e2⟩ := at_cells hca'
          exact ⟨g', o, c, he, hcell 0 x rfl, hcell 1 y rfl, d2, e2, hgo', hca'⟩
        · rintro e w' ⟨rfl, w1, ⟨hgo1, hca1⟩, rfl⟩
          refine ⟨rfl, ?_⟩
          have hdr := (Below.refl w1.heap.size w1).drew
          obtain ⟨hgo2, hca2⟩ := jump h.ok (goes_below hgo1 hdr) (at_below hca1 hdr) (p := g) (.int .i64 (g : Int)) rfl
          refine done_of (m0 := m0) hgo2 hres (N.stepsOk_of rfl) h.st (kept_S m0 _) h.ent (Nat.le_of_lt h.hf) h.fu fun _ => ⟨hca2, by have := h.rl; show r.length ≤ m0.steps; omega, fun _ => ?_⟩
          have := (h.jk.1 rfl).1
          rw [this]
          exact h.dp
      · rintro e w' ⟨rfl, _, _, hd⟩
        exact ⟨0, rfl, hd⟩
    · rw [if_neg hle] at hres
      refine (ctl_do W C.cb g 0 (fun _ w' => C.Done m0.steps 0 w') (hide fun W' hbl => ?_)).mono ?_
      · have hgo := goes_below h.go hbl
        obtain ⟨vL, hcall, hnew⟩ := at_below h.ca hbl
        have hca : C.At (pos + 1) r W' := ⟨vL, hcall, hnew⟩
        -- the loops' row is the same behind the taking
        obtain ⟨vO, v1, v2, v3, hR, hm, hf⟩ := goes_open h.ok hgo h.st
        have htk := take_any W' C.mb C.rb 2 vO C.vB C.vW v1 v2 v3 (upd C.s1 m0) hR.run (by decide) (Nat.le_refl _)
        have hS' : ¬ (upd C.s1 m0).S.length < 2 := hS
        simp only [if_neg hS'] at htk
        have hxy' : (upd C.s1 m0).S.drop ((upd C.s1 m0).S.length - 2) = [x, y] := hxy
        rw [hxy'] at htk
        refine (enter_into W' C.cb C.rb C.b x y g (pos + 1) (by omega) vL r (by have := h.rl; have := h.st; omega) hin (fun w' => C.Goes { m0 with S := m0.S.take (m0.S.length - 2) } 0 w') (at_cells hca).1 (hide (htk.mono ?_))).mono ?_
        · rintro e w' ⟨g', o, c, x1, he, hcell, hr1, hm1, hf1⟩
          refine ⟨g', o, c, he, hcell 0 x rfl, hcell 1 y rfl, call_mv hR hcall (hm1.weaken fun k hk => .inl hk), ?_⟩
          exact goes_trans (m := m0) hm hf ⟨vO, x1, v2, v3, _, hr1, hR.own.mv hR.run hm1, hm1.weaken fun k hk => .inl hk, footN_fresh hf1, rfl, rfl, rfl, rfl, fun _ => ⟨rfl, rfl, rfl⟩⟩
        · rintro e w' ⟨rfl, w1, vL', hgo1, hc1, hc2, hmv2, hfr2⟩
          refine ⟨rfl, ?_⟩
          have hgo2 : C.Goes { m0 with S := m0.S.take (m0.S.length - 2) } 0 w' := goes_off h.ok hgo1 (D := fun k => k = C.cb ∨ vL.ownBlock = some k) (fun k hk => ⟨hc1.block hk, hk.elim (fun e => by rw [e]; exact h.ok.hcb) (fun e => hnew k e)⟩) hmv2
          have hnew' : ∀ j, vL'.ownBlock = some j → C.w0.heap.size ≤ j := fun j hj => by
            rcases hfr2 j hj with hh | hh
            · exact hnew j hh
            · obtain ⟨_, _, _, _, _, _, _, hmm, _⟩ := hgo1
              have := hmm.size
              omega
          refine done_of (m0 := m0) hgo2 hres (N.stepsOk_of rfl) h.st (kept_S m0 _) h.ent (Nat.le_of_lt h.hf) h.fu fun _ => ⟨⟨vL', hc2, hnew'⟩, by have := h.rl; rw [List.length_append]; show r.length + 1 ≤ m0.steps; omega, fun _ => ?_⟩
          rw [N.dc_succ hc, List.length_append]
          show ((r.length + 1 : Nat) : Int) = N.dc C.l pos + 1
          rw [← h.dp]
          omega
      · rintro e w' ⟨rfl, _, _, hd⟩
        exact ⟨0, rfl, hd⟩
end Go.Proofs.YtgnlokmeohffaaaGreatDoor
/- A DEFINITION DOES WHAT THE DOCUMENT'S MACHINE DOES. -/
namespace Go.Proofs.YtgnlokmeohffaaaGreatDoor
open Go.RowKit

def stepsAt (w : World) (rb : Nat) : Nat := match w.cell? ⟨rb, 3, none⟩ with | some (.int _ p) => p.toNat | _ => 0
theorem stepsAt_of {w : World} {mb rb : Nat} {vO vB vW vS vR vT : Value} {s : L.RunS} (h : RunAt w mb rb vO vB vW vS vR vT s) : stepsAt w rb = s.steps := by
  have : w.cell? ⟨rb, 3, none⟩ = some (.int .i64 s.steps) := cell_of_block h.r rfl
  unfold stepsAt
  rw [this]
  simp

/-- What a word of a body is, as a value. -/
theorem cell_iface {all : List N.Ent} {wv : List Own} {j : Nat} {c : N.Cell} (g : Nat) (hc : cellOk all j c) (hl : wv.length = all.length) (hk : c.kind ≠ 4) :
    ∃ T v, cellVal wv (c, g) = .iface T v ∧ ∀ W, (Instr.typeAssert (.iface T v) 107 196 true).run Tryz.prog W = .ok (.tuple #[.agg #[.string ⟨#[]⟩, .int .i64 0], .bool false]) W := by
  rcases hc with ⟨h1, hin⟩ | ⟨h2, k, e, hn, _, he, hen⟩ | ⟨h3, hfind⟩ | ⟨h4, _⟩
  · exact ⟨_, _, if_pos h1, fun W => asc_number _ W⟩
  · have hnk : c.n.toNat = k := by omega
    have hlt : k < wv.length := by
      rw [hl]
      exact (List.getElem?_eq_some_iff.1 he).1
    obtain ⟨o, ho⟩ : ∃ o, wv[k]? = some o := ⟨_, List.getElem?_eq_getElem hlt⟩
    have e1 : cellVal wv (c, g) = ownVal o := by
      refine (if_neg (by show ¬ c.kind = 1; omega)).trans ((if_pos h2).trans ?_)
      show ((wv[c.n.toNat]?).map ownVal).getD .nilIface = _
      rw [hnk, ho]
      rfl
    rw [e1]
    cases o with
    | defn b => exact ⟨_, _, rfl, fun W => asc_defn _ W⟩
    | vari b => exact ⟨_, _, rfl, fun W => asc_vari _ W⟩
    | cons nm t n => exact ⟨_, _, rfl, fun W => asc_cons _ W⟩
    | mark nm t => exact ⟨_, _, rfl, fun W => asc_mark _ W⟩
  · obtain ⟨p, hp⟩ := Option.isSome_iff_exists.1 hfind
    have e1 : cellVal wv (c, g) = .iface 120 (primVal p) := by
      refine (if_neg (by show ¬ c.kind = 1; omega)).trans ((if_neg (by show ¬ c.kind = 2; omega)).trans ((if_pos h3).trans ?_))
      show ((L.find c.name).map fun p => Value.iface 120 (primVal p)).getD .nilIface = _
      rw [hp]
      rfl
    rw [e1]
    exact ⟨_, _, rfl, fun W => asc_prim _ W⟩
  · exact (hk h4).elim

/-- A bold word within a body, whichever it is. -/
theorem ctl_any {C : Ctx} {W : World} {m0 : N.Mach} {pos : Nat} {r : List (Int × Int)} {f : Nat} {b : List UInt8} {g : Nat} (h : Mid C W m0 pos r f b g) (hb : N.inner b = true) (cap : Nat) (a : Option Addr) (hrow : ∀ W', Below W.heap.size W W' → W'.cell? ⟨C.b, 2, none⟩ = some (.slice a C.l.length cap)) : CtlDoes C W m0 b g := by
  unfold N.inner at hb
  simp only [List.any_cons, List.any_nil, Bool.or_false, Bool.or_eq_true, beq_iff_eq] at hb
  rcases hb with rfl | rfl | rfl | rfl | rfl | rfl | rfl | rfl | rfl | rfl | rfl | rfl | rfl | rfl
  · exact ctl_any_recurse h
  · exact ctl_any_test h (.inl rfl)
  · exact ctl_any_go h (.inl rfl)
  · exact ctl_any_idle h (.inl rfl)
  · exact ctl_any_idle h (.inr rfl)
  · exact ctl_any_test h (.inr (.inl rfl))
  · exact ctl_any_go h (.inr (.inl rfl))
  · exact ctl_any_test h (.inr (.inr rfl))
  · exact ctl_any_go h (.inr (.inr rfl))
  · exact ctl_any_do h
  · exact ctl_any_loop h
  · exact ctl_any_i h
  · exact ctl_any_leave h
  · exact ctl_any_exit h cap a hrow

theorem head_any {C : Ctx} (hO : C.Ok) {t : Nat} {wr : World} (hI : C.Inv t wr) : HeadC C.cb (fun w => ∃ t, C.Inv t w) (fun w => 1000 - stepsAt w C.rb) C.Post wr := by
  obtain ⟨f, m, pos, r, hgo, hst, _, hca, hrl, hdp, hent, hf, hfu, hbody⟩ := hI
  obtain ⟨vO, v1, v2, v3, hR, hm, hfr⟩ := goes_open hO hgo hst
  obtain ⟨e, he1, he2, he3⟩ := hent
  obtain ⟨hk1, vBd, body, hblk, hrow, hmap, hlen, hgoals⟩ := hR.own.ent C.k e _ he1 hO.own he2
  have hlb : C.l.length = body.length := by rw [← he3, ← hmap, List.length_map]
  obtain ⟨c0, c1, c2, f2⟩ := at_cells hca
  obtain ⟨f', rfl⟩ : ∃ f', f = f' + 1 := ⟨f - 1, by omega⟩
  have hdr : Below wr.heap.size wr wr.drew := (Below.refl _ _).drew
  obtain ⟨a, cap, hvB, hle, _⟩ := owns_slice hrow
  subst hvB
  refine ⟨C.b, pos, C.l.length, cap, a, c1, c2, by rw [hlb]; exact cell_of_block hblk rfl, ?_⟩
  by_cases hpos : pos < C.l.length
  case neg =>
    refine .inl ⟨hpos, ?_⟩
    rw [N.body_none f' m C.k C.l C.s1.depth pos r (List.getElem?_eq_none (by omega))] at hbody
    unfold Ctx.Post
    rw [← hbody]
    exact ⟨rfl, goes_below hgo hdr⟩
  case pos =>
    refine .inr ⟨hpos, ?_⟩
    have hposb : pos < body.length := by omega
    obtain ⟨⟨c, g⟩, hcg⟩ : ∃ x, body[pos]? = some x := ⟨_, List.getElem?_eq_getElem hposb⟩
    have hcl : C.l[pos]? = some c := by rw [← he3, ← hmap, List.getElem?_map, hcg]; rfl
    have hcok : cellOk m.all C.k c := hR.own.ok C.k e he1 he2 c (by rw [he3]; exact List.mem_of_getElem? hcl)
    have hRd := hR.below hdr
    have hcad := at_below hca hdr
    obtain ⟨d0, d1, d2, _⟩ := at_cells hcad
    have hcnt := countStep_any wr.drew C.mb C.rb vO C.vB C.vW v1 v2 v3 (upd C.s1 m) hRd.run hst
    have hstr : stepsAt wr C.rb = m.steps := stepsAt_of hR.run
    -- what is done leads on
    have lead : ∀ code w', C.Done (m.steps + 1) code w' → ((code ≠ 0 ∧ C.Post code w') ∨ (code = 0 ∧ (∃ t, C.Inv t w') ∧ 1000 - stepsAt w' C.rb < 1000 - stepsAt wr C.rb)) := by
      rintro code w' (h | ⟨h, h2⟩)
      · exact .inl h
      · refine .inr ⟨h, ⟨_, h2⟩, ?_⟩
        obtain ⟨_, m2, _, _, hgo2, hst2, ht2, _⟩ := h2
        obtain ⟨_, _, _, _, hR2, _, _⟩ := goes_open hO hgo2 hst2
        have : stepsAt w' C.rb = m2.steps := stepsAt_of hR2.run
        rw [this, hstr]
        omega
    by_cases hs : 1000 ≤ m.steps
    · have hc : L.countStep (upd C.s1 m) = (upd C.s1 m, 14) := if_pos (by show m.steps = 1000; omega)
      rw [hc] at hcnt
      rw [N.body_out f' m C.k C.l C.s1.depth pos r c hcl hs] at hbody
      refine (cstep_stop wr.drew C.cb C.rb 14 rfl (fun w' => C.Goes (N.stepped m) 14 w') d0 (hide (hcnt.mono ?_))).mono ?_
      · rintro ee w' ⟨h1, h2, h3⟩
        refine ⟨h1, ?_⟩
        have hm2 : Mv (FootN C.mb C.rb vO v1 v2 v3 C.wv) wr.drew w' := h3.weaken fun k hk => .inl hk
        have hmd : Mv (FootN C.mb C.rb C.vO C.vS C.vR C.vT C.wv) C.w0 wr.drew := hm.drew
        exact goes_trans (m := m) hmd hfr ⟨vO, v1, v2, v3, _, h2, hRd.own.mv hRd.run h3, hm2, Fresh.refl _ _, rfl, rfl, rfl, rfl, fun hh => by cases hh⟩
      · rintro ee w' ⟨rfl, hg14⟩
        refine ⟨14, rfl, .inl ⟨by decide, ?_⟩⟩
        unfold Ctx.Post
        rw [← hbody]
        exact ⟨rfl, hg14⟩
    · have hc : L.countStep (upd C.s1 m) = (upd C.s1 (N.stepped m), 0) := if_neg (by show ¬ m.steps = 1000; omega)
      rw [hc] at hcnt
      have hst1 : (N.stepped m).steps ≤ 1000 := by show m.steps + 1 ≤ 1000; omega
      -- the body's row
      obtain ⟨gb, hgb⟩ : ∃ gb, a = some ⟨gb, 0, none⟩ := by
        rcases owns_cases hrow with ⟨h1, h2, _⟩ | ⟨gb, cap', h1, _⟩
        · omega
        · injection h1 with h1
          exact ⟨gb, h1⟩
      subst hgb
      have key : ∀ w1, RunAt w1 C.mb C.rb vO C.vB C.vW v1 v2 v3 (upd C.s1 (N.stepped m)) → Mv (Foot C.mb C.rb v1 v2 v3) wr.drew w1 →
          C.Goes (N.stepped m) 0 w1 ∧ C.At pos r w1 ∧ w1.cell? ⟨C.b, 2, none⟩ = some (.slice (some ⟨gb, 0, none⟩) C.l.length cap) ∧ w1.cell? ⟨gb, pos, none⟩ = some (cellVal C.wv (c, g)) := by
        intro w1 h2 h3
        have hm2 : Mv (FootN C.mb C.rb vO v1 v2 v3 C.wv) wr.drew w1 := h3.weaken fun k hk => .inl hk
        have hown1 := hRd.own.mv hRd.run h3
        have hmd : Mv (FootN C.mb C.rb C.vO C.vS C.vR C.vT C.wv) C.w0 wr.drew := hm.drew
        refine ⟨goes_trans (m := m) hmd hfr ⟨vO, v1, v2, v3, _, h2, hown1, hm2, Fresh.refl _ _, rfl, rfl, rfl, rfl, fun _ => ⟨rfl, rfl, rfl⟩⟩, at_mv hRd hcad hm2, ?_, ?_⟩
        · have hb2 : w1.heap[C.b]? = wr.heap[C.b]? := h3.block C.b (heap_lt hblk) (foot_not_own hRd.run ⟨_, _, _, hblk, .inl rfl⟩)
          rw [hlb]
          exact cell_of_block (hb2.trans hblk) rfl
        · have hob : OBlock wr gb := owns_oblock hrow (.inl rfl) rfl
          have hb2 : w1.heap[gb]? = wr.heap[gb]? := h3.block gb (oblock_lt hob) (foot_not_own hRd.run hob)
          rw [World.cell?_of_block (w := wr) hb2]
          have := hrow.cells (g := gb) rfl pos (cellVal C.wv (c, g)) (by rw [List.getElem?_map, hcg]; rfl)
          rwa [add_lit, Nat.zero_add] at this
      -- behind 'at++'
      have aft : ∀ w1 W, (C.Goes (N.stepped m) 0 w1 ∧ C.At pos r w1) → Below w1.heap.size (w1.setCell ⟨C.cb, 2, none⟩ (.int .i64 ((pos : Int) + 1))) W → C.Goes (N.stepped m) 0 W ∧ C.At (pos + 1) r W := by
        rintro w1 W ⟨h1, h2⟩ hbl
        obtain ⟨h3, h4⟩ := jump hO h1 h2 (p := pos + 1) (.int .i64 ((pos : Int) + 1)) (by simp)
        have hbl' : Below (w1.setCell ⟨C.cb, 2, none⟩ (.int .i64 ((pos : Int) + 1))).heap.size (w1.setCell ⟨C.cb, 2, none⟩ (.int .i64 ((pos : Int) + 1))) W := by
          have : (w1.setCell ⟨C.cb, 2, none⟩ (.int .i64 ((pos : Int) + 1))).heap.size = w1.heap.size := by simp [World.setCell]
          rw [this]
          exact hbl
        exact ⟨goes_below h3 hbl', at_below h4 hbl'⟩
      have hih := doesOwn_of (hO.ih f' (by omega))
      have hfu' : 1000 - (m.steps + 1) < f' := by omega
      by_cases hk4 : c.kind = 4
      · -- a bold word
        obtain ⟨ck, cn, nm⟩ := c
        simp only at hk4
        subst hk4
        rw [N.body_bold f' m C.k C.l C.s1.depth pos r _ hcl hs rfl] at hbody
        have hin : N.inner nm = true := by
          rcases hcok with h | h | h | h
          · exact absurd h.1 (show ¬ (4 : Nat) = 1 by decide)
          · exact absurd h.1 (show ¬ (4 : Nat) = 2 by decide)
          · exact absurd h.1 (show ¬ (4 : Nat) = 3 by decide)
          · exact h.2
        obtain ⟨hgoal, hjump⟩ := hgoals pos _ g hcg rfl
        rw [he3] at hgoal hjump
        have hV : cellVal C.wv (⟨4, cn, nm⟩, g) = .iface 196 (.agg #[.string ⟨nm.toArray⟩, .int .i64 (g : Int)]) := rfl
        refine (cstep_ctl wr.drew C.cb C.rb C.b gb C.l.length cap pos ⟨nm.toArray⟩ g (fun w1 => C.Goes (N.stepped m) 0 w1 ∧ C.At pos r w1 ∧ w1.heap[C.b]? = wr.heap[C.b]?) (fun _ code w' => C.Done (N.stepped m).steps code w') hpos (by omega) d0 (hide (hcnt.mono ?_)) (hide ?_)).mono ?_
        · rintro ee w1 ⟨h1, h2, h3⟩
          obtain ⟨k1, k2, k3, k4⟩ := key w1 h2 h3
          obtain ⟨x0, x1, x2, x3⟩ := at_cells k2
          rw [hV] at k4
          exact ⟨h1, ⟨x0, x1, x2, x3, k3, k4⟩, k1, k2, h3.block C.b (heap_lt hblk) (foot_not_own hRd.run ⟨_, _, _, hblk, .inl rfl⟩)⟩
        · rintro w1 W ⟨k1, k2, k3⟩ hbl
          obtain ⟨k4, k5⟩ := aft w1 W ⟨k1, k2⟩ hbl
          have hmid : Mid C W (N.stepped m) pos r f' nm g := ⟨hO, k4, hst1, k5, by show r.length + 1 ≤ m.steps + 1; omega, hdp hpos, ⟨e, he1, he2, he3⟩, by omega, hfu', ⟨cn, hcl⟩, hgoal, hjump, by omega, hbody⟩
          refine ctl_any hmid hin cap (some ⟨gb, 0, none⟩) fun W' hb' => ?_
          have hne : C.b ≠ C.cb := by
            obtain ⟨vL, hc', _⟩ := hca
            exact ne_of_type hblk hc'.c (by decide)
          have hbW : W.heap[C.b]? = wr.heap[C.b]? := by
            have hlt1 : C.b < w1.heap.size := by
              rw [← k3] at hblk
              exact heap_lt hblk
            exact (hbl.block C.b hlt1).trans ((Below.heap_setCell _ _ _ _ hne).trans k3)
          have hblkW := hbW.trans hblk
          have := (hb'.block C.b (heap_lt hblkW)).trans hblkW
          rw [hlb]
          exact cell_of_block this rfl
        · rintro ee w' ⟨code, rfl, w1, _, hd⟩
          exact ⟨code, rfl, lead code w' hd⟩
      · -- any other word
        have hk3 : c.kind = 1 ∨ c.kind = 2 ∨ c.kind = 3 := by
          rcases hcok with h | h | h | h
          · exact .inl h.1
          · exact .inr (.inl h.1)
          · exact .inr (.inr h.1)
          · exact (hk4 h.1).elim
        rw [N.body_cell f' m C.k C.l C.s1.depth pos r c hcl hs hk3] at hbody
        obtain ⟨T, v, hV, hta⟩ := cell_iface g hcok hR.own.len hk4
        have hd1 : N.dc C.l (pos + 1) = N.dc C.l pos := by
          rw [N.dc_succ hcl]
          unfold N.dOf
          rw [if_neg hk4]
          omega
        refine (cstep_do wr.drew C.cb C.rb C.b gb C.l.length cap pos T v hta (fun w1 => C.Goes (N.stepped m) 0 w1 ∧ C.At pos r w1) (fun _ code w' => C.Done (N.stepped m).steps code w') hpos (by omega) d0 (hide (hcnt.mono ?_)) (hide ?_)).mono ?_
        · rintro ee w1 ⟨h1, h2, h3⟩
          obtain ⟨k1, k2, k3, k4⟩ := key w1 h2 h3
          obtain ⟨x0, x1, x2, x3⟩ := at_cells k2
          rw [hV] at k4
          exact ⟨h1, ⟨x0, x1, x2, x3, k3, k4⟩, k1, k2⟩
        · rintro w1 W ⟨k1, k2⟩ hbl
          obtain ⟨k4, k5⟩ := aft w1 W ⟨k1, k2⟩ hbl
          obtain ⟨yO, y1, y2, y3, hRW, hmW, hfW⟩ := goes_open hO k4 hst1
          have hdo := cell_any hih W yO y1 y2 y3 (upd C.s1 (N.stepped m)) (N.stepped m).all hRW hfu' C.k c g hcok hk4
          rw [hV] at hdo
          refine hdo.mono ?_
          intro ee w' hh
          have hmm : Mv (FootN C.mb C.rb yO y1 y2 y3 C.wv) W w' := by
            obtain ⟨_, _, _, _, _, _, _, hmm, _⟩ := hh.2
            exact hmm
          refine ⟨_, hh.1, ?_⟩
          refine done_of (m0 := N.stepped m) (goes_trans (m := N.stepped m) hmW hfW hh.2) (r := r) (next := pos + 1) hbody (N.cellDoes_steps f' (N.stepped m) C.s1.depth c) hst1 (N.cellDoes_kept f' (N.stepped m) C.s1.depth c) ⟨e, he1, he2, he3⟩ (by omega) hfu' fun _ => ⟨at_mv hRW k5 hmm, ?_, fun _ => by rw [hd1]; exact hdp hpos⟩
          have h1 := (N.cellDoes_steps f' (N.stepped m) C.s1.depth c).1
          have h2 : (N.stepped m).steps = m.steps + 1 := rfl
          show r.length ≤ (N.cellDoes f' (N.stepped m) C.s1.depth c).1.steps
          omega
        · rintro ee w' ⟨code, rfl, w1, _, hd⟩
          exact ⟨code, rfl, lead code w' hd⟩

/-- The run at another depth. -/
theorem RunAt.deep {w : World} {mb rb : Nat} {vO vB vW vS vR vT : Value} {s : L.RunS} (h : RunAt w mb rb vO vB vW vS vR vT s) (d : Nat) (u : Value) (hu : u = .int .i64 (d : Int)) :
    RunAt (w.setCell ⟨rb, 4, none⟩ u) mb rb vO vB vW vS vR vT { s with depth := d } := by
  subst hu
  have hset := set_block h.r 4 (.int .i64 (d : Int))
  have hoth : ∀ k, k ≠ rb → (w.setCell ⟨rb, 4, none⟩ (.int .i64 (d : Int))).heap[k]? = w.heap[k]? := fun k hk => Below.heap_setCell _ _ _ _ hk
  refine ⟨(hoth mb (ne_of_type h.m h.r (by decide))).trans h.m, hset, ?_, ?_, ?_, ?_, h.ap, h.sl, h.rl, h.ol, h.wl, h.si, h.ri⟩
  · exact owns_kept h.st fun k e => hoth k fun x => own_ne_of_type h.st h.r (by decide) (x ▸ e)
  · exact owns_kept h.asd fun k e => hoth k fun x => own_ne_of_type h.asd h.r (by decide) (x ▸ e)
  · exact owns_kept h.ot fun k e => hoth k fun x => own_ne_of_type h.ot h.r (by decide) (x ▸ e)
  · exact owns_kept h.wd fun k e => hoth k fun x => own_ne_of_type h.wd h.r (by decide) (x ▸ e)

/-- A DEFINITION DOES WHAT THE DOCUMENT'S MACHINE DOES, with whatever fuel. -/
theorem doesDef_all (mb rb : Nat) (vB vW : Value) (wv : List Own) : ∀ F, DoesDef mb rb vB vW wv F := by
  intro F
  induction F using Nat.strongRecOn with
  | ind F ih =>
    intro w vO vS vR vT s all k b hr hwk he hf
    obtain ⟨e, he, hen⟩ := he
    have hent := hr.own.ent k e _ he hwk hen
    have howns : N.owns F (toM s all) k s.depth = if 12 ≤ s.depth then (toM s all, 13) else N.body F (toM s all) k e.body (s.depth + 1) 0 [] := by
      unfold N.owns
      have : (toM s all).all[k]? = some e := he
      rw [this]
      simp only
      rw [if_neg (by rw [hent.1]; decide), if_neg (by rw [hent.1]; decide), if_neg (by rw [hent.1]; decide)]
    rw [howns]
    by_cases hd : 12 ≤ s.depth
    · rw [if_pos hd]
      have hd12 : s.depth = 12 := by have := hr.dp; omega
      have c4 : w.cell? ⟨rb, 4, none⟩ = some (.int .i64 12) := by
        have : w.cell? ⟨rb, 4, none⟩ = some (.int .i64 (s.depth : Int)) := cell_of_block hr.run.r rfl
        rw [this, hd12]
        rfl
      exact (doDef_deep w rb b c4).mono fun r w' hh => ⟨hh.1, by rw [hh.2]; exact GoesN.stay hr.run hr.own (Below.refl _ _)⟩
    · rw [if_neg hd]
      have c4 : w.cell? ⟨rb, 4, none⟩ = some (.int .i64 (s.depth : Int)) := cell_of_block hr.run.r rfl
      have hu : (Value.int .i64 ((s.depth : Int) + 1)) = .int .i64 ((s.depth + 1 : Nat) : Int) := by simp
      have hrun0 := hr.run.deep (s.depth + 1) (.int .i64 ((s.depth : Int) + 1)) hu
      have hmv0 : Mv (Foot mb rb vS vR vT) w (w.setCell ⟨rb, 4, none⟩ (.int .i64 ((s.depth : Int) + 1))) := (Mv.refl _ _).setCell (.inl (.inr (.inl rfl))) _
      have hown0 := hr.own.mv hr.run hmv0
      have hsz0 : (w.setCell ⟨rb, 4, none⟩ (.int .i64 ((s.depth : Int) + 1))).heap.size = w.heap.size := by simp [World.setCell]
      have htab0 : TabOk (w.setCell ⟨rb, 4, none⟩ (.int .i64 ((s.depth : Int) + 1))) := tabIs_of_block hr.tab (hmv0.block _ (tab_lt hr.tab) fun hh => hr.nof (.inl hh))
      generalize hw0 : w.setCell ⟨rb, 4, none⟩ (.int .i64 ((s.depth : Int) + 1)) = w0 at *
      let C : Ctx := ⟨mb, rb, w.heap.size, b, k, F, vO, vB, vW, vS, vR, vT, wv, { s with depth := s.depth + 1 }, e.body, N.body F (toM s all) k e.body (s.depth + 1) 0 [], w0⟩
      have hR0 : Ready w0 mb rb vO vB vW vS vR vT wv { s with depth := s.depth + 1 } all := ⟨hrun0, hown0, htab0, hr.nof, hr.st, by show s.depth + 1 ≤ 12; omega⟩
      have hOk : C.Ok := ⟨⟨all, hR0⟩, Nat.le_of_eq hsz0, hwk, ih⟩
      have hbW : Below w0.heap.size w0 (w0.alloc (Obj.cells #[Value.pointer (some ⟨rb, 0, none⟩), Value.pointer (some ⟨b, 0, none⟩), Value.int .i64 0, Value.slice none 0 0] 163)) := (Below.refl _ _).alloc (Nat.le_refl _) _
      have hcall : CallAt (w0.alloc (Obj.cells #[Value.pointer (some ⟨rb, 0, none⟩), Value.pointer (some ⟨b, 0, none⟩), Value.int .i64 0, Value.slice none 0 0] 163)) w.heap.size rb b 0 (.slice none 0 0) [] := by
        refine ⟨?_, World.ownsRow_nil _ _ _ _, fun p hp => by simp at hp⟩
        rw [← hsz0]
        exact heap_alloc_new w0 _
      have hInv : C.Inv 0 (w0.alloc (Obj.cells #[Value.pointer (some ⟨rb, 0, none⟩), Value.pointer (some ⟨b, 0, none⟩), Value.int .i64 0, Value.slice none 0 0] 163)) :=
        ⟨F, toM s all, 0, [], GoesN.stay hrun0 hown0 hbW, hr.st, Nat.zero_le _, ⟨_, hcall, fun j hj => by simp [Value.ownBlock] at hj⟩, Nat.zero_le _, fun _ => rfl, ⟨e, he, hen, rfl⟩, Nat.le_refl _, hf, rfl⟩
      have hall := call_all _ w.heap.size (fun w => ∃ t, C.Inv t w) (fun w => 1000 - stepsAt w rb) C.Post ⟨0, hInv⟩ (hide fun wr ⟨_, hh⟩ => head_any hOk hh)
      refine (doDef_walk w rb b s.depth (by omega) c4 (frozen_of_block 4 hr.run.r) (fun code w' => code = (N.body F (toM s all) k e.body (s.depth + 1) 0 []).2 ∧ GoesN mb rb vO vB vW vS vR vT wv s (N.body F (toM s all) k e.body (s.depth + 1) 0 []).1 code w w') (hide ?_)).mono ?_
      · rw [hw0]
        refine hall.mono ?_
        rintro r w' ⟨code, rfl, hpc, yO, y1, y2, y3, s', g1, g2, g3, g4, g5, g6, g7, g8, g9⟩
        have hsd : s'.depth = s.depth + 1 := g7
        have e4 : w'.cell? ⟨rb, 4, none⟩ = some (.int .i64 (s'.depth : Int)) := cell_of_block g1.r rfl
        refine ⟨code, s'.depth, rfl, e4, by omega, by omega, frozen_of_block 4 g1.r, hpc, ?_⟩
        have hu2 : (Value.int .i64 ((s'.depth : Int) - 1)) = .int .i64 ((s.depth : Nat) : Int) := by rw [hsd]; simp
        have g1' := g1.deep s.depth _ hu2
        have hmv2 : Mv (Foot mb rb y1 y2 y3) w' (w'.setCell ⟨rb, 4, none⟩ (.int .i64 ((s'.depth : Int) - 1))) := (Mv.refl _ _).setCell (.inl (.inr (.inl rfl))) _
        have hN0 : Mv (FootN mb rb vO vS vR vT wv) w w0 := hmv0.weaken fun k hk => .inl hk
        refine ⟨yO, y1, y2, y3, _, g1', g2.mv g1 hmv2, ?_, ?_, g5, g6, rfl, g8, g9⟩
        · exact (hN0.trans (Fresh.refl _ _) g3).trans ((Fresh.refl _ _).trans hN0.size g4) (hmv2.weaken fun k hk => .inl hk)
        · exact (Fresh.refl _ _).trans hN0.size g4
      · rintro r w' ⟨code, rfl, rfl, hg⟩
        exact ⟨rfl, hg⟩

theorem doesOwn_all (mb rb : Nat) (vB vW : Value) (wv : List Own) (F : Nat) : DoesOwn mb rb vB vW wv F := doesOwn_of (doesDef_all mb rb vB vW wv F)
end Go.Proofs.YtgnlokmeohffaaaGreatDoor
/- The body of a definition while it is read, in memory. -/
namespace Go.Proofs.YtgnlokmeohffaaaGreatDoor
open Go.RowKit
attribute [local go_sem ↓] Go.wp_at_zero Go.wp_at_succ

/-- Parts that are open (the outermost first), with the slices of what waits. -/
def partCells (ps : List N.Part) (pv : List Value) : List Value := (ps.zip pv).flatMap fun x => [Value.string ⟨x.1.kind.toArray⟩, Value.int .i64 (x.1.start : Int), x.2]
theorem partCells_len {ps : List N.Part} {pv : List Value} (h : pv.length = ps.length) : (partCells ps pv).length = ps.length * 3 := by
  induction ps generalizing pv with
  | nil => simp [partCells]
  | cons p t ih =>
    cases pv with
    | nil => simp at h
    | cons v u =>
      have := ih (pv := u) (by simpa using h)
      unfold partCells at this ⊢
      rw [List.zip_cons_cons, List.flatMap_cons, List.length_append, this]
      simp
      omega
theorem partCells_snoc {ps : List N.Part} {pv : List Value} (h : pv.length = ps.length) (o : N.Part) (v : Value) : partCells (ps ++ [o]) (pv ++ [v]) = partCells ps pv ++ [.string ⟨o.kind.toArray⟩, .int .i64 (o.start : Int), v] := by
  unfold partCells
  rw [List.zip_append h.symm]
  simp

def natCell (p : Nat) : Value := .int .i64 (p : Int)

structure DraftAt (B : Nat) (w : World) (dd : Nat) (vD vP : Value) (pv : List Value) (wv : List Own) (d : N.Draft) : Prop where
  hB : B ≤ dd
  blk : w.heap[dd]? = some (.cells #[vD, vP] 201)
  body : w.ownsRow B 107 1 vD d.body.length (d.body.map (cellVal wv))
  opens : w.ownsRow B 223 3 vP d.opens.length (partCells d.opens.reverse pv)
  plen : pv.length = d.opens.reverse.length
  waits : ∀ (i : Nat) (o : N.Part) (v : Value), d.opens.reverse[i]? = some o → pv[i]? = some v → w.ownsRow B 3 1 v o.waits.length (o.waits.map natCell)
  apart : ∀ (i j : Nat) (v u : Value) (k : Nat), pv[i]? = some v → pv[j]? = some u → v.ownBlock = some k → u.ownBlock = some k → i = j
  small : d.body.length ≤ 60
  few : d.opens.length ≤ 60
  low : ∀ o ∈ d.opens, o.start ≤ 60 ∧ o.waits.length ≤ 60 ∧ ∀ p ∈ o.waits, p < d.body.length

/-- The words of a body that is read may go elsewhere now. -/
theorem DraftAt.kept {B : Nat} {w w' : World} {dd : Nat} {vD vP : Value} {pv : List Value} {wv : List Own} {d : N.Draft} (h : DraftAt B w dd vD vP pv wv d) (hk : ∀ k, k = dd ∨ vD.ownBlock = some k ∨ vP.ownBlock = some k ∨ (∃ v ∈ pv, v.ownBlock = some k) → w'.heap[k]? = w.heap[k]?) : DraftAt B w' dd vD vP pv wv d :=
  ⟨h.hB, (hk dd (.inl rfl)).trans h.blk, ownsz_kept h.body fun k e => hk k (.inr (.inl e)), ownsz_kept h.opens fun k e => hk k (.inr (.inr (.inl e))), h.plen, fun i o v h1 h2 => ownsz_kept (h.waits i o v h1 h2) fun k e => hk k (.inr (.inr (.inr ⟨v, List.mem_of_getElem? h2, e⟩))), h.apart, h.small, h.few, h.low⟩
theorem DraftAt.lt {B : Nat} {w : World} {dd : Nat} {vD vP : Value} {pv : List Value} {wv : List Own} {d : N.Draft} (h : DraftAt B w dd vD vP pv wv d) {k : Nat} (hk : k = dd ∨ vD.ownBlock = some k ∨ vP.ownBlock = some k ∨ (∃ v ∈ pv, v.ownBlock = some k)) : k < w.heap.size := by
  rcases hk with rfl | hk | hk | ⟨v, hv, hk⟩
  · exact heap_lt h.blk
  · exact (h.body.lt k hk).2
  · exact (h.opens.lt k hk).2
  · obtain ⟨i, hi⟩ := List.getElem?_of_mem hv
    have hlt : i < d.opens.reverse.length := by
      rw [← h.plen]
      exact (List.getElem?_eq_some_iff.1 hi).1
    exact ((h.waits i _ v (List.getElem?_eq_getElem hlt) hi).lt k hk).2
theorem DraftAt.below {B : Nat} {w w' : World} {dd : Nat} {vD vP : Value} {pv : List Value} {wv : List Own} {d : N.Draft} (h : DraftAt B w dd vD vP pv wv d) (hb : Below w.heap.size w w') : DraftAt B w' dd vD vP pv wv d :=
  h.kept fun k hk => hb.block k (h.lt hk)

theorem own_ge {B e z n k : Nat} {w : World} {v : Value} {xs : List Value} (h : w.ownsRow B e z v n xs) (hk : v.ownBlock = some k) : B ≤ k := (h.lt k hk).1
theorem ownz_ne {B e z n k : Nat} {w : World} {v : Value} {xs : List Value} {c : Array Value} {t : TypeId} {f : Nat × Nat} (h : w.ownsRow B e z v n xs) (hk : w.heap[k]? = some (.cells c t f)) (ht : t ≠ e) : v.ownBlock ≠ some k := fun hv => by
  obtain ⟨cur, hc⟩ := ownsz_block h hv
  exact ht (typed_ne hk hc)

set_option maxRecDepth 100000 in
set_option maxHeartbeats 800000 in
theorem goOn_walk (w : World) (dd g n cap p : Nat) (nm : ByteArray) (g0 goal : Int) (hp : p < n) (hd0 : w.cell? ⟨dd, 0, none⟩ = some (.slice (some ⟨g, 0, none⟩) n cap)) (hc : w.cell? ⟨g, p, none⟩ = some (.iface 196 (.agg #[.string nm, .int .i64 g0]))) (hf : w.frozen? ⟨g, p, none⟩ = false) :
    Calls Tryz.prog 146 #[.pointer (some ⟨dd, 0, none⟩), .int .i64 p, .int .i64 goal] w fun r w' => r = .returned (.tuple #[]) ∧ ∃ W, Below w.heap.size w W ∧ w' = W.setCell ⟨g, p, none⟩ (.iface 196 (.agg #[.string nm, .int .i64 goal])) := by
  have hta := asc_ctl (.agg #[.string nm, .int .i64 g0])
  have k0 : (0 : Int) ≤ (p : Int) := by omega
  have k1 : (p : Int) < (n : Int) := by omega
  have e0 : (w.alloc (Obj.cells #[Value.string nm, Value.int .i64 goal] 196)).cell? ⟨dd, 0, none⟩ = some (.slice (some ⟨g, 0, none⟩) n cap) := cell_alloc hd0 _
  have e1 : (w.alloc (Obj.cells #[Value.string nm, Value.int .i64 goal] 196)).cell? ⟨g, p, none⟩ = some (.iface 196 (.agg #[.string nm, .int .i64 g0])) := cell_alloc hc _
  have e2 : (w.alloc (Obj.cells #[Value.string nm, Value.int .i64 goal] 196)).frozen? ⟨g, p, none⟩ = false := grown_fz (World.grownBy_alloc w _ none) hc hf (by simp)
  have e4 : (w.alloc (Obj.cells #[Value.string nm, Value.int .i64 goal] 196)).cell? ⟨w.heap.size, 0, none⟩ = some (.string nm) := cell_of_block (heap_alloc_new w _) rfl
  have e5 : (w.alloc (Obj.cells #[Value.string nm, Value.int .i64 goal] 196)).cell? ⟨w.heap.size, 1, none⟩ = some (.int .i64 goal) := cell_of_block (heap_alloc_new w _) rfl
  have hb : Below w.heap.size w (w.alloc (Obj.cells #[Value.string nm, Value.int .i64 goal] 196)) := (Below.refl _ _).alloc (Nat.le_refl _) _
  go_enter Tryz.func146, Tryz.ntmps146
  go_wp2
  generalize (w.alloc (Obj.cells #[Value.string nm, Value.int .i64 goal] 196)) = w1 at *
  go_region_law (fail)
  all_goals (go_wp2; go_end0; exact ⟨rfl, w1.drew, hb.drew, rfl⟩)
end Go.Proofs.YtgnlokmeohffaaaGreatDoor
/- goOn, shut, inner, innerLoop: over a body that is read. -/
namespace Go.Proofs.YtgnlokmeohffaaaGreatDoor
open Go.RowKit
attribute [local go_sem ↓] Go.wp_at_zero Go.wp_at_succ

/-- A cell of a row is set. -/
theorem ownsz_set {w : World} {B e z n g cap : Nat} {xs : List Value} (h : w.ownsRow B e z (.slice (some ⟨g, 0, none⟩) n cap) n xs) (j : Nat) (hj : j < n * z) (u : Value) : (w.setCell ⟨g, j, none⟩ u).ownsRow B e z (.slice (some ⟨g, 0, none⟩) n cap) n (xs.set j u) := by
  refine ⟨by rw [List.length_set]; exact h.1, ?_⟩
  rcases h.2 with ⟨h1, _⟩ | ⟨g', cap', cur, h1, hb, hg, hle, hm, hs, ht⟩
  · cases h1
  · injection h1 with h1 _ h2
    injection h1 with h1
    injection h1 with h1
    subst h1 h2
    refine .inr ⟨g, cap, cur.setIfInBounds j u, rfl, hb, set_block hg j u, hle, hm, by simpa using hs, ?_⟩
    rw [← ht]
    apply List.ext_getElem?
    intro i
    rw [List.getElem?_take, List.getElem?_set, List.getElem?_take, Array.getElem?_toList, Array.getElem?_setIfInBounds]
    have hcap : n * z ≤ cap * z := Nat.mul_le_mul_right z hle
    by_cases hi : j = i
    · subst hi
      rw [if_pos hj, if_pos rfl, if_pos rfl, if_pos (by omega), if_pos (by rw [List.length_take, Array.length_toList]; omega)]
    · rw [if_neg hi, if_neg hi, Array.getElem?_toList]

theorem DraftAt.ne_blocks {B : Nat} {w : World} {dd : Nat} {vD vP : Value} {pv : List Value} {wv : List Own} {d : N.Draft} (h : DraftAt B w dd vD vP pv wv d) :
    vD.ownBlock ≠ some dd ∧ vP.ownBlock ≠ some dd ∧ (∀ k, vD.ownBlock = some k → vP.ownBlock ≠ some k) ∧ (∀ v ∈ pv, v.ownBlock ≠ some dd ∧ (∀ k, vD.ownBlock = some k → v.ownBlock ≠ some k) ∧ (∀ k, vP.ownBlock = some k → v.ownBlock ≠ some k)) := by
  refine ⟨ownz_ne h.body h.blk (by decide), ownz_ne h.opens h.blk (by decide), fun k hk => ?_, fun v hv => ?_⟩
  · obtain ⟨cur, hc⟩ := ownsz_block h.body hk
    exact ownz_ne h.opens hc (by decide)
  · obtain ⟨i, hi⟩ := List.getElem?_of_mem hv
    have hlt : i < d.opens.reverse.length := by
      rw [← h.plen]
      exact (List.getElem?_eq_some_iff.1 hi).1
    have hw := h.waits i _ v (List.getElem?_eq_getElem hlt) hi
    refine ⟨ownz_ne hw h.blk (by decide), fun k hk => ?_, fun k hk => ?_⟩
    · obtain ⟨cur, hc⟩ := ownsz_block h.body hk
      exact ownz_ne hw hc (by decide)
    · obtain ⟨cur, hc⟩ := ownsz_block h.opens hk
      exact ownz_ne hw hc (by decide)

/-- Words of the body are put elsewhere: one cell of its row. -/
theorem DraftAt.setBody {B : Nat} {w : World} {dd g cap : Nat} {vP : Value} {pv : List Value} {wv : List Own} {d : N.Draft} (h : DraftAt B w dd (.slice (some ⟨g, 0, none⟩) d.body.length cap) vP pv wv d) (p : Nat) (hp : p < d.body.length) (u : Value) (b' : List (N.Cell × Nat)) (hb : b'.length = d.body.length) (hb' : b'.map (cellVal wv) = (d.body.map (cellVal wv)).set p u) :
    DraftAt B (w.setCell ⟨g, p, none⟩ u) dd (.slice (some ⟨g, 0, none⟩) d.body.length cap) vP pv wv ⟨b', d.opens⟩ := by
  obtain ⟨n1, n2, n3, n4⟩ := h.ne_blocks
  have hoth : ∀ k, k ≠ g → (w.setCell ⟨g, p, none⟩ u).heap[k]? = w.heap[k]? := fun k hk => Below.heap_setCell _ _ _ _ hk
  refine ⟨h.hB, (hoth dd fun e => n1 (by rw [e]; rfl)).trans h.blk, ?_, ownsz_kept h.opens fun k e => hoth k fun e2 => n3 g rfl (e2 ▸ e), h.plen, fun i o v h1 h2 => ownsz_kept (h.waits i o v h1 h2) fun k e => hoth k fun e2 => (n4 v (List.mem_of_getElem? h2)).2.1 g rfl (e2 ▸ e), h.apart, ?_, h.few, ?_⟩
  · show World.ownsRow _ _ _ _ _ b'.length (b'.map _)
    rw [hb, hb']
    exact ownsz_set h.body p (by omega) u
  · show b'.length ≤ 60
    rw [hb]; exact h.small
  · show ∀ o ∈ d.opens, _ ∧ _ ∧ ∀ p ∈ o.waits, p < b'.length
    rw [hb]; exact h.low

theorem goOn_map (wv : List Own) (b : List (N.Cell × Nat)) (p goal : Nat) (c : N.Cell) (g0 : Nat) (hc : b[p]? = some (c, g0)) (u : Value) (hu : cellVal wv (c, goal) = u) : (N.goOn b p goal).map (cellVal wv) = (b.map (cellVal wv)).set p u := by
  apply List.ext_getElem?
  intro i
  rw [List.getElem?_map, N.goOn, List.getElem?_modify, List.getElem?_set, List.getElem?_map]
  by_cases hi : p = i
  · subst hi
    rw [hc, if_pos rfl, if_pos (by rw [List.length_map]; exact (List.getElem?_eq_some_iff.1 hc).1)]
    show some (cellVal wv (if p = p then (c, goal) else (c, g0))) = some u
    rw [if_pos rfl, hu]
  · rw [if_neg hi]
    cases b[i]? with
    | none => rfl
    | some x =>
      show some (cellVal wv (if p = i then (x.1, goal) else x)) = some (cellVal wv x)
      rw [if_neg hi]

theorem goOn_any (B : Nat) (w : World) (dd : Nat) (vD vP : Value) (pv : List Value) (wv : List Own) (d : N.Draft) (p goal : Nat) (c : N.Cell) (g0 : Nat) (h : DraftAt B w dd vD vP pv wv d) (hc : d.body[p]? = some (c, g0)) (hk : c.kind = 4) :
    Calls Tryz.prog 146 #[.pointer (some ⟨dd, 0, none⟩), .int .i64 p, .int .i64 goal] w fun r w' => r = .returned (.tuple #[]) ∧ DraftAt B w' dd vD vP pv wv ⟨N.goOn d.body p goal, d.opens⟩ ∧ Below B w w' := by
  have hp := (List.getElem?_eq_some_iff.1 hc).1
  obtain ⟨g, cap, rfl, hBg, _⟩ := h.body.form (by omega)
  have hcv : ∀ x, cellVal wv (c, x) = .iface 196 (.agg #[.string ⟨c.name.toArray⟩, .int .i64 (x : Int)]) := fun x => by
    unfold cellVal
    simp only
    rw [if_neg (by omega), if_neg (by omega), if_neg (by omega)]
  have hcell := h.body.cells (g := g) rfl p (cellVal wv (c, g0)) (by rw [List.getElem?_map, hc]; rfl)
  rw [add_lit, Nat.zero_add, hcv] at hcell
  obtain ⟨cur, hcur⟩ := ownsz_block h.body (k := g) rfl
  refine (goOn_walk w dd g d.body.length cap p ⟨c.name.toArray⟩ g0 goal hp (cell_of_block h.blk rfl) hcell (frozen_of_block p hcur)).mono ?_
  rintro r w' ⟨rfl, W, hb, rfl⟩
  refine ⟨rfl, (h.below hb).setBody p hp _ _ (by unfold N.goOn; rw [List.length_modify]) (goOn_map wv d.body p goal c g0 hc _ (hcv goal)), ?_⟩
  have hBw : B ≤ w.heap.size := Nat.le_trans h.hB (Nat.le_of_lt (heap_lt h.blk))
  exact (hb.mono hBw).setCell hBg _

set_option maxRecDepth 100000 in
set_option maxHeartbeats 1600000 in
theorem shut_walk (w : World) (dd gP n m cP gw mw cw nb cD : Nat) (aD aw : Option Addr) (Inv : Nat → World → Prop) (hn : n = m + 1) (hm60 : n ≤ 60) (hcP : n ≤ cP) (hmw : mw ≤ 60) (haw : aw = some ⟨gw, 0, none⟩ ∨ mw = 0) (h0 : Inv 0 w) (e1 : w.cell? ⟨dd, 1, none⟩ = some (.slice (some ⟨gP, 0, none⟩) n cP)) (e2 : w.cell? ⟨gP, m * 3 + 2, none⟩ = some (.slice aw mw cw))
    (HI : Hid (∀ k wr, Inv k wr → k ≤ mw → wr.cell? ⟨dd, 0, none⟩ = some (.slice aD nb cD) ∧ wr.cell? ⟨dd, 1, none⟩ = some (.slice (some ⟨gP, 0, none⟩) n cP) ∧ wr.frozen? ⟨dd, 1, none⟩ = false ∧ (k < mw → ∃ p : Nat, wr.cell? ⟨gw, k, none⟩ = some (.int .i64 p) ∧ Calls Tryz.prog 146 #[.pointer (some ⟨dd, 0, none⟩), .int .i64 p, .int .i64 nb] wr fun r w' => r = .returned (.tuple #[]) ∧ Inv (k + 1) w'))) :
    Calls Tryz.prog 145 #[.pointer (some ⟨dd, 0, none⟩)] w fun r w' => r = .returned (.tuple #[]) ∧ ∃ W, Inv mw W ∧ w' = W.setCell ⟨dd, 1, none⟩ (.slice (some ⟨gP, 0, none⟩) m cP) := by
  have i0 : IntKind.i64.wrap ((n : Int) - 1) = (m : Int) := by rw [IntKind.wrap_i64]; omega
  have i1 : (0 : Int) ≤ (m : Int) := by omega
  have i2 : (m : Int) < (n : Int) := by omega
  have i3 : (m : Int) ≤ (cP : Int) := by omega
  have i4 : (m : Int) ≤ (n : Int) := by omega
  have Hn := hide hn
  have H0 := hide h0
  clear hn h0
  go_enter Tryz.func145, Tryz.ntmps145
  go_wp2
  go_loopw [20] (fun i wr => ∃ k : Nat, k ≤ mw ∧ i = .int .i64 (k : Int) ∧ Inv k wr) (fun i _ => match i with | .int _ k => mw - k.toNat | _ => 0)
  case atStart => exact ⟨0, Nat.zero_le _, rfl, unhide H0⟩
  case round =>
    obtain ⟨k, hk, rfl, hI⟩ := hrel
    obtain ⟨d0, d1, f1, hcall⟩ := unhide HI k wr hI hk
    by_cases hkm : k < mw
    · obtain ⟨p, hp, hc⟩ := hcall hkm
      have HC := hide hc
      have haw : aw = some ⟨gw, 0, none⟩ := by rcases haw with h | h; exact h; omega
      subst haw
      have k1 : (k : Int) < (mw : Int) := by omega
      have k2 : (0 : Int) ≤ (k : Int) := by omega
      have k3 : IntKind.i64.wrap ((k : Int) + 1) = (k : Int) + 1 := by rw [IntKind.wrap_i64]; omega
      clear hcall hc hI
      go_wp2_with fail
      refine (unhide HC).mono ?_
      rintro e w2 ⟨rfl, hI2⟩
      have HI2 := hide hI2
      clear hI2
      go_wp2
      refine ⟨⟨k + 1, by omega, by simp, unhide HI2⟩, ?_⟩
      show mw - ((k : Int) + 1).toNat < mw - (k : Int).toNat
      omega
    · have hke : k = mw := by omega
      have HI3 := hide hI
      have k1 : ¬ ((k : Int) < (mw : Int)) := by omega
      clear hcall hI
      go_wp2
      go_end0
      exact ⟨rfl, wr, by rw [← hke]; exact unhide HI3, rfl⟩
end Go.Proofs.YtgnlokmeohffaaaGreatDoor
