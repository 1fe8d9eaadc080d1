/- Parts of the proof: see the last text. -/
import Derived.Laws.IdiomStrings
import Derived.Test.YtgnlokmeohffaaaGreatDoorB10
/- begin, keep, at whatever run. -/
namespace Go.Proofs.YtgnlokmeohffaaaGreatDoor
open Go.RowKit

/-- A run whose machine's count of words that were begun is another. -/
theorem RunAt.set3 {w : World} {mb rb : Nat} {vO vB vW vS vR vT : Value} {s : L.RunS} (h : RunAt w mb rb vO vB vW vS vR vT s) (u : Value) : RunAt (w.setCell ⟨mb, 3, none⟩ u) mb rb vO u vW vS vR vT s := by
  have hset := set_block h.m 3 u
  have hoth : ∀ j, j ≠ mb → (w.setCell ⟨mb, 3, none⟩ u).heap[j]? = w.heap[j]? := fun j hj => Below.heap_setCell _ _ _ _ hj
  refine ⟨hset, (hoth rb (ne_of_type h.r h.m (by decide))).trans h.r, ?_, ?_, ?_, ?_, h.ap, h.sl, h.rl, h.ol, h.wl, h.si, h.ri⟩
  · exact owns_kept h.st fun j e => hoth j fun x => own_ne_of_type h.st h.m (by decide) (x ▸ e)
  · exact owns_kept h.asd fun j e => hoth j fun x => own_ne_of_type h.asd h.m (by decide) (x ▸ e)
  · exact owns_kept h.ot fun j e => hoth j fun x => own_ne_of_type h.ot h.m (by decide) (x ▸ e)
  · exact owns_kept h.wd fun j e => hoth j fun x => own_ne_of_type h.wd h.m (by decide) (x ▸ e)
/-- The word at hand is another. -/
theorem RunAt.setPos {w : World} {mb rb : Nat} {vO vB vW vS vR vT : Value} {s : L.RunS} (h : RunAt w mb rb vO vB vW vS vR vT s) (q : Nat) (u : Value) (hu : u = .int .i64 (q : Int)) : RunAt (w.setCell ⟨rb, 2, none⟩ u) mb rb vO vB vW vS vR vT { s with pos := q } := by
  subst hu
  have hset := set_block h.r 2 (.int .i64 (q : Int))
  have hoth : ∀ j, j ≠ rb → (w.setCell ⟨rb, 2, none⟩ (.int .i64 (q : Int))).heap[j]? = w.heap[j]? := fun j hj => Below.heap_setCell _ _ _ _ hj
  refine ⟨(hoth mb (ne_of_type h.m h.r (by decide))).trans h.m, hset, ?_, ?_, ?_, ?_, h.ap, h.sl, h.rl, h.ol, h.wl, h.si, h.ri⟩
  · exact owns_kept h.st fun j e => hoth j fun x => own_ne_of_type h.st h.r (by decide) (x ▸ e)
  · exact owns_kept h.asd fun j e => hoth j fun x => own_ne_of_type h.asd h.r (by decide) (x ▸ e)
  · exact owns_kept h.ot fun j e => hoth j fun x => own_ne_of_type h.ot h.r (by decide) (x ▸ e)
  · exact owns_kept h.wd fun j e => hoth j fun x => own_ne_of_type h.wd h.r (by decide) (x ▸ e)

theorem begin_any (w : World) (mb rb : Nat) (vO vW vS vR vT : Value) (nb : Nat) (s : L.RunS) (t : List UInt8) (hr : RunAt w mb rb vO (.int .i64 (nb : Int)) vW vS vR vT s) (hnb : nb ≤ 1000000000000) (ht : s.words[s.pos + 1]? = some t) (htl : t.length ≤ 1000) :
    Calls Tryz.prog 110 #[.pointer (some ⟨rb, 0, none⟩)] w fun r w' => r = .returned (.agg #[.string ⟨t.toArray⟩, .int .i64 (1000 + (nb : Int))]) ∧ RunAt w' mb rb vO (.int .i64 ((nb : Int) + 1)) vW vS vR vT s ∧ Mv (fun k => k = mb) w w' := by
  have hlt := (List.getElem?_eq_some_iff.1 ht).1
  rcases owns_cases hr.wd with ⟨_, h0, _⟩ | ⟨gW, capW, rfl, _⟩
  · omega
  have c3 : w.cell? ⟨gW, s.pos + 1, none⟩ = some (.string ⟨t.toArray⟩) := by
    have := hr.wd.cells (g := gW) rfl (s.pos + 1) (wordCell t) (by rw [List.getElem?_map, ht]; rfl)
    rwa [add_lit, Nat.zero_add] at this
  refine (rbegin_walk w mb rb s.words.length capW s.pos (s.pos + 1) gW ⟨t.toArray⟩ nb (word_small hr t htl) hnb hr.wl rfl hlt (cell_of_block hr.r rfl) (cell_of_block hr.r rfl) (cell_of_block hr.r rfl) c3 (cell_of_block hr.m rfl) (frozen_of_block 3 hr.m) (ne_of_type hr.r hr.m (by decide)) fun e => own_ne_of_type hr.wd hr.m (by decide) (by rw [e]; rfl)).mono ?_
  rintro r w' ⟨rfl, hb⟩
  have hsz : (w.setCell ⟨mb, 3, none⟩ (.int .i64 ((nb : Int) + 1))).heap.size = w.heap.size := by simp [World.setCell]
  refine ⟨rfl, (hr.set3 _).below (by rw [hsz]; exact hb), ?_⟩
  have h1 : Mv (fun k => k = mb) w (w.setCell ⟨mb, 3, none⟩ (.int .i64 ((nb : Int) + 1))) := Mv.setCell (T := fun k => k = mb) (Mv.refl _ _) (.inl rfl) _
  exact h1.trans (Fresh.refl _ _) (Mv.of_below (by rw [hsz]; exact hb) _)

theorem keep_any (w : World) (mb rb k : Nat) (vO vB vW vS vR vT : Value) (s : L.RunS) (xs : List Value) (T : TypeId) (v : Value) (hr : RunAt w mb rb vO vB vW vS vR vT s) (hk : k ≤ 40) (ho : w.ownsRow 0 62 1 vO k xs) :
    Calls Tryz.prog 112 #[.pointer (some ⟨rb, 0, none⟩), .iface T v] w fun r w' => r = .returned (.tuple #[]) ∧ ∃ v', RunAt w' mb rb v' vB vW vS vR vT s ∧ w'.ownsRow 0 62 1 v' (k + 1) (xs ++ [.iface T v]) ∧ Mv (fun j => j = mb ∨ vO.ownBlock = some j) w w' ∧ ∀ j, v'.ownBlock = some j → vO.ownBlock = some j ∨ w.heap.size ≤ j := by
  obtain ⟨aO, cO, rfl, _, _⟩ := owns_slice ho
  refine (keep_walk w mb rb k cO aO xs T v hk (cell_of_block hr.r rfl) (cell_of_block hr.m rfl) (frozen_of_block 2 hr.m) ho (fun e => own_ne_of_type ho hr.r (by decide) e.symm) fun e => own_ne_of_type ho hr.m (by decide) e.symm).mono ?_
  rintro r w' ⟨rfl, W, w3, v', hb, hg, hrow, hat, rfl⟩
  have hrW := hr.below hb
  have hoW : W.ownsRow 0 62 1 (.slice aO k cO) k xs := owns_kept ho fun j e => hb.block j (ho.lt j e).2
  have hr3 : RunAt w3 mb rb (.slice aO k cO) vB vW vS vR vT s := by
    refine hrW.kept fun j hj => hg.block j (hrW.lt j hj) fun e => ?_
    obtain ⟨cur, hc⟩ := owns_block hoW e.symm
    rcases hj with (rfl | rfl | e' | e' | e') | e'
    · exact absurd rfl (ne_of_type hrW.m hc (by decide))
    · exact absurd rfl (ne_of_type hrW.r hc (by decide))
    · exact own_ne_of_type hrW.st hc (by decide) e'
    · exact own_ne_of_type hrW.asd hc (by decide) e'
    · exact own_ne_of_type hrW.ot hc (by decide) e'
    · exact own_ne_of_type hrW.wd hc (by decide) e'
  have hm1 : Mv (fun j => j = mb ∨ (Value.slice aO k cO).ownBlock = some j) w w3 := (Mv.of_below hb _).grown hg fun j e => .inl (.inr e)
  refine ⟨rfl, v', hr3.set2 v', ?_, hm1.setCell (.inl (.inl rfl)) _, fun j hj => ?_⟩
  · refine owns_kept hrow fun j e => Below.heap_setCell _ _ _ _ fun x => ?_
    have x : j = mb := x
    exact own_ne_of_type hrow hr3.m (by decide) (x ▸ e)
  · rcases hat with e | e
    · exact .inl (e.trans hj)
    · exact .inr (e j hj)
end Go.Proofs.YtgnlokmeohffaaaGreatDoor
/- A word of one's own is made: makeVariable as the document's machine does it. -/
namespace Go.Proofs.YtgnlokmeohffaaaGreatDoor
open Go.RowKit

theorem snoc_var {wv : List Own} {o : Own} {k : Nat} (h : VarIn (wv ++ [o]) k) : VarIn wv k ∨ o = .vari k := by
  obtain ⟨j, hj⟩ := h
  rcases N.snoc_get hj with h1 | ⟨_, h2⟩
  · exact .inl ⟨j, h1⟩
  · exact .inr h2.symm

/-- keep, behind begin: one more word of one's own. -/
theorem made_any (w W : World) (mb rb : Nat) (vO vB vW vS vR vT : Value) (wv : List Own) (s : L.RunS) (all : List N.Ent) (ho : OwnAt w all wv vO vB) (e : N.Ent) (o : Own) (T : TypeId) (v : Value) (hov : ownVal o = .iface T v) (hth : N.there e = true) (hlt : (listed all wv).length < 40)
    (hkW : ∀ k, OBlock w k → W.heap[k]? = w.heap[k]?) (hrW : RunAt W mb rb vO (.int .i64 ((all.length : Int) + 1)) vW vS vR vT s)
    (hent : ∀ w' : World, (∀ k, k < W.heap.size → k ≠ mb → vO.ownBlock ≠ some k → w'.heap[k]? = W.heap[k]?) → EntAt w' (wv ++ [o]) all.length e o) (hok : ∀ c ∈ e.body, cellOk all all.length c) (hvar : ∀ b, o = .vari b → w.heap.size ≤ b) (hold : all.length + 1 ≤ 1000000000000) :
    Calls Tryz.prog 112 #[.pointer (some ⟨rb, 0, none⟩), .iface T v] W fun r w' => r = .returned (.tuple #[]) ∧ ∃ v', RunAt w' mb rb v' (.int .i64 ((all.length : Int) + 1)) vW vS vR vT s ∧ OwnAt w' (all ++ [e]) (wv ++ [o]) v' (.int .i64 ((all.length : Int) + 1)) ∧ Mv (fun j => j = mb ∨ vO.ownBlock = some j) W w' ∧ ∀ j, v'.ownBlock = some j → vO.ownBlock = some j ∨ W.heap.size ≤ j := by
  have hoW : W.ownsRow 0 62 1 vO (listed all wv).length (listed all wv) := owns_kept ho.row fun k hk => hkW k (owns_oblock ho.row (.inr rfl) hk)
  refine (keep_any W mb rb _ vO _ vW vS vR vT s _ T v hrW (by omega) hoW).mono ?_
  rintro r w' ⟨rfl, v', hr', hrow, hmv, hfr⟩
  have hlist : (listed all wv ++ if N.there e then [ownVal o] else []) = listed all wv ++ [.iface T v] := by rw [if_pos hth, hov]
  refine ⟨rfl, v', hr', ho.more e o ?_ ?_ ?_ (fun _ => hok) ?_ ?_ hold, hmv, hfr⟩
  · intro k hk hne
    have hkm : k ≠ mb := fun x => by
      obtain ⟨cs, t, fr, hc, ht⟩ := hk
      have := hrW.m
      rw [← x, hkW k ⟨cs, t, fr, hc, ht⟩, hc] at this
      injection this with this
      injection this with _ this _
      subst this
      revert ht
      decide
    have hW := hkW k hk
    refine (hmv.block k ?_ ?_).trans hW
    · have := oblock_lt hk
      obtain ⟨cs, t, fr, hc, ht⟩ := hk
      rw [hc] at hW
      exact heap_lt hW
    · rintro (x | x)
      · exact hkm x
      · exact hne x
  · rw [hlist]
    have : (listed all wv ++ [Value.iface T v]).length = (listed all wv).length + 1 := by simp
    rw [this]
    exact hrow
  · intro _
    exact hent w' fun k hk h1 h2 => hmv.block k hk fun x => x.elim h1 h2
  · rw [hlist]
    have : (listed all wv ++ [Value.iface T v]).length = (listed all wv).length + 1 := by simp
    omega
  · intro b hb
    have hth2 : e.ended = true := there_ended hth
    refine ⟨hth2, fun j hj => ?_⟩
    have := varIn_lt ho ⟨j, hj⟩
    have := hvar b hb
    omega

def wVar : N.Txt := [118, 97, 114, 105, 97, 98, 108, 101]
theorem one_var (m : N.Mach) (ws : List N.Txt) (p : Nat) : N.one m ws p wVar = if N.nameErr m ws[p + 1]? true ≠ 0 then (m, N.nameErr m ws[p + 1]? true, p, p + 2) else ({ m with all := m.all ++ [⟨(ws[p + 1]?).getD [], 2, 0, [], true, false⟩] }, 0, 0, p + 2) := rfl

/-- Where the line stands behind a word and what belongs to it. -/
def spot (res : N.Mach × Int × Nat × Nat) : Nat := if res.2.1 = 0 then res.2.2.2 - 1 else res.2.2.1
def GoesO (mb rb : Nat) (vO vW vS vR vT : Value) (wv : List Own) (s : L.RunS) (res : N.Mach × Int × Nat × Nat) (w w' : World) : Prop := GoesL mb rb vO vW vS vR vT wv s res.1 res.2.1 (spot res) w w'

theorem name_some {m : N.Mach} {x : Option N.Txt} {f : Bool} (h : N.nameErr m x f = 0) : ∃ t, x = some t := by
  cases x with
  | none => cases h
  | some t => exact ⟨t, rfl⟩
theorem name_count {m : N.Mach} {x : Option N.Txt} (h : N.nameErr m x true = 0) : N.count m < 40 := by
  obtain ⟨t, rfl⟩ := name_some h
  unfold N.nameErr at h
  simp only at h
  by_cases h1 : (L.isBold t || (true && !N.nameFits t)) = true
  · rw [if_pos h1] at h
    cases h
  · rw [if_neg h1] at h
    by_cases h2 : True ∧ 40 ≤ N.count m
    · rw [if_pos (by simpa using h2)] at h
      cases h
    · have : ¬ 40 ≤ N.count m := fun x => h2 ⟨trivial, x⟩
      omega

/-- The run behind the making of a word, one word further. -/
theorem made_goes {w W w' : World} {mb rb : Nat} {vO vW vS vR vT v1 v' : Value} {wv : List Own} {s s1 : L.RunS} {all all' : List N.Ent} {o : Own} {m : N.Mach} {D : Nat → Prop} (hmW : Mv D w W) (hD : ∀ k, D k → FootN mb rb vO vS vR vT wv k) (hfW : Fresh w (Foot mb rb vS vR vT) (Foot mb rb v1 vR vT))
    (hr' : RunAt w' mb rb v' (.int .i64 ((all.length : Int) + 1)) vW v1 vR vT s1) (ho' : OwnAt w' all' (wv ++ [o]) v' (.int .i64 ((all.length : Int) + 1))) (hmv : Mv (fun j => j = mb ∨ vO.ownBlock = some j) W w') (hfr : ∀ j, v'.ownBlock = some j → vO.ownBlock = some j ∨ W.heap.size ≤ j) (hvar : ∀ b, o = .vari b → w.heap.size ≤ b)
    (hm : m.all = all') (hs : s1.words = s.words ∧ s1.depth = s.depth ∧ s1.out = m.out ∧ s1.S = m.S ∧ s1.R = m.R ∧ s1.steps = m.steps) (p : Nat) (u : Value) (hu : u = .int .i64 (p : Int)) : GoesL mb rb vO vW vS vR vT wv s m 0 p w (w'.setCell ⟨rb, 2, none⟩ u) := by
  subst hm
  have hmvp : Mv (Foot mb rb v1 vR vT) w' (w'.setCell ⟨rb, 2, none⟩ u) := Mv.setCell (T := Foot mb rb v1 vR vT) (Mv.refl _ _) (.inl (.inr (.inl rfl))) _
  refine ⟨v', _, v1, vR, vT, wv ++ [o], _, hr'.setPos p u hu, ho'.mv hr' hmvp, ?_, ?_, hs.1, rfl, hs.2.1, hs.2.2.1, fun _ => hs.2.2.2⟩
  · have h1 : Mv (FootN mb rb vO vS vR vT wv) w W := hmW.weaken hD
    have h2 : Mv (FootN mb rb vO vS vR vT wv) W w' := hmv.weaken fun k hk => by
      rcases hk with rfl | hk
      · exact .inl (.inl rfl)
      · exact .inr (.inr hk)
    exact (h1.trans (Fresh.refl _ _) h2).setCell (.inl (.inl (.inr (.inl rfl)))) _
  · intro k hk
    have hsz := hmW.size
    rcases hk with hk | hk | hk
    · rcases hfW k hk with x | x
      · exact .inl (.inl x)
      · exact .inr x
    · rcases snoc_var hk with x | x
      · exact .inl (.inr (.inl x))
      · exact .inr (hvar k x)
    · rcases hfr k hk with x | x
      · exact .inl (.inr (.inr x))
      · exact .inr (by omega)

theorem makeVar_any (w : World) (mb rb : Nat) (vO vB vW vS vR vT : Value) (wv : List Own) (s : L.RunS) (all : List N.Ent) (h : Ready w mb rb vO vB vW vS vR vT wv s all) (hp : s.pos < s.words.length) (hw : WordsOk s) (hold : all.length + 1 ≤ 1000000000000) :
    Calls Tryz.prog 90 #[.pointer (some ⟨rb, 0, none⟩)] w fun r w' => r = .returned (.int .i64 (N.one (toM s all) s.words s.pos wVar).2.1) ∧ GoesO mb rb vO vW vS vR vT wv s (N.one (toM s all) s.words s.pos wVar) w w' := by
  have hask := askNew_any w mb rb vO vB vW vS vR vT wv s all (toM s all) rfl h.run h.own hp hw
  rw [one_var]
  by_cases he : N.nameErr (toM s all) s.words[s.pos + 1]? true = 0
  case neg =>
    rw [if_pos he]
    refine (makeVar_err w rb _ he (hide hask)).mono fun r w' hh => ⟨hh.1, ?_⟩
    unfold GoesO spot
    rw [if_neg he]
    exact GoesL.of_goesN (GoesN.stay h.run h.own hh.2)
  case pos =>
    rw [if_neg (by simpa using he)]
    rw [he] at hask
    obtain ⟨t, ht⟩ := name_some he
    have hcount := name_count he
    have hlt : (listed all wv).length < 40 := by rw [listed_count all wv h.own.len]; exact hcount
    have htl := (hw t (List.mem_of_getElem? ht)).2
    rw [ht]
    have hbegun := h.own.begun
    have hr0 := h.run
    rw [hbegun] at hr0
    have hposN : s.pos ≤ 1000 := by have := h.run.wl; omega
    refine (makeVar_walk w rb s.pos ⟨t.toArray⟩ (1000 + (all.length : Int)) (fun W => RunAt W mb rb vO (.int .i64 ((all.length : Int) + 1)) vW vS vR vT s ∧ Mv (fun k => k = mb) w W)
      (fun w' => GoesO mb rb vO vW vS vR vT wv s ({ toM s all with all := all ++ [⟨t, 2, 0, [], true, false⟩] }, 0, 0, s.pos + 2) w (w'.setCell ⟨rb, 2, none⟩ (.int .i64 ((s.pos : Int) + 1)))) hposN (hide hask) (hide fun W hb => ?_) (hide fun W hQ => ?_)).mono ?_
    · refine (begin_any W mb rb vO vW vS vR vT all.length s t (hr0.below hb) h.own.old ht (by omega)).mono fun r w' hh => ⟨hh.1, hh.2.1, ?_⟩
      exact (Mv.of_below hb _).trans (Fresh.refl _ _) hh.2.2
    · obtain ⟨hrW, hmW⟩ := hQ
      have hbA : Below W.heap.size W (W.alloc (Obj.cells #[.string ⟨t.toArray⟩, .int .i64 (1000 + (all.length : Int)), .int .i64 0] 129)) := (Below.refl _ _).alloc (Nat.le_refl _) _
      have hnew : (W.alloc (Obj.cells #[.string ⟨t.toArray⟩, .int .i64 (1000 + (all.length : Int)), .int .i64 0] 129)).heap[W.heap.size]? = some (Obj.cells #[.string ⟨t.toArray⟩, .int .i64 (1000 + (all.length : Int)), .int .i64 0] 129) := heap_alloc_new W _
      have hmA : Mv (fun k => k = mb) w (W.alloc (Obj.cells #[.string ⟨t.toArray⟩, .int .i64 (1000 + (all.length : Int)), .int .i64 0] 129)) := hmW.alloc _
      have hrA := hrW.below hbA
      have hWs := hmW.size
      generalize (W.alloc (Obj.cells #[.string ⟨t.toArray⟩, .int .i64 (1000 + (all.length : Int)), .int .i64 0] 129)) = W1 at *
      have hvar : ∀ b, Own.vari W.heap.size = .vari b → w.heap.size ≤ b := fun b hb => by
        injection hb with hb
        omega
      refine (made_any w W1 mb rb vO vB vW vS vR vT wv s all h.own ⟨t, 2, 0, [], true, false⟩ (.vari W.heap.size) _ _ rfl rfl hlt ?_ hrA ?_ (fun c hc => by simp at hc) hvar hold).mono ?_
      · intro k hk
        exact hmA.block k (oblock_lt hk) fun x => foot_not_own h.run hk (.inl x)
      · intro w' hkk
        refine ⟨rfl, ⟨by show (-9223372036854775808 : Int) ≤ 0; decide, by show (0 : Int) ≤ 9223372036854775807; decide⟩, ?_⟩
        refine (hkk W.heap.size (heap_lt hnew) ?_ ?_).trans hnew
        · intro x
          have := heap_lt h.run.m
          omega
        · intro x
          have := (h.own.row.lt _ x).2
          omega
      · rintro r w' ⟨rfl, v', hr', ho', hmv, hfr⟩
        refine ⟨rfl, ?_, cell_of_block hr'.r rfl, frozen_of_block 2 hr'.r⟩
        exact made_goes (m := { toM s all with all := all ++ [⟨t, 2, 0, [], true, false⟩] }) hmA (fun k hk => .inl (.inl hk)) (Fresh.refl _ _) hr' ho' hmv hfr hvar rfl ⟨rfl, rfl, rfl, rfl, rfl, rfl⟩ (s.pos + 1) _ (by simp)
    · rintro r w' ⟨rfl, W, hQ, rfl⟩
      exact ⟨rfl, hQ⟩
end Go.Proofs.YtgnlokmeohffaaaGreatDoor
/- makeConstant as the document's machine does it. -/
namespace Go.Proofs.YtgnlokmeohffaaaGreatDoor
open Go.RowKit

/-- One number is taken; where it lies. -/
theorem take1_any (w : World) (mb rb : Nat) (vO vB vW vS vR vT : Value) (s : L.RunS) (x : Int) (hrun : RunAt w mb rb vO vB vW vS vR vT s) (hx : s.S.getLast? = some x) :
    Calls Tryz.prog 114 #[.pointer (some ⟨rb, 0, none⟩), .int .i64 1] w fun r w' =>
      ∃ g o c v1, r = .returned (.tuple #[.slice (some ⟨g, o, none⟩) 1 c, .int .i64 0]) ∧ v1.ownBlock = some g ∧ w'.cell? ⟨g, o, none⟩ = some (.int .i64 x) ∧
        RunAt w' mb rb vO vB vW v1 vR vT { s with S := s.S.dropLast } ∧ Mv (Foot mb rb vS vR vT) w w' ∧ Fresh w (Foot mb rb vS vR vT) (Foot mb rb v1 vR vT) := by
  have hne : s.S ≠ [] := by
    rintro e
    rw [e] at hx
    cases hx
  have h1 : 1 ≤ s.S.length := List.length_pos_iff.2 hne
  rcases owns_cases hrun.st with ⟨_, h0, _⟩ | ⟨g, capS, rfl, lS⟩
  · omega
  have hs := tail_src (t := 1) hrun.st lS
  have hmm := cell_of_block (j := 0) hrun.m rfl
  generalize hxx : (if capS = s.S.length - 1 then (some ⟨g, 0, none⟩ : Option Addr) else some ⟨g, s.S.length - 1, none⟩) = y at hs
  refine (take_walk w mb rb g s.S.length 1 capS (cell_of_block hrun.r rfl) hmm (frozen_of_block 0 hrun.m) hrun.sl (by omega) lS y hxx).mono ?_
  rintro r w' ⟨rfl, rfl⟩
  have hkk : s.S.length - (s.S.length - 1) = 1 := by omega
  rw [hkk] at hs ⊢
  have hxs : ∃ o, y = some ⟨g, o, none⟩ := by
    rw [← hxx]
    split
    · exact ⟨_, rfl⟩
    · exact ⟨_, rfl⟩
  obtain ⟨o, rfl⟩ := hxs
  have htk := hrun.taken 1
  rw [← List.dropLast_eq_take] at htk
  refine ⟨g, o, _, _, rfl, rfl, ?_, htk, ((Mv.refl _ _).setCell (.inl (.inl rfl)) _).drew, Fresh.refl _ _⟩
  rcases hs with ⟨h1, _⟩ | ⟨b, o', c', h2, h3, h4⟩
  · cases h1
  · injection h2 with h2
    injection h2 with h2
    injection h2 with h5 h6
    subst h5 h6
    have hgm : g ≠ mb := fun e => own_ne_of_type hrun.st hrun.m (by decide) (by rw [e]; rfl)
    have := h4 0 (.int .i64 x) (by
      rw [← List.map_drop, List.getElem?_map, List.getElem?_drop, Nat.add_zero, ← List.getLast?_eq_getElem?, hx]
      rfl)
    exact cell_set_far this hgm

def wCon : N.Txt := [99, 111, 110, 115, 116, 97, 110, 116]
theorem one_con (m : N.Mach) (ws : List N.Txt) (p : Nat) : N.one m ws p wCon = if N.nameErr m ws[p + 1]? true ≠ 0 then (m, N.nameErr m ws[p + 1]? true, p, p + 2) else
    match N.pop m with
    | none => (m, 6, p, p + 2)
    | some (m1, n) => ({ m1 with all := m1.all ++ [⟨(ws[p + 1]?).getD [], 3, n, [], true, false⟩] }, 0, 0, p + 2) := rfl

theorem makeCon_any (w : World) (mb rb : Nat) (vO vB vW vS vR vT : Value) (wv : List Own) (s : L.RunS) (all : List N.Ent) (h : Ready w mb rb vO vB vW vS vR vT wv s all) (hp : s.pos < s.words.length) (hw : WordsOk s) (hold : all.length + 1 ≤ 1000000000000) :
    Calls Tryz.prog 91 #[.pointer (some ⟨rb, 0, none⟩)] w fun r w' => r = .returned (.int .i64 (N.one (toM s all) s.words s.pos wCon).2.1) ∧ GoesO mb rb vO vW vS vR vT wv s (N.one (toM s all) s.words s.pos wCon) w w' := by
  have hask := askNew_any w mb rb vO vB vW vS vR vT wv s all (toM s all) rfl h.run h.own hp hw
  rw [one_con]
  by_cases he : N.nameErr (toM s all) s.words[s.pos + 1]? true = 0
  case neg =>
    rw [if_pos he]
    refine (makeCon_err w rb _ he (hide hask)).mono fun r w' hh => ⟨hh.1, ?_⟩
    unfold GoesO spot
    rw [if_neg he]
    exact GoesL.of_goesN (GoesN.stay h.run h.own hh.2)
  case pos =>
    rw [if_neg (by simpa using he)]
    rw [he] at hask
    obtain ⟨t, ht⟩ := name_some he
    have hcount := name_count he
    have hlt : (listed all wv).length < 40 := by rw [listed_count all wv h.own.len]; exact hcount
    have htl := (hw t (List.mem_of_getElem? ht)).2
    rw [ht]
    have hposN : s.pos ≤ 1000 := by have := h.run.wl; omega
    unfold N.pop
    cases hS : s.S.getLast? with
    | none =>
      have hS2 : (toM s all).S.getLast? = none := hS
      rw [hS2]
      simp only
      have hnil : s.S = [] := List.getLast?_eq_none_iff.1 hS
      refine (makeCon_under w rb 6 (by decide) (fun w' => Below w.heap.size w w') (hide hask) (hide fun W hb => ?_)).mono fun r w' hh => ⟨hh.1, ?_⟩
      · refine (take_any W mb rb 1 vO vB vW vS vR vT s (h.run.below hb) (Nat.le_refl _) (by decide)).mono fun r w' hh => ?_
        rw [if_pos (by rw [hnil]; decide)] at hh
        exact ⟨_, hh.1, by rw [hh.2]; exact hb⟩
      · exact GoesL.of_goesN (GoesN.stay h.run h.own hh.2)
    | some x =>
      have hS2 : (toM s all).S.getLast? = some x := hS
      rw [hS2]
      simp only [Option.getD_some]
      have hxi : inI64 x := h.run.si x (List.mem_of_getLast? hS)
      refine (makeCon_walk w rb s.pos x ⟨t.toArray⟩ (1000 + (all.length : Int)) 
        (fun w' => GoesO mb rb vO vW vS vR vT wv s ({ toM s all with S := s.S.dropLast, all := all ++ [⟨t, 3, x, [], true, false⟩] }, 0, 0, s.pos + 2) w (w'.setCell ⟨rb, 2, none⟩ (.int .i64 ((s.pos : Int) + 1)))) hposN (hide hask) (hide fun W hb => ?_)).mono ?_
      · refine (take1_any W mb rb vO vB vW vS vR vT s x (h.run.below hb) hS).mono ?_
        rintro r w1 ⟨g, o, c, v1, rfl, hv1, cx, hr1, hm1, hf1⟩
        refine ⟨g, o, c, rfl, cx, ?_⟩
        have hr1' : RunAt w1.drew mb rb vO (.int .i64 (all.length : Int)) vW v1 vR vT { s with S := s.S.dropLast } := by
          have := h.own.begun
          rw [this] at hr1
          exact hr1.below (Below.refl _ _).drew
        have hg1 : g ≠ mb := fun e => own_ne_of_type hr1.st hr1.m (by decide) (by rw [← e]; exact hv1)
        obtain ⟨cur, hcur⟩ := owns_block hr1.st hv1
        have hmw1 : Mv (Foot mb rb vS vR vT) w w1 := (Mv.of_below hb _).trans (Fresh.refl _ _) hm1
        have hfw1 : Fresh w (Foot mb rb vS vR vT) (Foot mb rb v1 vR vT) := (Fresh.refl _ _).trans hb.size hf1
        refine (begin_any w1.drew mb rb vO vW v1 vR vT all.length { s with S := s.S.dropLast } t hr1' h.own.old ht (by omega)).mono ?_
        rintro r w2 ⟨rfl, hr2, hm2⟩
        have hm2 : Mv (fun k => k = mb) w1 w2 := ⟨hm2.os, hm2.tape, hm2.output, hm2.size, hm2.block⟩
        have hb2 := hm2.block g (heap_lt hcur) hg1
        have cx2 : w2.cell? ⟨g, o, none⟩ = some (.int .i64 x) := by rw [World.cell?_of_block (w := w1) hb2]; exact cx
        have hmw2 : Mv (Foot mb rb vS vR vT) w w2 := hmw1.trans (Fresh.refl _ _) (hm2.weaken fun k hk => .inl hk)
        refine ⟨rfl, cx2, ?_⟩
        refine (made_any w w2 mb rb vO vB vW v1 vR vT wv { s with S := s.S.dropLast } all h.own ⟨t, 3, x, [], true, false⟩ (.cons t (1000 + (all.length : Int)) x) _ _ rfl rfl hlt ?_ hr2 (fun w' _ => ⟨rfl, hxi, rfl, rfl, rfl⟩) (fun c hc => by simp at hc) (fun b hb => by cases hb) hold).mono ?_
        · intro k hk
          exact hmw2.block k (oblock_lt hk) fun y => foot_not_own h.run hk y
        · rintro r w3 ⟨rfl, v', hr', ho', hmv, hfr⟩
          refine ⟨rfl, ?_, ?_, cell_of_block hr'.r rfl, frozen_of_block 2 hr'.r⟩
          · exact made_goes (m := { toM s all with S := s.S.dropLast, all := all ++ [⟨t, 3, x, [], true, false⟩] }) hmw2 (fun k hk => .inl hk) hfw1 hr' ho' hmv hfr (fun b hb => by cases hb) rfl ⟨rfl, rfl, rfl, rfl, rfl, rfl⟩ (s.pos + 1) _ (by simp)
          · have hcur2 := hb2.trans hcur
            have hno : ¬ (g = mb ∨ vO.ownBlock = some g) := by
              rintro (y | y)
              · exact hg1 y
              · have hk := owns_oblock h.own.row (.inr rfl) y
                have hgw := hmw2.block g (oblock_lt hk) fun z => foot_not_own h.run hk z
                obtain ⟨cur2, hc2⟩ := owns_block h.own.row y
                rw [hc2, hcur2] at hgw
                injection hgw with hgw
                injection hgw with _ hgw _
                revert hgw
                decide
            exact (World.cell?_of_block (w := w2) (hmv.block g (heap_lt hcur2) hno) ..).trans cx2
      · rintro r w' ⟨rfl, W, hQ, rfl⟩
        exact ⟨rfl, hQ⟩
end Go.Proofs.YtgnlokmeohffaaaGreatDoor
/- define as the document's machine does it. -/
namespace Go.Proofs.YtgnlokmeohffaaaGreatDoor
open Go.RowKit

theorem newestOf_app (all l : List N.Ent) (name : N.Txt) : ∀ n, n ≤ all.length → N.newestOf (all ++ l) name n = N.newestOf all name n
  | 0, _ => rfl
  | n + 1, h => by
    unfold N.newestOf
    rw [List.getElem?_append_left (by omega), newestOf_app all l name n (by omega)]
theorem newestOf_snoc (all : List N.Ent) (e : N.Ent) (name : N.Txt) (h : N.there e = false) : N.newestOf (all ++ [e]) name (all ++ [e]).length = N.newestOf all name all.length := by
  rw [List.length_append, List.length_singleton]
  rw [show N.newestOf (all ++ [e]) name (all.length + 1) = N.newestOf (all ++ [e]) name all.length by
    rw [N.newestOf, List.getElem?_append_right (Nat.le_refl _), Nat.sub_self]
    simp [h]]
  exact newestOf_app all [e] name _ (Nat.le_refl _)

/-- A word that is begun and not ended is not there when the body is read. -/
theorem reads_app (m m' : N.Mach) (hm : ∀ name, N.newest m' name = N.newest m name) (ws : List N.Txt) : ∀ (f at' : Nat) (o : List N.Txt) (b : List N.Cell), N.reads m' ws f at' o b = N.reads m ws f at' o b
  | 0, _, _, _ => rfl
  | f + 1, at', o, b => by
    have ih := reads_app m m' hm ws f
    have h1 : ∀ s, N.meaning m' s = N.meaning m s := fun s => by unfold N.meaning; rw [hm]
    have h2 : ∀ x, N.nameErr m' x false = N.nameErr m x false := fun x => by
      unfold N.nameErr
      simp
    rw [N.reads, N.reads]
    simp only [h1, h2, hm, ih]

theorem owns_base {w : World} {B e n : Nat} {v : Value} {xs : List Value} (h : w.ownsRow B e 1 v n xs) : w.ownsRow 0 e 1 v n xs := by
  refine ⟨h.1, ?_⟩
  rcases h.2 with h1 | ⟨g, cap, cur, h2, _, h3⟩
  · exact .inl h1
  · exact .inr ⟨g, cap, cur, h2, Nat.zero_le _, h3⟩

theorem cellOk_un {all : List N.Ent} {e : N.Ent} {c : N.Cell} (he : e.ended = false) (h : cellOk (all ++ [e]) (all ++ [e]).length c) : cellOk all all.length c := by
  rcases h with h | ⟨h1, k, x, h2, h3, h4, h5⟩ | h | h
  · exact .inl h
  · rcases N.snoc_get h4 with hk | ⟨_, hx⟩
    · exact .inr (.inl ⟨h1, k, x, h2, (List.getElem?_eq_some_iff.1 hk).1, hk, h5⟩)
    · rw [hx, he] at h5
      cases h5
  · exact .inr (.inr (.inl h))
  · exact .inr (.inr (.inr h))

theorem made_goes0 {w W w' : World} {mb rb : Nat} {vO vW vS vR vT v1 v' : Value} {wv : List Own} {s s1 : L.RunS} {n : Int} {o : Own} {m : N.Mach} {code : Int} {D : Nat → Prop} (hmW : Mv D w W) (hD : ∀ k, D k → FootN mb rb vO vS vR vT wv k) (hfW : Fresh w (Foot mb rb vS vR vT) (Foot mb rb v1 vR vT))
    (hr' : RunAt w' mb rb v' (.int .i64 n) vW v1 vR vT s1) (ho' : OwnAt w' m.all (wv ++ [o]) v' (.int .i64 n)) (hmv : Mv (fun j => j = mb ∨ vO.ownBlock = some j) W w') (hfr : ∀ j, v'.ownBlock = some j → vO.ownBlock = some j ∨ W.heap.size ≤ j) (hvar : ∀ b, o = .vari b → w.heap.size ≤ b)
    (hs : s1.words = s.words ∧ s1.depth = s.depth ∧ s1.out = m.out ∧ (code = 0 → s1.S = m.S ∧ s1.R = m.R ∧ s1.steps = m.steps)) : GoesL mb rb vO vW vS vR vT wv s m code s1.pos w w' := by
  refine ⟨v', _, v1, vR, vT, wv ++ [o], s1, hr', ho', ?_, ?_, hs.1, rfl, hs.2.1, hs.2.2.1, hs.2.2.2⟩
  · have h1 : Mv (FootN mb rb vO vS vR vT wv) w W := hmW.weaken hD
    have h2 : Mv (FootN mb rb vO vS vR vT wv) W w' := hmv.weaken fun k hk => by
      rcases hk with rfl | hk
      · exact .inl (.inl rfl)
      · exact .inr (.inr hk)
    exact h1.trans (Fresh.refl _ _) h2
  · intro k hk
    have hsz := hmW.size
    rcases hk with hk | hk | hk
    · rcases hfW k hk with x | x
      · exact .inl (.inl x)
      · exact .inr x
    · rcases snoc_var hk with x | x
      · exact .inl (.inr (.inl x))
      · exact .inr (hvar k x)
    · rcases hfr k hk with x | x
      · exact .inl (.inr (.inr x))
      · exact .inr (by omega)

def wDef : N.Txt := [58]
theorem one_def (m : N.Mach) (ws : List N.Txt) (p : Nat) : N.one m ws p wDef = if N.nameErr m ws[p + 1]? true ≠ 0 then (m, N.nameErr m ws[p + 1]? true, p, p + 2) else
    ({ m with all := m.all ++ [⟨(ws[p + 1]?).getD [], 1, 0, (N.reads m ws (ws.length + 1) (p + 2) [] []).1, (N.reads m ws (ws.length + 1) (p + 2) [] []).2.1 == 0, false⟩] }, (N.reads m ws (ws.length + 1) (p + 2) [] []).2.1, (N.reads m ws (ws.length + 1) (p + 2) [] []).2.2.1, (N.reads m ws (ws.length + 1) (p + 2) [] []).2.2.2) := rfl

theorem define_any (w : World) (mb rb : Nat) (vO vB vW vS vR vT : Value) (wv : List Own) (s : L.RunS) (all : List N.Ent) (h : Ready w mb rb vO vB vW vS vR vT wv s all) (hp : s.pos < s.words.length) (hw : WordsOk s) (hold : all.length + 1 ≤ 1000000000000) :
    Calls Tryz.prog 88 #[.pointer (some ⟨rb, 0, none⟩)] w fun r w' => r = .returned (.int .i64 (N.one (toM s all) s.words s.pos wDef).2.1) ∧ GoesO mb rb vO vW vS vR vT wv s (N.one (toM s all) s.words s.pos wDef) w w' := by
  have hask := askNew_any w mb rb vO vB vW vS vR vT wv s all (toM s all) rfl h.run h.own hp hw
  rw [one_def]
  by_cases he : N.nameErr (toM s all) s.words[s.pos + 1]? true = 0
  case neg =>
    rw [if_pos he]
    refine (define_err w rb _ he (hide hask)).mono fun r w' hh => ⟨hh.1, ?_⟩
    unfold GoesO spot
    rw [if_neg he]
    exact GoesL.of_goesN (GoesN.stay h.run h.own hh.2)
  case pos =>
    rw [if_neg (by simpa using he)]
    rw [he] at hask
    obtain ⟨t, ht⟩ := name_some he
    have hcount := name_count he
    have hlt : (listed all wv).length < 40 := by rw [listed_count all wv h.own.len]; exact hcount
    have htl := (hw t (List.mem_of_getElem? ht)).2
    rw [ht]
    simp only [Option.getD_some]
    have hbegun := h.own.begun
    have hr0 := h.run
    rw [hbegun] at hr0
    generalize hres : N.reads (toM s all) s.words (s.words.length + 1) (s.pos + 2) [] [] = res
    refine (define_walk w rb ⟨t.toArray⟩ (1000 + (all.length : Int)) (fun W => RunAt W mb rb vO (.int .i64 ((all.length : Int) + 1)) vW vS vR vT s ∧ Mv (fun k => k = mb) w W)
      (fun code w' => code = res.2.1 ∧ GoesO mb rb vO vW vS vR vT wv s ({ toM s all with all := all ++ [⟨t, 1, 0, res.1, res.2.1 == 0, false⟩] }, res.2.1, res.2.2.1, res.2.2.2) w w') (hide hask) (hide fun W hb => ?_) (hide fun w2 hQ => ?_)).mono ?_
    · refine (begin_any W mb rb vO vW vS vR vT all.length s t (hr0.below hb) h.own.old ht (by omega)).mono fun r w' hh => ⟨hh.1, hh.2.1, ?_⟩
      exact (Mv.of_below hb _).trans (Fresh.refl _ _) hh.2.2
    · obtain ⟨hr2, hm2⟩ := hQ
      have hb2 : Below w2.heap.size w2 (w2.alloc (Obj.cells #[.string ⟨t.toArray⟩, .int .i64 (1000 + (all.length : Int))] 127)) := (Below.refl _ _).alloc (Nat.le_refl _) _
      have hnew : (w2.alloc (Obj.cells #[.string ⟨t.toArray⟩, .int .i64 (1000 + (all.length : Int))] 127)).heap[w2.heap.size]? = some (Obj.cells #[.string ⟨t.toArray⟩, .int .i64 (1000 + (all.length : Int))] 127) := heap_alloc_new w2 _
      have hm0 : Mv (fun k => k = mb) w (w2.alloc (Obj.cells #[.string ⟨t.toArray⟩, .int .i64 (1000 + (all.length : Int))] 127)) := hm2.alloc _
      have hrw0 := hr2.below hb2
      have hrb2 := heap_lt hr2.r
      generalize (w2.alloc (Obj.cells #[.string ⟨t.toArray⟩, .int .i64 (1000 + (all.length : Int))] 127)) = w0 at *
      have hkw0 : ∀ k, OBlock w k → w0.heap[k]? = w.heap[k]? := fun k hk => hm0.block k (oblock_lt hk) fun x => foot_not_own h.run hk (.inl x)
      have hown : OwnAt w0 (all ++ [⟨t, 1, 0, res.1, false, false⟩]) (wv ++ [.cons [] 0 0]) vO (.int .i64 ((all.length : Int) + 1)) := by
        refine h.own.more _ _ (fun k hk _ => hkw0 k hk) ?_ (fun x => by cases x) (fun x => by cases x) ?_ (fun b hb => by cases hb) hold
        · rw [if_neg (by simp [N.there]), List.append_nil]
          exact owns_kept h.own.row fun k hk => hkw0 k (owns_oblock h.own.row (.inr rfl) hk)
        · rw [if_neg (by simp [N.there]), List.append_nil]
          omega
      have hrds : N.reads (toM s (all ++ [⟨t, 1, 0, res.1, false, false⟩])) s.words (s.words.length + 1) (s.pos + 2) [] [] = res := by
        rw [← hres]
        refine reads_app (toM s all) _ (fun name => ?_) _ _ _ _ _
        exact newestOf_snoc all ⟨t, 1, 0, _, false, false⟩ name rfl
      have hrd := readBody_any w0 mb rb vO _ vW vS vR vT _ s (all ++ [⟨t, 1, 0, res.1, false, false⟩]) (toM s (all ++ [⟨t, 1, 0, res.1, false, false⟩])) rfl hrw0 hown hp (fun u hu => by have := (hw u hu).2; omega)
      rw [hrds] at hrd
      refine hrd.mono ?_
      rintro r w' ⟨v, code, rfl, hcode, herr, hgood⟩
      refine ⟨v, code, rfl, ?_, fun hc => ⟨hcode, ?_⟩, fun hc => ?_⟩
      · have hR : ∃ p, Reading w0 w' mb rb vW vT s p := by
          by_cases hz : code = 0
          · obtain ⟨p, _, _, _, _, _, hR, _⟩ := hgood hz
            exact ⟨p, hR⟩
          · exact ⟨_, herr hz⟩
        obtain ⟨p, hR⟩ := hR
        exact (hR.mv.block w2.heap.size (heap_lt hnew) (by omega)).trans hnew
      · have hR := herr hc
        have hrun := hR.run hrw0
        have hoR := hR.own hrw0 hown
        have hcz : res.2.1 ≠ 0 := by rw [← hcode]; exact hc
        have hmw : Mv (fun k => k = mb ∨ k = rb) w w' := (hm0.weaken fun k hk => .inl hk).trans (Fresh.refl _ _) (hR.mv.weaken fun k hk => .inr hk)
        unfold GoesO spot
        simp only
        rw [if_neg hcz, show (res.2.1 == 0) = false from beq_eq_false_iff_ne.2 hcz]
        exact made_goes0 (s1 := { s with pos := res.2.2.1 }) (m := { toM s all with all := all ++ [⟨t, 1, 0, res.1, false, false⟩] }) hmw (fun k hk => .inl (by rcases hk with hk | hk; exact .inl hk; exact .inr (.inl hk))) (Fresh.refl _ _) hrun hoR (Mv.refl _ _) (fun j hj => .inl hj) (fun b hb => by cases hb) ⟨rfl, rfl, rfl, fun x => (hcz x).elim⟩
      · obtain ⟨p, d, vP, pv, hp1, hp2, hR, hd, hsd, hop, hcl⟩ := hgood hc
        have hrun := hR.run hrw0
        have hcz : res.2.1 = 0 := by rw [← hcode]; exact hc
        obtain ⟨aD, cD, hvD, _, _⟩ := owns_slice hd.body
        refine ⟨aD, d.body.length, cD, hvD, ?_⟩
        have hbA : Below w'.heap.size w' (w'.alloc (Obj.cells #[.string ⟨t.toArray⟩, .int .i64 (1000 + (all.length : Int)), v] 180)) := (Below.refl _ _).alloc (Nat.le_refl _) _
        have hnewA : (w'.alloc (Obj.cells #[.string ⟨t.toArray⟩, .int .i64 (1000 + (all.length : Int)), v] 180)).heap[w'.heap.size]? = some (Obj.cells #[.string ⟨t.toArray⟩, .int .i64 (1000 + (all.length : Int)), v] 180) := heap_alloc_new w' _
        have hmw : Mv (fun k => k = mb ∨ k = rb) w w' := (hm0.weaken fun k hk => .inl hk).trans (Fresh.refl _ _) (hR.mv.weaken fun k hk => .inr hk)
        have hmA : Mv (fun k => k = mb ∨ k = rb) w (w'.alloc (Obj.cells #[.string ⟨t.toArray⟩, .int .i64 (1000 + (all.length : Int)), v] 180)) := hmw.alloc _
        have hrA := hrun.below hbA
        have hdA := hd.below hbA
        have hsz := hmw.size
        have hm0s := hm0.size
        generalize (w'.alloc (Obj.cells #[.string ⟨t.toArray⟩, .int .i64 (1000 + (all.length : Int)), v] 180)) = W at *
        have hok : ∀ c ∈ res.1, cellOk all all.length c := fun c hc => cellOk_un rfl (hsd.ok c (by rw [hcl]; exact hc))
        refine (made_any w W mb rb vO vB vW vS vR vT wv { s with pos := p } all h.own ⟨t, 1, 0, res.1, true, false⟩ (.defn w'.heap.size) _ _ rfl rfl hlt ?_ hrA ?_ hok (fun b hb => by cases hb) hold).mono ?_
        · intro k hk
          refine hmA.block k (oblock_lt hk) ?_
          rintro (x | x)
          · exact foot_not_own h.run hk (.inl x)
          · exact foot_not_own h.run hk (.inr (.inl x))
        · intro w3 hkk
          have far : ∀ k, w.heap.size ≤ k → k < W.heap.size → w3.heap[k]? = W.heap[k]? := fun k hk1 hk2 => hkk k hk2 (fun x => by have := heap_lt h.run.m; omega) fun x => by
            have := (h.own.row.lt _ x).2
            omega
          refine ⟨rfl, v, d.body, (far _ hsz (heap_lt hnewA)).trans hnewA, ?_, hcl, hsd.small, ?_⟩
          · have e1 : d.body.map (cellVal (wv ++ [.defn w'.heap.size])) = d.body.map (cellVal (wv ++ [.cons [] 0 0])) := by
              apply List.map_congr_left
              intro y hy
              obtain ⟨c, g⟩ := y
              have hc2 := hok c (by rw [← hcl]; exact List.mem_map_of_mem (f := (·.1)) hy)
              rw [cellVal_app _ g h.own.len hc2, cellVal_app _ g h.own.len hc2]
            rw [e1]
            refine owns_base (owns_kept hdA.body fun k hk => far k ?_ (hdA.body.lt k hk).2)
            have := own_ge hdA.body hk
            omega
          · intro q c g hq hk4
            show ((N.fwd c.name || N.bwd c.name) = true → g = N.goal res.1 q c.name) ∧ N.JumpOk res.1 q c.name g
            rw [← hcl]
            exact ⟨fun hf => N.goal_whole hsd.fine hop hq hk4 hf, N.jump_whole hsd.deep hop hq hk4⟩
        · rintro r w3 ⟨rfl, v', hr', ho', hmv, hfr⟩
          refine ⟨rfl, hcz.symm, ?_⟩
          unfold GoesO spot
          simp only
          rw [if_pos hcz, hcz, hp1, Nat.add_sub_cancel]
          exact made_goes0 (s1 := { s with pos := p }) (m := { toM s all with all := all ++ [⟨t, 1, 0, res.1, true, false⟩] }) hmA (fun k hk => .inl (by rcases hk with hk | hk; exact .inl hk; exact .inr (.inl hk))) (Fresh.refl _ _) hr' ho' hmv hfr (fun b hb => by cases hb) ⟨rfl, rfl, rfl, fun _ => ⟨rfl, rfl, rfl⟩⟩
    · rintro r w' ⟨code, rfl, hc, hg⟩
      exact ⟨by rw [hc], hg⟩
end Go.Proofs.YtgnlokmeohffaaaGreatDoor
/- layToken as the document's machine does it. -/
namespace Go.Proofs.YtgnlokmeohffaaaGreatDoor
open Go.RowKit

/-- The word at hand is another. -/
theorem GoesL.step {mb rb : Nat} {vO vW vS vR vT : Value} {wv : List Own} {s : L.RunS} {m : N.Mach} {code : Int} {p : Nat} {w W : World} (h : GoesL mb rb vO vW vS vR vT wv s m code p w W) (q : Nat) (u : Value) (hu : u = .int .i64 (q : Int)) : GoesL mb rb vO vW vS vR vT wv s m code q w (W.setCell ⟨rb, 2, none⟩ u) := by
  obtain ⟨vO', vB', v1, v2, v3, wv', s', h1, h2, h3, h4, h5, h6, h7⟩ := h
  have hmvp : Mv (Foot mb rb v1 v2 v3) W (W.setCell ⟨rb, 2, none⟩ u) := Mv.setCell (T := Foot mb rb v1 v2 v3) (Mv.refl _ _) (.inl (.inr (.inl rfl))) _
  exact ⟨vO', vB', v1, v2, v3, wv', _, h1.setPos q u hu, h2.mv h1 hmvp, h3.setCell (.inl (.inl (.inr (.inl rfl)))) _, h4, h5, rfl, h7⟩

def wTok : N.Txt := [39]
theorem one_tok (m : N.Mach) (ws : List N.Txt) (p : Nat) : N.one m ws p wTok = if N.nameErr m ws[p + 1]? false ≠ 0 then (m, N.nameErr m ws[p + 1]? false, p, p + 2) else
    match N.newest m ((ws[p + 1]?).getD []) with
    | none => (m, 2, p, p + 2)
    | some k => ((N.push m (1000 + k)).1, (N.push m (1000 + k)).2, p, p + 2) := rfl

theorem nameErr_few (m m' : N.Mach) (x : Option N.Txt) : N.nameErr m x false = N.nameErr m' x false := by
  unfold N.nameErr
  simp
theorem nameErr_four {m : N.Mach} {x : Option N.Txt} (h : N.nameErr m x false ≠ 0) : N.nameErr m x false = 4 := by
  unfold N.nameErr at h ⊢
  cases x with
  | none => rfl
  | some t =>
    simp only [Bool.false_and, Bool.or_false, Bool.false_eq_true, false_and, if_false] at h ⊢
    by_cases hb : L.isBold t = true
    · rw [if_pos hb]
    · rw [if_neg hb] at h
      exact (h rfl).elim

set_option maxRecDepth 100000 in
theorem layToken_any (w : World) (mb rb : Nat) (vO vB vW vS vR vT : Value) (wv : List Own) (s : L.RunS) (all : List N.Ent) (h : Ready w mb rb vO vB vW vS vR vT wv s all) (hp : s.pos < s.words.length) :
    Calls Tryz.prog 89 #[.pointer (some ⟨rb, 0, none⟩)] w fun r w' => r = .returned (.int .i64 (N.one (toM s all) s.words s.pos wTok).2.1) ∧ GoesO mb rb vO vW vS vR vT wv s (N.one (toM s all) s.words s.pos wTok) w w' := by
  have hask := askOwn_any w mb rb vO vB vW vS vR vT wv s all h.run h.own hp
  have hstay : ∀ w', Below w.heap.size w w' → ∀ code, GoesL mb rb vO vW vS vR vT wv s (toM s all) code s.pos w w' := fun w' hb code => GoesL.of_goesN (GoesN.stay h.run h.own hb)
  rw [one_tok]
  unfold asked at hask
  by_cases he : N.nameErr (toM s all) s.words[s.pos + 1]? false = 0
  case neg =>
    have he2 : N.nameErr (⟨all, [], [], [], 0⟩ : N.Mach) s.words[s.pos + 1]? false ≠ 0 := by rw [nameErr_few _ (toM s all)]; exact he
    rw [if_pos he2] at hask
    rw [if_pos he, nameErr_four he]
    exact (layToken_err w rb _ 4 rfl _ (hide hask)).mono fun r w' hh => ⟨hh.1, hstay w' hh.2 _⟩
  case pos =>
    have he2 : ¬ N.nameErr (⟨all, [], [], [], 0⟩ : N.Mach) s.words[s.pos + 1]? false ≠ 0 := by rw [nameErr_few _ (toM s all)]; simpa using he
    rw [if_neg he2] at hask
    rw [if_neg (by simpa using he)]
    generalize (s.words[s.pos + 1]?).getD [] = name at *
    show Calls _ _ _ _ fun r w' => r = .returned (.int .i64 (match N.newestOf all name all.length with
      | none => (toM s all, (2 : Int), s.pos, s.pos + 2)
      | some k => ((N.push (toM s all) (1000 + k)).1, (N.push (toM s all) (1000 + k)).2, s.pos, s.pos + 2)).2.1) ∧ GoesO mb rb vO vW vS vR vT wv s (match N.newestOf all name all.length with
      | none => (toM s all, (2 : Int), s.pos, s.pos + 2)
      | some k => ((N.push (toM s all) (1000 + k)).1, (N.push (toM s all) (1000 + k)).2, s.pos, s.pos + 2)) w w'
    cases hk : N.newestOf all name all.length with
    | none =>
      rw [hk] at hask
      exact (layToken_err w rb _ 2 rfl _ (hide hask)).mono fun r w' hh => ⟨hh.1, hstay w' hh.2 _⟩
    | some k =>
      rw [hk] at hask
      simp only at hask ⊢
      obtain ⟨hkl, e, hek, _, hth⟩ := newest_lt all _ _ _ hk
      obtain ⟨o, ho2⟩ : ∃ o, wv[k]? = some o := ⟨_, List.getElem?_eq_getElem (by rw [h.own.len]; exact hkl)⟩
      have hv : ownAt wv (some k) = ownVal o := by unfold ownAt; rw [Option.bind_some, ho2]; rfl
      have hent := h.own.ent k e o hek ho2 (there_ended hth)
      rw [hv] at hask
      obtain ⟨T, v, hTv, _⟩ := head_name hent.head
      rw [hTv] at hask
      have hposN : s.pos ≤ 500 := by have := h.run.wl; omega
      have hold := h.own.old
      refine (layToken_walk w rb s.pos T v ⟨e.name.toArray⟩ (1000 + (k : Int)) (N.push (toM s all) (1000 + k)).2 (fun w' => Below w.heap.size w w') (fun W => GoesN mb rb vO vB vW vS vR vT wv s (N.push (toM s all) (1000 + k)).1 (N.push (toM s all) (1000 + k)).2 w W) hposN (hide (hask.mono fun r w' hh => ⟨hh.1, ?_, hh.2⟩)) (hide fun w1 W hb1 hb => ?_)).mono ?_
      · obtain ⟨T2, v2, hTv2, _, hmt⟩ := head_name ((h.own.below hh.2).ent k e o hek ho2 (there_ended hth)).head
        have e3 : Value.iface T v = Value.iface T2 v2 := hTv.symm.trans hTv2
        clear hTv hTv2
        injection e3 with e1 e2
        rw [e1, e2]
        exact hmt
      · have hbW : Below w.heap.size w W := hb1.trans (hb.mono hb1.size)
        refine (lay_N W mb rb vO vB vW vS vR vT wv s all (1000 + (k : Int)) (h.below hbW) ⟨by omega, by omega⟩).mono fun r w' hh => ?_
        have hcf : w'.cell? ⟨rb, 2, none⟩ = some (.int .i64 (s.pos : Int)) ∧ w'.frozen? ⟨rb, 2, none⟩ = false := by
          obtain ⟨_, _, _, _, s', g1, _, _, _, _, g6, _⟩ := hh.2
          rw [← g6]
          exact ⟨cell_of_block g1.r rfl, frozen_of_block 2 g1.r⟩
        exact ⟨hh.1, hcf.1, hcf.2, GoesN.after hbW hh.2⟩
      · rintro r w' ⟨rfl, W, hg, hcase⟩
        refine ⟨rfl, ?_⟩
        unfold GoesO spot
        simp only
        rcases hcase with ⟨hc, rfl⟩ | ⟨hc, rfl⟩
        · rw [if_neg hc]
          exact GoesL.of_goesN hg
        · rw [if_pos hc]
          exact (GoesL.of_goesN hg).step (s.pos + 1) _ (by simp)
end Go.Proofs.YtgnlokmeohffaaaGreatDoor
/- makeMarker, forget (the run's): the walks, and as the document's machine does it. -/
namespace Go.Proofs.YtgnlokmeohffaaaGreatDoor
open Go.RowKit
attribute [local go_sem ↓] Go.wp_at_zero Go.wp_at_succ

set_option maxRecDepth 100000 in
set_option maxHeartbeats 800000 in
theorem makeMark_err (w : World) (rb : Nat) (code : Int) (hc : code ≠ 0) (HA : Hid (Calls Tryz.prog 109 #[.pointer (some ⟨rb, 0, none⟩)] w fun r w' => r = .returned (.int .i64 code) ∧ Below w.heap.size w w')) :
    Calls Tryz.prog 92 #[.pointer (some ⟨rb, 0, none⟩)] w fun r w' => r = .returned (.int .i64 code) ∧ Below w.heap.size w w' := by
  have k0 : (code == 0) = false := beq_eq_false_iff_ne.2 hc
  go_enter Tryz.func92, Tryz.ntmps92
  go_wp2_with fail
  refine (unhide HA).mono ?_
  rintro e w1 ⟨rfl, hb⟩
  go_wp2
  go_ret
  exact ⟨rfl, hb⟩

set_option maxRecDepth 100000 in
set_option maxHeartbeats 1600000 in
theorem makeMark_walk (w : World) (rb pos : Nat) (t : ByteArray) (tok : Int) (Q1 Q2 : World → Prop) (hpos : pos ≤ 1000) (HA : Hid (Calls Tryz.prog 109 #[.pointer (some ⟨rb, 0, none⟩)] w fun r w' => r = .returned (.int .i64 0) ∧ Below w.heap.size w w'))
    (HG : Hid (∀ W, Below w.heap.size w W → Calls Tryz.prog 110 #[.pointer (some ⟨rb, 0, none⟩)] W fun r w' => r = .returned (.agg #[.string t, .int .i64 tok]) ∧ Q1 w'))
    (HK : Hid (∀ W, Q1 W → Calls Tryz.prog 112 #[.pointer (some ⟨rb, 0, none⟩), .iface 132 (.agg #[.string t, .int .i64 tok])] W fun r w' => r = .returned (.tuple #[]) ∧ Q2 w' ∧ w'.cell? ⟨rb, 2, none⟩ = some (.int .i64 pos) ∧ w'.frozen? ⟨rb, 2, none⟩ = false)) :
    Calls Tryz.prog 92 #[.pointer (some ⟨rb, 0, none⟩)] w fun r w' => r = .returned (.int .i64 0) ∧ ∃ W, Q2 W ∧ w' = W.setCell ⟨rb, 2, none⟩ (.int .i64 ((pos : Int) + 1)) := by
  have i0 : IntKind.i64.wrap ((pos : Int) + 1) = (pos : Int) + 1 := by rw [IntKind.wrap_i64]; omega
  clear hpos
  go_enter Tryz.func92, Tryz.ntmps92
  go_wp2_with fail
  refine (unhide HA).mono ?_
  rintro e w1 ⟨rfl, hb⟩
  go_wp2_with fail
  refine (unhide HG _ hb).mono ?_
  rintro e w2 ⟨rfl, hq⟩
  have HQ := hide hq
  clear hq hb
  go_wp2_with fail
  refine (unhide HK w2 (unhide HQ)).mono ?_
  rintro e w3 ⟨rfl, hq2, c2, f2⟩
  have HQ2 := hide hq2
  clear hq2
  go_wp2
  go_ret
  exact ⟨rfl, w3, unhide HQ2, rfl⟩

set_option maxRecDepth 100000 in
set_option maxHeartbeats 800000 in
theorem rforget_err (w : World) (rb : Nat) (V : Value) (code : Int) (hc : (code != 0) = true) (P : World → Prop)
    (H : Hid (Calls Tryz.prog 113 #[.pointer (some ⟨rb, 0, none⟩)] w fun r w' => r = .returned (.tuple #[V, .int .i64 code]) ∧ P w')) :
    Calls Tryz.prog 93 #[.pointer (some ⟨rb, 0, none⟩)] w fun r w' => r = .returned (.int .i64 code) ∧ P w' := by
  go_enter Tryz.func93, Tryz.ntmps93
  go_wp2_with fail
  refine (unhide H).mono ?_
  rintro e w' ⟨rfl, hP⟩
  have HP := hide hP
  clear hP
  go_wp2
  go_ret
  exact ⟨rfl, unhide HP⟩

set_option maxRecDepth 100000 in
set_option maxHeartbeats 800000 in
theorem rforget_walk (w : World) (mb rb pos : Nat) (T : TypeId) (v : Value) (P Q : World → Prop) (hpos : pos ≤ 500)
    (H : Hid (Calls Tryz.prog 113 #[.pointer (some ⟨rb, 0, none⟩)] w fun r w' => r = .returned (.tuple #[.iface T v, .int .i64 0]) ∧ w'.cell? ⟨rb, 0, none⟩ = some (.pointer (some ⟨mb, 0, none⟩)) ∧ P w'))
    (HA : Hid (∀ W, P W → Calls Tryz.prog 66 #[.pointer (some ⟨mb, 0, none⟩), .iface T v] W fun r w' => r = .returned (.tuple #[]) ∧ w'.cell? ⟨rb, 2, none⟩ = some (.int .i64 pos) ∧ w'.frozen? ⟨rb, 2, none⟩ = false ∧ Q w')) :
    Calls Tryz.prog 93 #[.pointer (some ⟨rb, 0, none⟩)] w fun r w' => r = .returned (.int .i64 0) ∧ ∃ W, Q W ∧ w' = W.setCell ⟨rb, 2, none⟩ (.int .i64 ((pos : Int) + 1)) := by
  have i0 : IntKind.i64.wrap ((pos : Int) + 1) = (pos : Int) + 1 := by rw [IntKind.wrap_i64]; omega
  clear hpos
  go_enter Tryz.func93, Tryz.ntmps93
  go_wp2_with fail
  refine (unhide H).mono ?_
  rintro e w1 ⟨rfl, c0, hP⟩
  have HA2 := hide (unhide HA w1 hP)
  clear hP
  go_wp2_with fail
  refine (unhide HA2).mono ?_
  rintro e w3 ⟨rfl, c2, f2, hQ⟩
  have HQ := hide hQ
  clear hQ
  go_wp2
  go_ret
  exact ⟨rfl, w3, unhide HQ, rfl⟩

def wMark : N.Txt := [109, 97, 114, 107, 101, 114]
def wForg : N.Txt := [102, 111, 114, 103, 101, 116]
theorem one_mark (m : N.Mach) (ws : List N.Txt) (p : Nat) : N.one m ws p wMark = if N.nameErr m ws[p + 1]? true ≠ 0 then (m, N.nameErr m ws[p + 1]? true, p, p + 2) else ({ m with all := m.all ++ [⟨(ws[p + 1]?).getD [], 4, 0, [], true, false⟩] }, 0, 0, p + 2) := rfl
theorem one_forg (m : N.Mach) (ws : List N.Txt) (p : Nat) : N.one m ws p wForg = if N.nameErr m ws[p + 1]? false ≠ 0 then (m, N.nameErr m ws[p + 1]? false, p, p + 2) else
    match N.newest m ((ws[p + 1]?).getD []) with
    | none => (m, 2, p, p + 2)
    | some k => (N.forgets m k, 0, 0, p + 2) := rfl

theorem makeMark_any (w : World) (mb rb : Nat) (vO vB vW vS vR vT : Value) (wv : List Own) (s : L.RunS) (all : List N.Ent) (h : Ready w mb rb vO vB vW vS vR vT wv s all) (hp : s.pos < s.words.length) (hw : WordsOk s) (hold : all.length + 1 ≤ 1000000000000) :
    Calls Tryz.prog 92 #[.pointer (some ⟨rb, 0, none⟩)] w fun r w' => r = .returned (.int .i64 (N.one (toM s all) s.words s.pos wMark).2.1) ∧ GoesO mb rb vO vW vS vR vT wv s (N.one (toM s all) s.words s.pos wMark) w w' := by
  have hask := askNew_any w mb rb vO vB vW vS vR vT wv s all (toM s all) rfl h.run h.own hp hw
  rw [one_mark]
  by_cases he : N.nameErr (toM s all) s.words[s.pos + 1]? true = 0
  case neg =>
    rw [if_pos he]
    refine (makeMark_err w rb _ he (hide hask)).mono fun r w' hh => ⟨hh.1, ?_⟩
    unfold GoesO spot
    rw [if_neg he]
    exact GoesL.of_goesN (GoesN.stay h.run h.own hh.2)
  case pos =>
    rw [if_neg (by simpa using he)]
    rw [he] at hask
    obtain ⟨t, ht⟩ := name_some he
    have hcount := name_count he
    have hlt : (listed all wv).length < 40 := by rw [listed_count all wv h.own.len]; exact hcount
    have htl := (hw t (List.mem_of_getElem? ht)).2
    rw [ht]
    have hbegun := h.own.begun
    have hr0 := h.run
    rw [hbegun] at hr0
    have hposN : s.pos ≤ 1000 := by have := h.run.wl; omega
    refine (makeMark_walk w rb s.pos ⟨t.toArray⟩ (1000 + (all.length : Int)) (fun W => RunAt W mb rb vO (.int .i64 ((all.length : Int) + 1)) vW vS vR vT s ∧ Mv (fun k => k = mb) w W)
      (fun w' => GoesO mb rb vO vW vS vR vT wv s ({ toM s all with all := all ++ [⟨t, 4, 0, [], true, false⟩] }, 0, 0, s.pos + 2) w (w'.setCell ⟨rb, 2, none⟩ (.int .i64 ((s.pos : Int) + 1)))) hposN (hide hask) (hide fun W hb => ?_) (hide fun W hQ => ?_)).mono ?_
    · refine (begin_any W mb rb vO vW vS vR vT all.length s t (hr0.below hb) h.own.old ht (by omega)).mono fun r w' hh => ⟨hh.1, hh.2.1, ?_⟩
      exact (Mv.of_below hb _).trans (Fresh.refl _ _) hh.2.2
    · obtain ⟨hrW, hmW⟩ := hQ
      refine (made_any w W mb rb vO vB vW vS vR vT wv s all h.own ⟨t, 4, 0, [], true, false⟩ (.mark t (1000 + (all.length : Int))) _ _ rfl rfl hlt ?_ hrW (fun w' _ => ⟨rfl, rfl, rfl⟩) (fun c hc => by simp at hc) (fun b hb => by cases hb) hold).mono ?_
      · intro k hk
        exact hmW.block k (oblock_lt hk) fun x => foot_not_own h.run hk (.inl x)
      · rintro r w' ⟨rfl, v', hr', ho', hmv, hfr⟩
        refine ⟨rfl, ?_, cell_of_block hr'.r rfl, frozen_of_block 2 hr'.r⟩
        exact made_goes (m := { toM s all with all := all ++ [⟨t, 4, 0, [], true, false⟩] }) hmW (fun k hk => .inl (.inl hk)) (Fresh.refl _ _) hr' ho' hmv hfr (fun b hb => by cases hb) rfl ⟨rfl, rfl, rfl, rfl, rfl, rfl⟩ (s.pos + 1) _ (by simp)
    · rintro r w' ⟨rfl, W, hQ, rfl⟩
      exact ⟨rfl, hQ⟩

set_option maxRecDepth 100000 in
theorem rforget_any (w : World) (mb rb : Nat) (vO vB vW vS vR vT : Value) (wv : List Own) (s : L.RunS) (all : List N.Ent) (h : Ready w mb rb vO vB vW vS vR vT wv s all) (hp : s.pos < s.words.length) :
    Calls Tryz.prog 93 #[.pointer (some ⟨rb, 0, none⟩)] w fun r w' => r = .returned (.int .i64 (N.one (toM s all) s.words s.pos wForg).2.1) ∧ GoesO mb rb vO vW vS vR vT wv s (N.one (toM s all) s.words s.pos wForg) w w' := by
  have hask := askOwn_any w mb rb vO vB vW vS vR vT wv s all h.run h.own hp
  have hstay : ∀ w', Below w.heap.size w w' → ∀ code, GoesL mb rb vO vW vS vR vT wv s (toM s all) code s.pos w w' := fun w' hb code => GoesL.of_goesN (GoesN.stay h.run h.own hb)
  rw [one_forg]
  unfold asked at hask
  by_cases he : N.nameErr (toM s all) s.words[s.pos + 1]? false = 0
  case neg =>
    have he2 : N.nameErr (⟨all, [], [], [], 0⟩ : N.Mach) s.words[s.pos + 1]? false ≠ 0 := by rw [nameErr_few _ (toM s all)]; exact he
    rw [if_pos he2] at hask
    rw [if_pos he, nameErr_four he]
    exact (rforget_err w rb _ 4 rfl _ (hide hask)).mono fun r w' hh => ⟨hh.1, hstay w' hh.2 _⟩
  case pos =>
    have he2 : ¬ N.nameErr (⟨all, [], [], [], 0⟩ : N.Mach) s.words[s.pos + 1]? false ≠ 0 := by rw [nameErr_few _ (toM s all)]; simpa using he
    rw [if_neg he2] at hask
    rw [if_neg (by simpa using he)]
    generalize (s.words[s.pos + 1]?).getD [] = name at *
    show Calls _ _ _ _ fun r w' => r = .returned (.int .i64 (match N.newestOf all name all.length with
      | none => (toM s all, (2 : Int), s.pos, s.pos + 2)
      | some k => (N.forgets (toM s all) k, (0 : Int), 0, s.pos + 2)).2.1) ∧ GoesO mb rb vO vW vS vR vT wv s (match N.newestOf all name all.length with
      | none => (toM s all, (2 : Int), s.pos, s.pos + 2)
      | some k => (N.forgets (toM s all) k, (0 : Int), 0, s.pos + 2)) w w'
    cases hk : N.newestOf all name all.length with
    | none =>
      rw [hk] at hask
      exact (rforget_err w rb _ 2 rfl _ (hide hask)).mono fun r w' hh => ⟨hh.1, hstay w' hh.2 _⟩
    | some k =>
      rw [hk] at hask
      simp only at hask ⊢
      obtain ⟨hkl, e, hek, _, hth⟩ := newest_lt all _ _ _ hk
      obtain ⟨o, ho2⟩ : ∃ o, wv[k]? = some o := ⟨_, List.getElem?_eq_getElem (by rw [h.own.len]; exact hkl)⟩
      have hv : ownAt wv (some k) = ownVal o := by unfold ownAt; rw [Option.bind_some, ho2]; rfl
      have hent := h.own.ent k e o hek ho2 (there_ended hth)
      rw [hv] at hask
      obtain ⟨T, v, hTv, _⟩ := head_name hent.head
      rw [hTv] at hask
      have hposN : s.pos ≤ 500 := by have := h.run.wl; omega
      refine (rforget_walk w mb rb s.pos T v (fun w' => Below w.heap.size w w') (fun W => GoesN mb rb vO vB vW vS vR vT wv s (N.forgets (toM s all) k) 0 w W) hposN (hide (hask.mono fun r w' hh => ⟨hh.1, ?_, hh.2⟩)) (hide fun W hb => ?_)).mono ?_
      · exact cell_of_block (h.run.below hh.2).r rfl
      · rw [← hTv]
        refine (forget_any W mb rb vO vB vW vS vR vT wv s all k o e (h.below hb) hek ho2 (there_ended hth)).mono fun r w' hh => ?_
        have hcf : w'.cell? ⟨rb, 2, none⟩ = some (.int .i64 (s.pos : Int)) ∧ w'.frozen? ⟨rb, 2, none⟩ = false := by
          obtain ⟨_, _, _, _, s', g1, _, _, _, _, g6, _⟩ := hh.2
          rw [← g6]
          exact ⟨cell_of_block g1.r rfl, frozen_of_block 2 g1.r⟩
        exact ⟨hh.1, hcf.1, hcf.2, GoesN.after hb hh.2⟩
      · rintro r w' ⟨rfl, W, hg, rfl⟩
        exact ⟨rfl, (GoesL.of_goesN hg).step (s.pos + 1) _ (by simp)⟩
end Go.Proofs.YtgnlokmeohffaaaGreatDoor
/- doBold: the walks. (Written by tools/mkbold.py.) -/
namespace Go.Proofs.YtgnlokmeohffaaaGreatDoor
open Go.RowKit
attribute [local go_sem ↓] Go.wp_at_zero Go.wp_at_succ

set_option maxRecDepth 100000 in
set_option maxHeartbeats 800000 in
theorem bold_def (w : World) (rb : Nat) (code : Int) (P : World → Prop) (H : Hid (Calls Tryz.prog 88 #[.pointer (some ⟨rb, 0, none⟩)] w fun r w' => r = .returned (.int .i64 code) ∧ P w')) :
    Calls Tryz.prog 67 #[.pointer (some ⟨rb, 0, none⟩), .string ⟨#[58]⟩] w fun r w' => r = .returned (.int .i64 code) ∧ P w' := by
  go_enter Tryz.func67, Tryz.ntmps67
  go_wp2_with fail
  refine (unhide H).mono ?_
  rintro e w' ⟨rfl, hP⟩
  have HP := hide hP
  clear hP
  go_wp2
  go_ret
  exact ⟨rfl, unhide HP⟩

set_option maxRecDepth 100000 in
set_option maxHeartbeats 800000 in
theorem bold_tok (w : World) (rb : Nat) (code : Int) (P : World → Prop) (H : Hid (Calls Tryz.prog 89 #[.pointer (some ⟨rb, 0, none⟩)] w fun r w' => r = .returned (.int .i64 code) ∧ P w')) :
    Calls Tryz.prog 67 #[.pointer (some ⟨rb, 0, none⟩), .string ⟨#[39]⟩] w fun r w' => r = .returned (.int .i64 code) ∧ P w' := by
  go_enter Tryz.func67, Tryz.ntmps67
  go_wp2_with fail
  refine (unhide H).mono ?_
  rintro e w' ⟨rfl, hP⟩
  have HP := hide hP
  clear hP
  go_wp2
  go_ret
  exact ⟨rfl, unhide HP⟩

set_option maxRecDepth 100000 in
set_option maxHeartbeats 800000 in
theorem bold_var (w : World) (rb : Nat) (code : Int) (P : World → Prop) (H : Hid (Calls Tryz.prog 90 #[.pointer (some ⟨rb, 0, none⟩)] w fun r w' => r = .returned (.int .i64 code) ∧ P w')) :
    Calls Tryz.prog 67 #[.pointer (some ⟨rb, 0, none⟩), .string ⟨#[118, 97, 114, 105, 97, 98, 108, 101]⟩] w fun r w' => r = .returned (.int .i64 code) ∧ P w' := by
  go_enter Tryz.func67, Tryz.ntmps67
  go_wp2_with fail
  refine (unhide H).mono ?_
  rintro e w' ⟨rfl, hP⟩
  have HP := hide hP
  clear hP
  go_wp2
  go_ret
  exact ⟨rfl, unhide HP⟩

set_option maxRecDepth 100000 in
set_option maxHeartbeats 800000 in
theorem bold_con (w : World) (rb : Nat) (code : Int) (P : World → Prop) (H : Hid (Calls Tryz.prog 91 #[.pointer (some ⟨rb, 0, none⟩)] w fun r w' => r = .returned (.int .i64 code) ∧ P w')) :
    Calls Tryz.prog 67 #[.pointer (some ⟨rb, 0, none⟩), .string ⟨#[99, 111, 110, 115, 116, 97, 110, 116]⟩] w fun r w' => r = .returned (.int .i64 code) ∧ P w' := by
  go_enter Tryz.func67, Tryz.ntmps67
  go_wp2_with fail
  refine (unhide H).mono ?_
  rintro e w' ⟨rfl, hP⟩
  have HP := hide hP
  clear hP
  go_wp2
  go_ret
  exact ⟨rfl, unhide HP⟩

set_option maxRecDepth 100000 in
set_option maxHeartbeats 800000 in
theorem bold_mark (w : World) (rb : Nat) (code : Int) (P : World → Prop) (H : Hid (Calls Tryz.prog 92 #[.pointer (some ⟨rb, 0, none⟩)] w fun r w' => r = .returned (.int .i64 code) ∧ P w')) :
    Calls Tryz.prog 67 #[.pointer (some ⟨rb, 0, none⟩), .string ⟨#[109, 97, 114, 107, 101, 114]⟩] w fun r w' => r = .returned (.int .i64 code) ∧ P w' := by
  go_enter Tryz.func67, Tryz.ntmps67
  go_wp2_with fail
  refine (unhide H).mono ?_
  rintro e w' ⟨rfl, hP⟩
  have HP := hide hP
  clear hP
  go_wp2
  go_ret
  exact ⟨rfl, unhide HP⟩

set_option maxRecDepth 100000 in
set_option maxHeartbeats 800000 in
theorem bold_forget (w : World) (rb : Nat) (code : Int) (P : World → Prop) (H : Hid (Calls Tryz.prog 93 #[.pointer (some ⟨rb, 0, none⟩)] w fun r w' => r = .returned (.int .i64 code) ∧ P w')) :
    Calls Tryz.prog 67 #[.pointer (some ⟨rb, 0, none⟩), .string ⟨#[102, 111, 114, 103, 101, 116]⟩] w fun r w' => r = .returned (.int .i64 code) ∧ P w' := by
  go_enter Tryz.func67, Tryz.ntmps67
  go_wp2_with fail
  refine (unhide H).mono ?_
  rintro e w' ⟨rfl, hP⟩
  have HP := hide hP
  clear hP
  go_wp2
  go_ret
  exact ⟨rfl, unhide HP⟩

set_option maxRecDepth 100000 in
set_option maxHeartbeats 800000 in
theorem bold_else (w : World) (rb : Nat) (s : ByteArray) (h1 : (s.toList == [58]) = false) (h2 : (s.toList == [39]) = false) (h3 : (s.toList == [118, 97, 114, 105, 97, 98, 108, 101]) = false) (h4 : (s.toList == [99, 111, 110, 115, 116, 97, 110, 116]) = false) (h5 : (s.toList == [109, 97, 114, 107, 101, 114]) = false) (h6 : (s.toList == [102, 111, 114, 103, 101, 116]) = false) :
    Calls Tryz.prog 67 #[.pointer (some ⟨rb, 0, none⟩), .string s] w fun r w' => r = .returned (.int .i64 3) ∧ w' = w := by
  go_enter Tryz.func67, Tryz.ntmps67
  go_wp2
  go_ret
  exact ⟨rfl, rfl⟩
end Go.Proofs.YtgnlokmeohffaaaGreatDoor
/- fail: a line that stops at a word. -/
namespace Go.Proofs.YtgnlokmeohffaaaGreatDoor
open Go.RowKit
attribute [local go_sem ↓] Go.wp_at_zero Go.wp_at_succ

/-- What was told, as a text. -/
theorem RunAt.told {w : World} {mb rb : Nat} {vO vB vW vS vR vT : Value} {s : L.RunS} (h : RunAt w mb rb vO vB vW vS vR vT s) : (convert 65 9 vT).run Tryz.prog w = .ok (.string ⟨s.out.toArray⟩) w := by
  rcases owns_cases h.ot with ⟨rfl, h0, _⟩ | ⟨g, cap, rfl, _⟩
  · rw [run_convert_bytes_string w 65 9 5 none 0 0 Tryz.underlying65 Tryz.underlying5 Tryz.underlying9, List.length_eq_zero_iff.1 h0]
    rfl
  · refine run_convert_bytes_back w 65 9 5 ⟨g, 0, none⟩ cap s.out Tryz.underlying65 Tryz.underlying5 Tryz.underlying9 fun j hj => ?_
    have := h.ot.cells (g := g) rfl j (byteCell s.out[j]) (by rw [List.getElem?_map, List.getElem?_eq_getElem hj]; rfl)
    exact this

set_option maxRecDepth 100000 in
set_option maxHeartbeats 1600000 in
theorem fail_walk (w : World) (mb rb n capT : Nat) (aT : Option Addr) (pos code : Int) (vS vR : Value) (out : ByteArray) (c0 : w.cell? ⟨rb, 0, none⟩ = some (.pointer (some ⟨mb, 0, none⟩))) (c2 : w.cell? ⟨rb, 2, none⟩ = some (.int .i64 pos)) (c5 : w.cell? ⟨rb, 5, none⟩ = some (.slice aT n capT)) (m0 : w.cell? ⟨mb, 0, none⟩ = some vS) (m1 : w.cell? ⟨mb, 1, none⟩ = some vR) (f0 : w.frozen? ⟨mb, 0, none⟩ = false) (f1 : w.frozen? ⟨mb, 1, none⟩ = false) (hrm : rb ≠ mb)
    (HC : Hid (∀ W : World, (∀ k, k < w.heap.size → k ≠ mb → W.heap[k]? = w.heap[k]?) → (convert 65 9 (.slice aT n capT)).run Tryz.prog W = .ok (.string out) W)) :
    Calls Tryz.prog 46 #[.pointer (some ⟨rb, 0, none⟩), .int .i64 code] w fun r w' => r = .returned (.agg #[.string out, .int .i64 code, .int .i64 pos]) ∧ ∃ W, Below w.heap.size ((w.setCell ⟨mb, 0, none⟩ (.slice none 0 0)).setCell ⟨mb, 1, none⟩ (.slice none 0 0)) W ∧ w' = W := by
  have d0 := cell_alloc c0 (Obj.cells #[Value.string ⟨#[]⟩, Value.int .i64 0, Value.int .i64 0] 36)
  have d2 := cell_alloc c2 (Obj.cells #[Value.string ⟨#[]⟩, Value.int .i64 0, Value.int .i64 0] 36)
  have d5 := cell_alloc c5 (Obj.cells #[Value.string ⟨#[]⟩, Value.int .i64 0, Value.int .i64 0] 36)
  have e0 := cell_alloc m0 (Obj.cells #[Value.string ⟨#[]⟩, Value.int .i64 0, Value.int .i64 0] 36)
  have e1 := cell_alloc m1 (Obj.cells #[Value.string ⟨#[]⟩, Value.int .i64 0, Value.int .i64 0] 36)
  have g0 : (w.alloc (Obj.cells #[Value.string ⟨#[]⟩, Value.int .i64 0, Value.int .i64 0] 36)).frozen? ⟨mb, 0, none⟩ = false := grown_fz (World.grownBy_alloc _ _ none) m0 f0 (by simp)
  have g1 : (w.alloc (Obj.cells #[Value.string ⟨#[]⟩, Value.int .i64 0, Value.int .i64 0] 36)).frozen? ⟨mb, 1, none⟩ = false := grown_fz (World.grownBy_alloc _ _ none) m1 f1 (by simp)
  have hmlt := block_lt m0
  go_enter Tryz.func46, Tryz.ntmps46
  go_wp2
  generalize hW : (w.alloc (Obj.cells #[Value.string ⟨#[]⟩, Value.int .i64 0, Value.int .i64 0] 36)) = w1 at *
  have HW := hide hW
  clear hW c0 c2 c5 m0 m1 f0 f1
  go_region_held3 (fun w' => w'.cell? ⟨rb, 0, none⟩ = some (.pointer (some ⟨mb, 0, none⟩))) (first | exact d0 | exact cell_set_far d0 hrm | exact cell_set_far (cell_set_far d0 hrm) hrm | go_keep) (fail)
  have hsz : w1.heap.size = w.heap.size + 1 := by rw [← unhide HW]; simp
  have hnew : w1.heap[w.heap.size]? = some (Obj.cells #[Value.string ⟨#[]⟩, Value.int .i64 0, Value.int .i64 0] 36) := by rw [← unhide HW]; exact heap_alloc_new w _
  have hbelow : Below w.heap.size w w1 := by rw [← unhide HW]; exact (Below.refl _ _).alloc (Nat.le_refl _) _
  have hoth : ∀ k, k ≠ mb → ((w1.setCell ⟨mb, 0, none⟩ (.slice none 0 0)).setCell ⟨mb, 1, none⟩ (.slice none 0 0)).drew.heap[k]? = w1.heap[k]? := fun k hk => (Below.heap_setCell _ _ _ _ hk).trans (Below.heap_setCell _ _ _ _ hk)
  have a2 : ((w1.setCell ⟨mb, 0, none⟩ (.slice none 0 0)).setCell ⟨mb, 1, none⟩ (.slice none 0 0)).drew.cell? ⟨rb, 2, none⟩ = some (.int .i64 pos) := cell_set_far (cell_set_far d2 hrm) hrm
  have a5 : ((w1.setCell ⟨mb, 0, none⟩ (.slice none 0 0)).setCell ⟨mb, 1, none⟩ (.slice none 0 0)).drew.cell? ⟨rb, 5, none⟩ = some (.slice aT n capT) := cell_set_far (cell_set_far d5 hrm) hrm
  have hmn : w.heap.size ≠ mb := by omega
  have hbn := (hoth w.heap.size hmn).trans hnew
  have hO : ∀ k, k < w.heap.size → k ≠ mb → ((w1.setCell ⟨mb, 0, none⟩ (.slice none 0 0)).setCell ⟨mb, 1, none⟩ (.slice none 0 0)).drew.heap[k]? = w.heap[k]? := fun k hk hne => (hoth k hne).trans (hbelow.block k hk)
  have hfin : Below w.heap.size ((w.setCell ⟨mb, 0, none⟩ (.slice none 0 0)).setCell ⟨mb, 1, none⟩ (.slice none 0 0)) ((w1.setCell ⟨mb, 0, none⟩ (.slice none 0 0)).setCell ⟨mb, 1, none⟩ (.slice none 0 0)).drew := by
    refine ⟨hbelow.os, hbelow.tape, hbelow.output, by simp [World.setCell]; omega, fun k hk => ?_⟩
    by_cases hkm : k = mb
    · subst hkm
      obtain ⟨cs, ty, fr, hb⟩ : ∃ cs ty fr, w1.heap[k]? = some (.cells cs ty fr) := by
        cases hh : w1.heap[k]? with
        | none => simp [World.cell?, hh] at e0
        | some o =>
          cases o with
          | cells cs ty fr => exact ⟨cs, ty, fr, rfl⟩
          | _ => simp [World.cell?, hh] at e0
      have hb2 := (hbelow.block k hk).symm.trans hb
      exact (set_block (set_block hb 0 _) 1 _).trans (set_block (set_block hb2 0 _) 1 _).symm
    · exact (hoth k hkm).trans ((hbelow.block k hk).trans ((Below.heap_setCell _ _ _ _ hkm).trans (Below.heap_setCell _ _ _ _ hkm)).symm)
  have Hfin := hide hfin
  have hrn : rb ≠ w.heap.size := fun e => by
    have hx : w1.cell? ⟨rb, 5, none⟩ = none := by rw [e, cell_of_row w1 w.heap.size 5 _ _ _ hnew]; rfl
    rw [hx] at d5
    cases d5
  generalize ((w1.setCell ⟨mb, 0, none⟩ (.slice none 0 0)).setCell ⟨mb, 1, none⟩ (.slice none 0 0)).drew = w2 at *
  have b0 : w2.cell? ⟨w.heap.size, 0, none⟩ = some (.string ⟨#[]⟩) := cell_of_block hbn rfl
  have b1 : w2.cell? ⟨w.heap.size, 1, none⟩ = some (.int .i64 0) := cell_of_block hbn rfl
  have b2 : w2.cell? ⟨w.heap.size, 2, none⟩ = some (.int .i64 0) := cell_of_block hbn rfl
  have y0 : w2.frozen? ⟨w.heap.size, 0, none⟩ = false := frozen_of_block 0 hbn
  have y1 : w2.frozen? ⟨w.heap.size, 1, none⟩ = false := frozen_of_block 1 hbn
  have y2 : w2.frozen? ⟨w.heap.size, 2, none⟩ = false := frozen_of_block 2 hbn
  have HO := hide hO
  clear hO hfin hbn hoth hbelow hnew e0 e1 g0 g1 d0 d2 d5 hsz
  go_wp2
  go_region_held3 (fun w' => w'.cell? ⟨rb, 2, none⟩ = some (.int .i64 pos) ∧ w'.cell? ⟨rb, 5, none⟩ = some (.slice aT n capT) ∧ (convert 65 9 (.slice aT n capT)).run Tryz.prog w' = .ok (.string out) w')
    (first
      | exact ⟨a2, a5, unhide HC _ (unhide HO)⟩
      | exact (by assumption)
      | exact ⟨cell_set_far (cell_set_far (cell_set_far a2 hrn) hrn) hrn, cell_set_far (cell_set_far (cell_set_far a5 hrn) hrn) hrn, unhide HC _ fun k hk hne => (Below.heap_setCell _ _ _ _ (show k ≠ w.heap.size by omega)).trans ((Below.heap_setCell _ _ _ _ (show k ≠ w.heap.size by omega)).trans ((Below.heap_setCell _ _ _ _ (show k ≠ w.heap.size by omega)).trans (unhide HO k hk hne)))⟩) (fail)
  go_wp2
  refine bodyPost_ret (v := .agg #[.string out, .int .i64 code, .int .i64 pos]) (by simp [results, Tryz.results46, go_sem, b0, b1, b2]) rfl ⟨rfl, _, ?_, rfl⟩
  exact ((((unhide Hfin).setCell (Nat.le_refl _) _).setCell (Nat.le_refl _) _).setCell (Nat.le_refl _) _).drew
end Go.Proofs.YtgnlokmeohffaaaGreatDoor
/- fail, at whatever run. -/
namespace Go.Proofs.YtgnlokmeohffaaaGreatDoor
open Go.RowKit

theorem fail_any (w : World) (mb rb : Nat) (vO vB vW vS vR vT : Value) (s : L.RunS) (code : Int) (hr : RunAt w mb rb vO vB vW vS vR vT s) :
    Calls Tryz.prog 46 #[.pointer (some ⟨rb, 0, none⟩), .int .i64 code] w fun r w' => r = .returned (.agg #[.string ⟨s.out.toArray⟩, .int .i64 code, .int .i64 (s.pos : Int)]) ∧
      RunAt w' mb rb vO vB vW (.slice none 0 0) (.slice none 0 0) vT { s with S := [], R := [] } ∧ Mv (fun k => k = mb) w w' := by
  obtain ⟨aT, capT, rfl, _, _⟩ := owns_slice hr.ot
  have hrm := ne_of_type hr.r hr.m (by decide)
  refine (fail_walk w mb rb s.out.length capT aT (s.pos : Int) code vS vR ⟨s.out.toArray⟩ (cell_of_block hr.r rfl) (cell_of_block hr.r rfl) (cell_of_block hr.r rfl) (cell_of_block hr.m rfl) (cell_of_block hr.m rfl) (frozen_of_block 0 hr.m) (frozen_of_block 1 hr.m) hrm (hide fun W hW => ?_)).mono ?_
  · rcases owns_cases hr.ot with ⟨h1, h0, _⟩ | ⟨g, cap, h1, _⟩
    · rw [h1, run_convert_bytes_string W 65 9 5 none 0 0 Tryz.underlying65 Tryz.underlying5 Tryz.underlying9, List.length_eq_zero_iff.1 h0]
      rfl
    · rw [h1] at hr
      rw [h1]
      refine run_convert_bytes_back W 65 9 5 ⟨g, 0, none⟩ cap s.out Tryz.underlying65 Tryz.underlying5 Tryz.underlying9 fun j hj => ?_
      have hg : W.heap[g]? = w.heap[g]? := hW g (hr.ot.lt g rfl).2 fun e => own_ne_of_type hr.ot hr.m (by decide) (by rw [e]; rfl)
      have := hr.ot.cells (g := g) rfl j (byteCell s.out[j]) (by rw [List.getElem?_map, List.getElem?_eq_getElem hj]; rfl)
      rw [add_lit] at this ⊢
      rw [World.cell?_of_block (w := w) hg]
      exact this
  · rintro r w' ⟨rfl, W, hb, rfl⟩
    have hset := set_block (set_block hr.m 0 (.slice none 0 0)) 1 (.slice none 0 0)
    have hsz : ((w.setCell ⟨mb, 0, none⟩ (.slice none 0 0)).setCell ⟨mb, 1, none⟩ (.slice none 0 0)).heap.size = w.heap.size := by simp [World.setCell]
    have hoth : ∀ k, k ≠ mb → ((w.setCell ⟨mb, 0, none⟩ (.slice none 0 0)).setCell ⟨mb, 1, none⟩ (.slice none 0 0)).heap[k]? = w.heap[k]? := fun k hk => (Below.heap_setCell _ _ _ _ hk).trans (Below.heap_setCell _ _ _ _ hk)
    have hm1 : Mv (fun k => k = mb) w ((w.setCell ⟨mb, 0, none⟩ (.slice none 0 0)).setCell ⟨mb, 1, none⟩ (.slice none 0 0)) := (Mv.setCell (T := fun k => k = mb) (Mv.refl _ _) (.inl rfl) _).setCell (.inl rfl) _
    have hr1 : RunAt ((w.setCell ⟨mb, 0, none⟩ (.slice none 0 0)).setCell ⟨mb, 1, none⟩ (.slice none 0 0)) mb rb vO vB vW (.slice none 0 0) (.slice none 0 0) (.slice aT s.out.length capT) { s with S := [], R := [] } := by
      refine ⟨hset, (hoth rb hrm).trans hr.r, World.ownsRow_nil _ _ _ _, World.ownsRow_nil _ _ _ _, ?_, ?_, fun k h1 _ => by simp [Value.ownBlock] at h1, Nat.zero_le _, Nat.zero_le _, hr.ol, hr.wl, fun x hx => by simp at hx, fun x hx => by simp at hx⟩
      · exact owns_kept hr.ot fun j e => hoth j fun x => own_ne_of_type hr.ot hr.m (by decide) (x ▸ e)
      · exact owns_kept hr.wd fun j e => hoth j fun x => own_ne_of_type hr.wd hr.m (by decide) (x ▸ e)
    refine ⟨rfl, hr1.below (by rw [hsz]; exact hb), hm1.trans (Fresh.refl _ _) (Mv.of_below (by rw [hsz]; exact hb) _)⟩
end Go.Proofs.YtgnlokmeohffaaaGreatDoor
/- do of what a word of the line means: what the document's machine does with it. -/
namespace Go.Proofs.YtgnlokmeohffaaaGreatDoor
open Go.RowKit

/-- Where the making of words begins: none of these. -/
theorem one_rest (m : N.Mach) (ws : List N.Txt) (p : Nat) (l : N.Txt) (h1 : l ≠ wDef) (h2 : l ≠ wTok) (h3 : l ≠ wVar) (h4 : l ≠ wCon) (h5 : l ≠ wMark) (h6 : l ≠ wForg) : N.one m ws p l =
    if L.isBold l then (m, 3, p, p + 1)
    else match N.meaning m l with
      | none => (m, 2, p, p + 1)
      | some c => ((N.cellDoes N.fuel m 0 c).1, (N.cellDoes N.fuel m 0 c).2, p, p + 1) := by
  have b1 : (l == [58]) = false := beq_eq_false_iff_ne.2 h1
  have b2 : (l == [39]) = false := beq_eq_false_iff_ne.2 h2
  have b3 : (l == [118, 97, 114, 105, 97, 98, 108, 101]) = false := beq_eq_false_iff_ne.2 h3
  have b4 : (l == [99, 111, 110, 115, 116, 97, 110, 116]) = false := beq_eq_false_iff_ne.2 h4
  have b5 : (l == [109, 97, 114, 107, 101, 114]) = false := beq_eq_false_iff_ne.2 h5
  have b6 : (l == [102, 111, 114, 103, 101, 116]) = false := beq_eq_false_iff_ne.2 h6
  unfold N.one
  simp only [b1, b2, b3, b4, b5, b6, Bool.or_self, Bool.false_eq_true, if_false]
  congr 1
  cases N.meaning m l with
  | none => rfl
  | some c =>
    simp only
    unfold N.cellDoes
    by_cases k1 : c.kind = 1
    · simp only [if_pos k1]
    · by_cases k2 : c.kind = 2
      · simp only [if_neg k1, if_pos k2]
      · simp only [if_neg k1, if_neg k2]
        cases (N.prim m c.name).2.2 <;> rfl

theorem one_any (w : World) (mb rb : Nat) (vO vB vW vS vR vT : Value) (wv : List Own) (s : L.RunS) (all : List N.Ent) (l : N.Txt) (h : Ready w mb rb vO vB vW vS vR vT wv s all) (hl : s.words[s.pos]? = some l) (hw : WordsOk s) (hold : all.length + 1 ≤ 1000000000000) (hd : s.depth = 0) :
    Calls Tryz.prog 52 #[.pointer (some ⟨rb, 0, none⟩), meansVal all wv l] w fun r w' => r = .returned (.int .i64 (N.one (toM s all) s.words s.pos l).2.1) ∧ GoesO mb rb vO vW vS vR vT wv s (N.one (toM s all) s.words s.pos l) w w' := by
  have hp := (List.getElem?_eq_some_iff.1 hl).1
  have bold : L.isBold l = true → meansVal all wv l = .iface 134 (.string ⟨l.toArray⟩) := fun hb => if_pos hb
  by_cases h1 : l = wDef
  · rw [bold (by rw [h1]; decide), h1]
    exact do_bold w rb _ _ _ (hide (bold_def w rb _ _ (hide (define_any w mb rb vO vB vW vS vR vT wv s all h hp hw hold))))
  by_cases h2 : l = wTok
  · rw [bold (by rw [h2]; decide), h2]
    exact do_bold w rb _ _ _ (hide (bold_tok w rb _ _ (hide (layToken_any w mb rb vO vB vW vS vR vT wv s all h hp))))
  by_cases h3 : l = wVar
  · rw [bold (by rw [h3]; decide), h3]
    exact do_bold w rb _ _ _ (hide (bold_var w rb _ _ (hide (makeVar_any w mb rb vO vB vW vS vR vT wv s all h hp hw hold))))
  by_cases h4 : l = wCon
  · rw [bold (by rw [h4]; decide), h4]
    exact do_bold w rb _ _ _ (hide (bold_con w rb _ _ (hide (makeCon_any w mb rb vO vB vW vS vR vT wv s all h hp hw hold))))
  by_cases h5 : l = wMark
  · rw [bold (by rw [h5]; decide), h5]
    exact do_bold w rb _ _ _ (hide (bold_mark w rb _ _ (hide (makeMark_any w mb rb vO vB vW vS vR vT wv s all h hp hw hold))))
  by_cases h6 : l = wForg
  · rw [bold (by rw [h6]; decide), h6]
    exact do_bold w rb _ _ _ (hide (bold_forget w rb _ _ (hide (rforget_any w mb rb vO vB vW vS vR vT wv s all h hp))))
  rw [one_rest (toM s all) s.words s.pos l h1 h2 h3 h4 h5 h6]
  have hstay : ∀ w', Below w.heap.size w w' → ∀ code, GoesL mb rb vO vW vS vR vT wv s (toM s all) code s.pos w w' := fun w' hb code => GoesL.of_goesN (GoesN.stay h.run h.own hb)
  cases hb : L.isBold l with
  | true =>
    rw [bold hb, if_pos rfl]
    have hl2 : (⟨l.toArray⟩ : ByteArray).toList = l := by rw [Go.ByteArray.toList_eq]
    refine do_bold w rb _ _ _ (hide ((bold_else w rb ⟨l.toArray⟩ ?_ ?_ ?_ ?_ ?_ ?_).mono fun r w' hh => ⟨hh.1, ?_⟩))
    · rw [hl2]; exact beq_eq_false_iff_ne.2 h1
    · rw [hl2]; exact beq_eq_false_iff_ne.2 h2
    · rw [hl2]; exact beq_eq_false_iff_ne.2 h3
    · rw [hl2]; exact beq_eq_false_iff_ne.2 h4
    · rw [hl2]; exact beq_eq_false_iff_ne.2 h5
    · rw [hl2]; exact beq_eq_false_iff_ne.2 h6
    · rw [hh.2]
      exact hstay w (Below.refl _ _) _
  | false =>
    rw [if_neg (by simp)]
    have hmc := means_cell h.own (toM s all) rfl l hb
    cases hme : N.meaning (toM s all) l with
    | none =>
      rw [hme] at hmc
      simp only at hmc ⊢
      rw [hmc]
      exact (do_nil w rb).mono fun r w' hh => ⟨hh.1, by rw [hh.2]; exact hstay w (Below.refl _ _) _⟩
    | some c =>
      rw [hme] at hmc
      simp only at hmc ⊢
      obtain ⟨e1, hk, hc⟩ := hmc
      rw [e1]
      have := cell_any (doesOwn_all mb rb vB vW wv N.fuel) w vO vS vR vT s all h (by unfold N.fuel; omega) _ c 0 hc hk
      rw [hd] at this
      refine this.mono fun r w' hh => ⟨hh.1, ?_⟩
      unfold GoesO spot
      simp only
      have hsp : (if (N.cellDoes N.fuel (toM s all) 0 c).2 = 0 then s.pos + 1 - 1 else s.pos) = s.pos := by
        split <;> omega
      rw [hsp]
      exact GoesL.of_goesN hh.2
end Go.Proofs.YtgnlokmeohffaaaGreatDoor
/- step, at whatever run: over its walk (StepLaw: W1). -/
namespace Go.Proofs.YtgnlokmeohffaaaGreatDoor
open Go.RowKit

/-- What the walk of step says. -/
def StepLaw : Prop := ∀ (w : World) (rb mb gW nW capW pos : Nat) (txt : ByteArray) (V : Value) (code : Int) (P : World → World → Prop) (Q : World → Prop), pos < nW →
    Hid (Calls Tryz.prog 51 #[.pointer (some ⟨rb, 0, none⟩)] w fun r w' => r = .returned (.int .i64 0) ∧
      (w'.cell? ⟨rb, 0, none⟩ = some (.pointer (some ⟨mb, 0, none⟩)) ∧ w'.cell? ⟨rb, 1, none⟩ = some (.slice (some ⟨gW, 0, none⟩) nW capW) ∧ w'.cell? ⟨rb, 2, none⟩ = some (.int .i64 pos) ∧ w'.cell? ⟨gW, pos, none⟩ = some (.string txt)) ∧ Q w') →
    Hid (∀ w1 W, Q w1 → Below w1.heap.size w1 W → Calls Tryz.prog 53 #[.pointer (some ⟨mb, 0, none⟩), .string txt] W fun r w' => r = .returned V ∧ Below W.heap.size W w') →
    Hid (∀ w1 W, Q w1 → Below w1.heap.size w1 W → Calls Tryz.prog 52 #[.pointer (some ⟨rb, 0, none⟩), V] W fun r w' => r = .returned (.int .i64 code) ∧ P w1 w') →
    Calls Tryz.prog 45 #[.pointer (some ⟨rb, 0, none⟩)] w fun r w' => r = .returned (.int .i64 code) ∧ ∃ w1, Q w1 ∧ P w1 w'
/-- And where the steps are used up. -/
def StopLaw : Prop := ∀ (w : World) (rb : Nat) (code : Int), (code != 0) = true → ∀ P : World → Prop,
    Hid (Calls Tryz.prog 51 #[.pointer (some ⟨rb, 0, none⟩)] w fun r w' => r = .returned (.int .i64 code) ∧ P w') →
    Calls Tryz.prog 45 #[.pointer (some ⟨rb, 0, none⟩)] w fun r w' => r = .returned (.int .i64 code) ∧ P w'

/-- A word of the line, its step counted. -/
def stepOne (m : N.Mach) (ws : List N.Txt) (p : Nat) (l : N.Txt) : N.Mach × Int × Nat × Nat := if 1000 ≤ m.steps then ({ m with steps := m.steps + 1 }, 14, p, p + 1) else N.one { m with steps := m.steps + 1 } ws p l

theorem step_any (hS : StepLaw) (hT : StopLaw) (w : World) (mb rb : Nat) (vO vB vW vS vR vT : Value) (wv : List Own) (s : L.RunS) (all : List N.Ent) (l : N.Txt) (h : Ready w mb rb vO vB vW vS vR vT wv s all) (hl : s.words[s.pos]? = some l) (hw : WordsOk s) (hold : all.length + 1 ≤ 1000000000000) (hd : s.depth = 0) :
    Calls Tryz.prog 45 #[.pointer (some ⟨rb, 0, none⟩)] w fun r w' => r = .returned (.int .i64 (stepOne (toM s all) s.words s.pos l).2.1) ∧ GoesO mb rb vO vW vS vR vT wv s (stepOne (toM s all) s.words s.pos l) w w' := by
  have hcnt := countStep_any w mb rb vO vB vW vS vR vT s h.run h.st
  have hp := (List.getElem?_eq_some_iff.1 hl).1
  unfold stepOne
  by_cases hs : 1000 ≤ s.steps
  · have hs2 : 1000 ≤ (toM s all).steps := hs
    rw [if_pos hs2]
    have hst := h.st
    rw [show L.countStep s = (s, 14) from if_pos (by omega)] at hcnt
    refine hT w rb 14 rfl _ (hide (hcnt.mono fun r w' hh => ⟨hh.1, ?_⟩))
    exact ⟨vO, vB, vS, vR, vT, wv, s, hh.2.1, h.own.mv h.run hh.2.2, hh.2.2.weaken fun k hk => .inl hk, Fresh.refl _ _, rfl, rfl, rfl, rfl, fun e => by cases e⟩
  · have hs2 : ¬ 1000 ≤ (toM s all).steps := hs
    rw [if_neg hs2]
    rw [show L.countStep s = ({ s with steps := s.steps + 1 }, 0) from if_neg (by omega)] at hcnt
    rcases owns_cases h.run.wd with ⟨_, h0, _⟩ | ⟨gW, capW, rfl, _⟩
    · omega
    refine (hS w rb mb gW s.words.length capW s.pos ⟨l.toArray⟩ (meansVal all wv l) (N.one (toM { s with steps := s.steps + 1 } all) s.words s.pos l).2.1 (fun w1 w' => GoesO mb rb vO (.slice (some ⟨gW, 0, none⟩) s.words.length capW) vS vR vT wv { s with steps := s.steps + 1 } (N.one (toM { s with steps := s.steps + 1 } all) s.words s.pos l) w1 w')
      (fun w1 => Ready w1 mb rb vO vB (.slice (some ⟨gW, 0, none⟩) s.words.length capW) vS vR vT wv { s with steps := s.steps + 1 } all ∧ Mv (Foot mb rb vS vR vT) w w1) hp (hide (hcnt.mono fun r w' hh => ⟨hh.1, ?_, ?_⟩)) (hide fun w1 W hQ hb => ?_) (hide fun w1 W hQ hb => ?_)).mono ?_
    · refine ⟨cell_of_block hh.2.1.r rfl, cell_of_block hh.2.1.r rfl, cell_of_block hh.2.1.r rfl, ?_⟩
      have := hh.2.1.wd.cells (g := gW) rfl s.pos (wordCell l) (by rw [List.getElem?_map, hl]; rfl)
      rwa [add_lit, Nat.zero_add] at this
    · refine ⟨⟨hh.2.1, h.own.mv h.run hh.2.2, tabIs_of_block h.tab (hh.2.2.block _ (tab_lt h.tab) fun x => h.nof (.inl x)), h.nof, ?_, h.dp⟩, hh.2.2⟩
      show s.steps + 1 ≤ 1000
      omega
    · have hm := (hQ.1.run.below hb).m
      have := meaning_any W mb ⟨l.toArray⟩ all wv vO vB (cell_of_block hm rfl) (hQ.1.own.below hb)
      simpa using this
    · refine (one_any W mb rb vO vB _ vS vR vT wv { s with steps := s.steps + 1 } all l (hQ.1.below hb) hl hw hold hd).mono fun r w' hh => ⟨hh.1, GoesL.after hb hh.2⟩
    · rintro r w' ⟨rfl, w1, ⟨_, hm1⟩, vO', vB', v1, v2, v3, wv', s', g1, g2, g3, g4, g5⟩
      have hm1 : Mv (FootN mb rb vO vS vR vT wv) w w1 := hm1.weaken fun k hk => .inl hk
      exact ⟨rfl, vO', vB', v1, v2, v3, wv', s', g1, g2, hm1.trans (Fresh.refl _ _) g3, (Fresh.refl _ _).trans hm1.size g4, g5⟩
end Go.Proofs.YtgnlokmeohffaaaGreatDoor
/- all: the walk. -/
namespace Go.Proofs.YtgnlokmeohffaaaGreatDoor
open Go.RowKit
attribute [local go_sem ↓] Go.wp_at_zero Go.wp_at_succ

/-- What is known at the head of all's loop; ab: the answer's block. -/
def HeadA (rb ab n capW : Nat) (aW : Option Addr) (Inv : World → Prop) (mu : World → Nat) (Post : Value → World → Prop) (wr : World) : Prop :=
  ∃ (p : Nat) (aT : Option Addr) (nT cT : Nat) (out : ByteArray), p ≤ n + 1 ∧ wr.cell? ⟨rb, 1, none⟩ = some (.slice aW n capW) ∧ wr.cell? ⟨rb, 2, none⟩ = some (.int .i64 p) ∧ wr.cell? ⟨rb, 5, none⟩ = some (.slice aT nT cT) ∧ wr.heap[ab]? = some (Obj.cells #[Value.string ⟨#[]⟩, Value.int .i64 0, Value.int .i64 0] 36) ∧
    ((¬ p < n ∧ (convert 65 9 (.slice aT nT cT)).run Tryz.prog wr.drew = .ok (.string out) wr.drew ∧ ∀ W, Mv (fun k => k = ab) wr W → Post (.agg #[.string out, .int .i64 0, .int .i64 0]) W) ∨
     (p < n ∧ Calls Tryz.prog 45 #[.pointer (some ⟨rb, 0, none⟩)] wr.drew fun r w' => ∃ code, r = .returned (.int .i64 code) ∧
       ((code ≠ 0 ∧ Calls Tryz.prog 46 #[.pointer (some ⟨rb, 0, none⟩), .int .i64 code] w' fun r w2 => ∃ (o : ByteArray) (q : Int), r = .returned (.agg #[.string o, .int .i64 code, .int .i64 q]) ∧ w2.heap[ab]? = some (Obj.cells #[Value.string ⟨#[]⟩, Value.int .i64 0, Value.int .i64 0] 36) ∧ ∀ W, Mv (fun k => k = ab) w2 W → Post (.agg #[.string o, .int .i64 code, .int .i64 q]) W) ∨
        (code = 0 ∧ ∃ q : Nat, q ≤ n ∧ w'.cell? ⟨rb, 2, none⟩ = some (.int .i64 q) ∧ w'.frozen? ⟨rb, 2, none⟩ = false ∧ Inv (w'.setCell ⟨rb, 2, none⟩ (.int .i64 ((q : Int) + 1))) ∧ mu (w'.setCell ⟨rb, 2, none⟩ (.int .i64 ((q : Int) + 1))) < mu wr))))

set_option maxRecDepth 100000 in
set_option maxHeartbeats 3200000 in
theorem all_walk (w : World) (rb n capW : Nat) (aW : Option Addr) (Inv : World → Prop) (mu : World → Nat) (Post : Value → World → Prop) (hn : n ≤ 500)
    (h0 : Inv (w.alloc (Obj.cells #[Value.string ⟨#[]⟩, Value.int .i64 0, Value.int .i64 0] 36)))
    (HI : Hid (∀ wr, Inv wr → HeadA rb w.heap.size n capW aW Inv mu Post wr)) :
    Calls Tryz.prog 27 #[.pointer (some ⟨rb, 0, none⟩)] w fun r w' => ∃ v, r = .returned v ∧ Post v w' := by
  have H0 := hide h0
  clear h0
  go_enter Tryz.func27, Tryz.ntmps27
  go_wp2
  go_loopw [3] (fun _ wr => Inv wr) (fun _ wr => mu wr)
  case atStart => exact unhide H0
  case round =>
    obtain ⟨p, aT, nT, cT, out, hpn, c1, c2, c5, hab, hcase⟩ := unhide HI _ hrel
    clear hrel
    rcases hcase with ⟨hge, hcv, hP⟩ | ⟨hlt, hcall⟩
    · have HP := hide hP
      have k1 : ¬ ((p : Int) < (n : Int)) := by omega
      have b0 : wr.cell? ⟨w.heap.size, 0, none⟩ = some (.string ⟨#[]⟩) := cell_of_block hab rfl
      have b1 : wr.cell? ⟨w.heap.size, 1, none⟩ = some (.int .i64 0) := cell_of_block hab rfl
      have b2 : wr.cell? ⟨w.heap.size, 2, none⟩ = some (.int .i64 0) := cell_of_block hab rfl
      have g0 : wr.frozen? ⟨w.heap.size, 0, none⟩ = false := frozen_of_block 0 hab
      have g1 : wr.frozen? ⟨w.heap.size, 1, none⟩ = false := frozen_of_block 1 hab
      have g2 : wr.frozen? ⟨w.heap.size, 2, none⟩ = false := frozen_of_block 2 hab
      clear hge hP hab
      go_wp2
      go_region_held3 (fun w' => w'.cell? ⟨rb, 1, none⟩ = some (.slice aW n capW) ∧ w'.cell? ⟨rb, 2, none⟩ = some (.int .i64 p)) (first | exact ⟨c1, c2⟩ | go_keep) (fail)
      go_wp2
      refine bodyPost_ret (v := .agg #[.string out, .int .i64 0, .int .i64 0]) (by simp [results, Tryz.results27, go_sem, b0, b1, b2]) rfl ⟨_, rfl, unhide HP _ ?_⟩
      exact (((Mv.setCell (T := fun k => k = w.heap.size) (Mv.refl _ _) (.inl rfl) _).setCell (.inl rfl) _).setCell (.inl rfl) _).drew
    · have HC := hide hcall
      have k1 : (p : Int) < (n : Int) := by omega
      clear hlt hcall hab
      go_wp2
      go_region_held3 (fun w' => w'.cell? ⟨rb, 1, none⟩ = some (.slice aW n capW) ∧ w'.cell? ⟨rb, 2, none⟩ = some (.int .i64 p)) (first | exact ⟨c1, c2⟩ | go_keep) (fail)
      go_wp2_with fail
      refine (unhide HC).mono ?_
      rintro e w2 ⟨code, rfl, hh⟩
      rcases hh with ⟨hc, hF⟩ | ⟨rfl, q, hqn, x2, y2, hI, hmu⟩
      · have hcb : (code != 0) = true := by rw [bne_iff_ne]; exact hc
        have HF := hide hF
        clear hc hF
        go_wp2_with fail
        refine (unhide HF).mono ?_
        rintro e w3 ⟨o, q, rfl, hab, hP⟩
        have HP := hide hP
        have b0 : w3.cell? ⟨w.heap.size, 0, none⟩ = some (.string ⟨#[]⟩) := cell_of_block hab rfl
        have b1 : w3.cell? ⟨w.heap.size, 1, none⟩ = some (.int .i64 0) := cell_of_block hab rfl
        have b2 : w3.cell? ⟨w.heap.size, 2, none⟩ = some (.int .i64 0) := cell_of_block hab rfl
        have g0 : w3.frozen? ⟨w.heap.size, 0, none⟩ = false := frozen_of_block 0 hab
        have g1 : w3.frozen? ⟨w.heap.size, 1, none⟩ = false := frozen_of_block 1 hab
        have g2 : w3.frozen? ⟨w.heap.size, 2, none⟩ = false := frozen_of_block 2 hab
        clear hP hab
        go_wp2
        refine bodyPost_ret (v := .agg #[.string o, .int .i64 code, .int .i64 q]) (by simp [results, Tryz.results27, go_sem, b0, b1, b2]) rfl ⟨_, rfl, unhide HP _ ?_⟩
        exact ((Mv.setCell (T := fun k => k = w.heap.size) (Mv.refl _ _) (.inl rfl) _).setCell (.inl rfl) _).setCell (.inl rfl) _
      · have HI2 := hide (And.intro hI hmu)
        have k3 : IntKind.i64.wrap ((q : Int) + 1) = (q : Int) + 1 := by rw [IntKind.wrap_i64]; omega
        clear hI hmu
        go_wp2
        exact unhide HI2
end Go.Proofs.YtgnlokmeohffaaaGreatDoor
