/- Parts of the proof: see the last text. -/
import Derived.Test.YtgnlokmeohffaaaGreatDoorB9
/- readWord, at whatever run and whatever body that is read. -/
namespace Go.Proofs.YtgnlokmeohffaaaGreatDoor
open Go.RowKit

/-- A definition is being read, from the world w0 on; p: the word of the line that is read. -/
structure Reading (w0 w : World) (mb rb : Nat) (vW vT : Value) (s : L.RunS) (p : Nat) : Prop where
  mv : Mv (fun k => k = rb) w0 w
  r : w.heap[rb]? = some (.cells #[.pointer (some ⟨mb, 0, none⟩), vW, .int .i64 (p : Int), .int .i64 s.steps, .int .i64 s.depth, vT] 67)

theorem Reading.run {w0 w : World} {mb rb : Nat} {vO vB vW vS vR vT : Value} {s : L.RunS} {p : Nat} (hr : RunAt w0 mb rb vO vB vW vS vR vT s) (h : Reading w0 w mb rb vW vT s p) : RunAt w mb rb vO vB vW vS vR vT { s with pos := p } := by
  have hk : ∀ k, (Foot mb rb vS vR vT k ∨ vW.ownBlock = some k) → k ≠ rb → w.heap[k]? = w0.heap[k]? := fun k hk hne => h.mv.block k (hr.lt k hk) hne
  refine ⟨(hk mb (.inl (.inl rfl)) (ne_of_type hr.m hr.r (by decide))).trans hr.m, h.r, ?_, ?_, ?_, ?_, hr.ap, hr.sl, hr.rl, hr.ol, hr.wl, hr.si, hr.ri⟩
  · exact owns_kept hr.st fun k e => hk k (.inl (.inr (.inr (.inl e)))) fun x => own_ne_of_type hr.st hr.r (by decide) (x ▸ e)
  · exact owns_kept hr.asd fun k e => hk k (.inl (.inr (.inr (.inr (.inl e))))) fun x => own_ne_of_type hr.asd hr.r (by decide) (x ▸ e)
  · exact owns_kept hr.ot fun k e => hk k (.inl (.inr (.inr (.inr (.inr e))))) fun x => own_ne_of_type hr.ot hr.r (by decide) (x ▸ e)
  · exact owns_kept hr.wd fun k e => hk k (.inr e) fun x => own_ne_of_type hr.wd hr.r (by decide) (x ▸ e)
theorem Reading.own {w0 w : World} {mb rb : Nat} {vO vB vW vS vR vT : Value} {wv : List Own} {s : L.RunS} {all : List N.Ent} {p : Nat} (hr : RunAt w0 mb rb vO vB vW vS vR vT s) (ho : OwnAt w0 all wv vO vB) (h : Reading w0 w mb rb vW vT s p) : OwnAt w all wv vO vB :=
  ho.kept fun k hk => h.mv.block k (oblock_lt hk) fun e => foot_not_own hr hk (.inr (.inl e))
theorem Reading.below {w0 w w' : World} {mb rb : Nat} {vW vT : Value} {s : L.RunS} {p : Nat} (h : Reading w0 w mb rb vW vT s p) (hrb : rb < w0.heap.size) (hb : Below w0.heap.size w w') : Reading w0 w' mb rb vW vT s p :=
  ⟨⟨hb.os.trans h.mv.os, hb.tape.trans h.mv.tape, hb.output.trans h.mv.output, Nat.le_trans h.mv.size hb.size, fun k hk hn => (hb.block k hk).trans (h.mv.block k hk hn)⟩, (hb.block rb hrb).trans h.r⟩
theorem Reading.step {w0 w : World} {mb rb : Nat} {vW vT : Value} {s : L.RunS} {p : Nat} (h : Reading w0 w mb rb vW vT s p) (q : Nat) (u : Value) (hu : u = .int .i64 (q : Int)) : Reading w0 (w.setCell ⟨rb, 2, none⟩ u) mb rb vW vT s q := by
  subst hu
  exact ⟨h.mv.setCell (.inl rfl) _, set_block h.r 2 _⟩

theorem word_small {w : World} {mb rb : Nat} {vO vB vW vS vR vT : Value} {s : L.RunS} (_ : RunAt w mb rb vO vB vW vS vR vT s) (t : List UInt8) (h : t.length ≤ 1000) : (⟨t.toArray⟩ : ByteArray).size ≤ 1000 := by
  simpa [ByteArray.size] using h

set_option maxRecDepth 100000 in
set_option maxHeartbeats 800000 in
theorem readWord_any (w0 w : World) (mb rb dd : Nat) (vO vB vW vS vR vT vD vP : Value) (pv : List Value) (wv : List Own) (s : L.RunS) (all : List N.Ent) (m : N.Mach) (hm : m.all = all) (p : Nat) (t : List UInt8) (d : N.Draft)
    (hr : RunAt w0 mb rb vO vB vW vS vR vT s) (ho : OwnAt w0 all wv vO vB) (hrd : Reading w0 w mb rb vW vT s p) (hd : DraftAt w0.heap.size w dd vD vP pv wv d) (hf : N.Fine d) (hbk : N.Bulk d) (hp : s.words[p]? = some t) (ht : t.length ≤ 1000) :
    Calls Tryz.prog 125 #[.pointer (some ⟨rb, 0, none⟩), .pointer (some ⟨dd, 0, none⟩)] w fun r w' => r = .returned (.int .i64 (readOne m s.words p d t).1) ∧ Reading w0 w' mb rb vW vT s (readOne m s.words p d t).2.2 ∧
      ((readOne m s.words p d t).1 = 0 → ∃ vD' vP' pv', DraftAt w0.heap.size w' dd vD' vP' pv' wv (readOne m s.words p d t).2.1) := by
  have hrb := heap_lt hr.r
  have hsz := hrd.mv.size
  have hrun := hrd.run hr
  have hown := hrd.own hr ho
  have hpl : p < s.words.length := (List.getElem?_eq_some_iff.1 hp).1
  have c0 : w.cell? ⟨rb, 0, none⟩ = some (.pointer (some ⟨mb, 0, none⟩)) := cell_of_block hrun.r rfl
  have c2 : w.cell? ⟨rb, 2, none⟩ = some (.int .i64 p) := cell_of_block hrun.r rfl
  rcases owns_cases hr.wd with ⟨_, h0, _⟩ | ⟨gW, capW, hvW, _⟩
  · omega
  subst hvW
  have c1 : w.cell? ⟨rb, 1, none⟩ = some (.slice (some ⟨gW, 0, none⟩) s.words.length capW) := cell_of_block hrun.r rfl
  have c3 : w.cell? ⟨gW, p, none⟩ = some (.string ⟨t.toArray⟩) := by
    have := hrun.wd.cells (g := gW) rfl p (wordCell t) (by rw [List.getElem?_map, hp]; rfl)
    rwa [add_lit, Nat.zero_add] at this
  have hts := word_small hr t ht
  have hbelow : ∀ {W : World}, Below w.heap.size w W → Below w0.heap.size w W := fun hb => hb.mono hsz
  have hmean : ∀ W, Below w.heap.size w W → Calls Tryz.prog 53 #[.pointer (some ⟨mb, 0, none⟩), .string ⟨t.toArray⟩] W fun r w' => r = .returned (meansVal all wv t) ∧ Below W.heap.size W w' := fun W hb => by
    have hW := hrun.below hb
    have := meaning_any W mb ⟨t.toArray⟩ all wv vO vB (cell_of_block hW.m rfl) (hown.below hb)
    simpa using this
  have htl : (⟨t.toArray⟩ : ByteArray).toList = t := by rw [Go.ByteArray.toList_eq]
  -- nothing was changed but what is new
  have stay : ∀ {W : World}, Below w.heap.size w W → Reading w0 W mb rb (.slice (some ⟨gW, 0, none⟩) s.words.length capW) vT s p := fun hb => hrd.below hrb (hbelow hb)
  unfold readOne
  by_cases hbold : L.isBold t = false
  · rw [if_pos hbold]
    have hmc := means_cell hown m hm t hbold
    have hne39 : (t == [39]) = false := by
      rw [beq_eq_false_iff_ne]
      rintro rfl
      cases hbold
    cases hme : N.meaning m t with
    | none =>
      rw [hme] at hmc
      simp only at hmc ⊢
      refine (rw_nil w mb rb dd gW s.words.length capW p ⟨t.toArray⟩ hts hpl c0 c1 c2 c3 (hide fun W hb => by have := hmean W hb; rw [hmc] at this; exact this)).mono fun r w' hh => ⟨hh.1, stay hh.2, fun e => by cases e⟩
    | some c =>
      rw [hme] at hmc
      simp only at hmc ⊢
      obtain ⟨hv, hk4, hok⟩ := hmc
      obtain ⟨T, v, hTv, hta⟩ := cell_not_bold 0 hok hown.len hk4
      rw [hv, hTv] at hmean
      by_cases hfull : 60 ≤ d.body.length
      · rw [if_pos hfull]
        have hd60 : d.body.length = 60 := by have := hd.small; omega
        refine (rw_other w mb rb dd gW s.words.length capW p ⟨t.toArray⟩ hts hpl c0 c1 c2 c3 (by rw [htl]; exact hne39) T v hta 5 (fun W w' => w' = W) (hide hmean) (hide fun W hb => ?_)).mono ?_
        · obtain ⟨aD, cD, hvD, _, _⟩ := owns_slice hd.body
          have hdW := hd.below hb
          rw [hvD, hd60] at hdW
          exact add_full W dd cD aD _ (cell_of_block hdW.blk rfl)
        · rintro r w' ⟨rfl, W, hb, rfl⟩
          exact ⟨rfl, stay hb, fun e => by cases e⟩
      · rw [if_neg hfull]
        refine (rw_other w mb rb dd gW s.words.length capW p ⟨t.toArray⟩ hts hpl c0 c1 c2 c3 (by rw [htl]; exact hne39) T v hta 0 (fun W w' => ∃ vD', DraftAt w0.heap.size w' dd vD' vP pv wv ⟨d.body ++ [(c, 0)], d.opens⟩ ∧ Below w0.heap.size W w') (hide hmean) (hide fun W hb => ?_)).mono ?_
        · exact add_other w0.heap.size W dd vD vP pv wv d (c, 0) T v hTv hta (hd.below hb) (by omega)
        · rintro r w' ⟨rfl, W, hb, vD', hd', hb'⟩
          refine ⟨rfl, hrd.below hrb ((hbelow hb).trans hb'), fun _ => ⟨vD', vP, pv, ?_⟩⟩
          have hadd : N.add d c = ⟨d.body ++ [(c, 0)], d.opens⟩ := if_neg hk4
          rw [hadd]
          exact hd'
  · rw [if_neg hbold]
    have hbold : L.isBold t = true := by simpa using hbold
    have hmv : meansVal all wv t = .iface 134 (.string ⟨t.toArray⟩) := if_pos hbold
    rw [hmv] at hmean
    have hfits : ∀ W, Below w.heap.size w W → Calls Tryz.prog 133 #[.pointer (some ⟨dd, 0, none⟩), .string ⟨t.toArray⟩] W fun r w' => r = .returned (.bool (N.stands (N.kinds d) t).isSome) ∧ Below W.heap.size W w' := fun W hb => fits_any w0.heap.size W dd vD vP pv wv d (hd.below hb) t hbold
    cases hst : N.stands (N.kinds d) t with
    | none =>
      rw [hst] at hfits
      exact (rw_bad w mb rb dd gW s.words.length capW p ⟨t.toArray⟩ hts hpl c0 c1 c2 c3 (hide hmean) (hide hfits)).mono fun r w' hh => ⟨hh.1, stay hh.2, fun e => by cases e⟩
    | some o1 =>
      rw [hst] at hfits
      simp only
      by_cases h39 : (t == [39]) = true
      · rw [if_pos h39]
        have hask : ∀ W, Below w.heap.size w W → Calls Tryz.prog 113 #[.pointer (some ⟨rb, 0, none⟩)] W fun r w' => r = .returned (.tuple #[(asked all wv s.words p).1, .int .i64 (asked all wv s.words p).2]) ∧ Below W.heap.size W w' := fun W hb => askOwn_any W mb rb vO vB _ vS vR vT wv { s with pos := p } all (hrun.below hb) (hown.below hb) hpl
        have hne : N.nameErr m s.words[p + 1]? false = N.nameErr (⟨all, [], [], [], 0⟩ : N.Mach) s.words[p + 1]? false := by
          unfold N.nameErr
          cases s.words[p + 1]? with
          | none => rfl
          | some x => simp
        have hnw : N.newest m ((s.words[p + 1]?).getD []) = N.newestOf all ((s.words[p + 1]?).getD []) all.length := by
          unfold N.newest
          rw [hm]
        rw [hne, hnw]
        unfold asked at hask
        by_cases he : N.nameErr (⟨all, [], [], [], 0⟩ : N.Mach) s.words[p + 1]? false ≠ 0
        · simp only [if_pos he] at hask
          rw [if_pos he]
          refine (rw_tick w mb rb dd gW s.words.length capW p ⟨t.toArray⟩ hts hpl c0 c1 c2 c3 (by rw [htl]; exact h39) 4 (fun W w' => Below W.heap.size W w') (hide hmean) (hide hfits) (hide fun W hb => readToken_err W rb dd _ 4 rfl _ (hide (hask W hb)))).mono ?_
          rintro r w' ⟨rfl, W, hb, hb'⟩
          exact ⟨rfl, stay (hb.trans (hb'.mono hb.size)), fun e => by cases e⟩
        · simp only [if_neg he] at hask
          rw [if_neg he]
          cases hk : N.newestOf all ((s.words[p + 1]?).getD []) all.length with
          | none =>
            rw [hk] at hask
            simp only at hask ⊢
            refine (rw_tick w mb rb dd gW s.words.length capW p ⟨t.toArray⟩ hts hpl c0 c1 c2 c3 (by rw [htl]; exact h39) 2 (fun W w' => Below W.heap.size W w') (hide hmean) (hide hfits) (hide fun W hb => readToken_err W rb dd _ 2 rfl _ (hide (hask W hb)))).mono ?_
            rintro r w' ⟨rfl, W, hb, hb'⟩
            exact ⟨rfl, stay (hb.trans (hb'.mono hb.size)), fun e => by cases e⟩
          | some k =>
            rw [hk] at hask
            simp only at hask ⊢
            obtain ⟨hkl, e, hek, _, hth⟩ := newest_lt all _ _ _ hk
            obtain ⟨o, ho2⟩ : ∃ o, wv[k]? = some o := ⟨_, List.getElem?_eq_getElem (by rw [ho.len]; exact hkl)⟩
            have hv : ownAt wv (some k) = ownVal o := by unfold ownAt; rw [Option.bind_some, ho2]; rfl
            have hold := ho.old
            have hnin : inI64 (1000 + (k : Int)) := ⟨by omega, by omega⟩
            have hcv : cellVal wv ((⟨1, 1000 + (k : Int), []⟩ : N.Cell), 0) = .iface 117 (.int .i64 (1000 + (k : Int))) := rfl
            have hhead : ∀ W, Below w.heap.size w W → HeadAt W o e.name (1000 + (k : Int)) := fun W hb => ((hown.below hb).ent k e o hek ho2 (there_ended hth)).head
            obtain ⟨T, v, hTv⟩ := ownVal_iface o
            have hmeth : ∀ W, Below w.heap.size w W → ∀ F : Nat, (method (F + 1) T v "Token").run Tryz.prog W = .ok (65, .agg #[.string ⟨e.name.toArray⟩, .int .i64 (1000 + (k : Int))]) W := fun W hb F => by
              obtain ⟨T', v', h1, _, h2⟩ := head_name (hhead W hb)
              rw [hTv] at h1
              injection h1 with h1 h3
              subst h1 h3
              exact h2 F
            rw [hv, hTv] at hask
            have hask2 : ∀ W, Below w.heap.size w W → Calls Tryz.prog 113 #[.pointer (some ⟨rb, 0, none⟩)] W fun r w' => r = .returned (.tuple #[.iface T v, .int .i64 0]) ∧ (∀ F : Nat, (method (F + 1) T v "Token").run Tryz.prog w' = .ok (65, .agg #[.string ⟨e.name.toArray⟩, .int .i64 (1000 + (k : Int))]) w') ∧ Below w.heap.size w w' := fun W hb => (hask W hb).mono fun r w' hh => ⟨hh.1, hmeth w' (hb.trans (hh.2.mono hb.size)), hb.trans (hh.2.mono hb.size)⟩
            by_cases hfull : 60 ≤ d.body.length
            · rw [if_pos hfull]
              have hd60 : d.body.length = 60 := by have := hd.small; omega
              refine (rw_tick w mb rb dd gW s.words.length capW p ⟨t.toArray⟩ hts hpl c0 c1 c2 c3 (by rw [htl]; exact h39) 5 (fun W w' => Below w.heap.size w w') (hide hmean) (hide hfits) (hide fun W hb => ?_)).mono ?_
              · refine (readToken_walk W rb dd p T v ⟨e.name.toArray⟩ (1000 + (k : Int)) 5 (fun w' => Below w.heap.size w w') (fun w' => Below w.heap.size w w') (by have := hr.wl; omega) (hide (hask2 W hb)) (hide fun w1 W1 hb1 hb2 => ?_)).mono ?_
                · have hbW1 : Below w.heap.size w W1 := hb1.trans (hb2.mono hb1.size)
                  obtain ⟨aD, cD, hvD, _, _⟩ := owns_slice hd.body
                  have hdW := hd.below hbW1
                  rw [hvD, hd60] at hdW
                  refine (add_full W1 dd cD aD _ (cell_of_block hdW.blk rfl)).mono fun r w' hh => ⟨hh.1, ?_, ?_, ?_⟩
                  · rw [hh.2]; exact cell_of_block (hrun.below hbW1).r rfl
                  · rw [hh.2]; exact frozen_of_block 2 (hrun.below hbW1).r
                  · rw [hh.2]; exact hbW1
                · rintro r w' ⟨rfl, W1, hq, ⟨_, rfl⟩ | ⟨h5, _⟩⟩
                  · exact ⟨rfl, hq⟩
                  · cases h5
              · rintro r w' ⟨rfl, W, _, hb'⟩
                exact ⟨rfl, stay hb', fun e => by cases e⟩
            · rw [if_neg hfull]
              refine (rw_tick w mb rb dd gW s.words.length capW p ⟨t.toArray⟩ hts hpl c0 c1 c2 c3 (by rw [htl]; exact h39) 0 (fun W w' => ∃ W1 vD', DraftAt w0.heap.size W1 dd vD' vP pv wv ⟨d.body ++ [(⟨1, 1000 + (k : Int), []⟩, 0)], d.opens⟩ ∧ Below w0.heap.size w W1 ∧ w' = W1.setCell ⟨rb, 2, none⟩ (.int .i64 ((p : Int) + 1))) (hide hmean) (hide hfits) (hide fun W hb => ?_)).mono ?_
              · refine (readToken_walk W rb dd p T v ⟨e.name.toArray⟩ (1000 + (k : Int)) 0 (fun w' => Below w.heap.size w w') (fun w' => ∃ vD', DraftAt w0.heap.size w' dd vD' vP pv wv ⟨d.body ++ [(⟨1, 1000 + (k : Int), []⟩, 0)], d.opens⟩ ∧ Below w0.heap.size w w') (by have := hr.wl; omega) (hide (hask2 W hb)) (hide fun w1 W1 hb1 hb2 => ?_)).mono ?_
                · have hbW1 : Below w.heap.size w W1 := hb1.trans (hb2.mono hb1.size)
                  refine (add_other w0.heap.size W1 dd vD vP pv wv d (⟨1, 1000 + (k : Int), []⟩, 0) _ _ hcv (fun W => asb_number _ W) (hd.below hbW1) (by omega)).mono ?_
                  rintro r w' ⟨rfl, vD', hd', hb'⟩
                  have hb0 : Below w0.heap.size w w' := (hbelow hbW1).trans hb'
                  have hrd' := hrd.below hrb hb0
                  exact ⟨rfl, cell_of_block hrd'.r rfl, frozen_of_block 2 hrd'.r, vD', hd', hb0⟩
                · rintro r w' ⟨rfl, W1, ⟨vD', hd', hb'⟩, ⟨h5, _⟩ | ⟨_, rfl⟩⟩
                  · exact (h5 rfl).elim
                  · exact ⟨rfl, W1, vD', hd', hb', rfl⟩
              · rintro r w' ⟨rfl, W, _, W1, vD', hd', hb', rfl⟩
                refine ⟨rfl, (hrd.below hrb hb').step (p + 1) _ (by simp), fun _ => ⟨vD', vP, pv, ?_⟩⟩
                have hadd : N.add d ⟨1, 1000 + (k : Int), []⟩ = ⟨d.body ++ [(⟨1, 1000 + (k : Int), []⟩, 0)], d.opens⟩ := if_neg (show ¬ (1 : Nat) = 4 by decide)
                rw [hadd]
                refine hd'.kept fun k' hk' => Below.heap_setCell _ _ _ _ ?_
                show k' ≠ rb
                intro hkr
                subst hkr
                rcases hk' with e1 | e1 | e1 | ⟨u, hu, e1⟩
                · have := hd'.hB
                  omega
                · have := own_ge hd'.body e1
                  omega
                · have := own_ge hd'.opens e1
                  omega
                · obtain ⟨i, hi⟩ := List.getElem?_of_mem hu
                  have hlt : i < d.opens.reverse.length := by
                    have := hd'.plen
                    rw [← this]
                    exact (List.getElem?_eq_some_iff.1 hi).1
                  have := own_ge (hd'.waits i _ u (List.getElem?_eq_getElem hlt) hi) e1
                  omega
      · rw [if_neg h39]
        have h39' : (t == [39]) = false := by simpa using h39
        by_cases hfull : 60 ≤ d.body.length
        · rw [if_pos hfull]
          have hd60 : d.body.length = 60 := by have := hd.small; omega
          refine (rw_bold w mb rb dd gW s.words.length capW p ⟨t.toArray⟩ hts hpl c0 c1 c2 c3 (by rw [htl]; exact h39') 5 (fun W w' => w' = W) (hide hmean) (hide hfits) (hide fun W hb => ?_)).mono ?_
          · obtain ⟨aD, cD, hvD, _, _⟩ := owns_slice hd.body
            have hdW := hd.below hb
            rw [hvD, hd60] at hdW
            exact add_full W dd cD aD _ (cell_of_block hdW.blk rfl)
          · rintro r w' ⟨rfl, W, hb, rfl⟩
            exact ⟨rfl, stay hb, fun e => by cases e⟩
        · rw [if_neg hfull]
          refine (rw_bold w mb rb dd gW s.words.length capW p ⟨t.toArray⟩ hts hpl c0 c1 c2 c3 (by rw [htl]; exact h39') 0 (fun W w' => ∃ vD' vP' pv', DraftAt w0.heap.size w' dd vD' vP' pv' wv (N.add d ⟨4, 0, t⟩) ∧ Below w0.heap.size W w') (hide hmean) (hide hfits) (hide fun W hb => ?_)).mono ?_
          · exact add_bold_any w0.heap.size W dd vD vP pv wv d hf hbk t o1 hst (by rintro rfl; exact h39 rfl) (by omega) (hd.below hb)
          · rintro r w' ⟨rfl, W, hb, vD', vP', pv', hd', hb'⟩
            exact ⟨rfl, hrd.below hrb ((hbelow hb).trans hb'), fun _ => ⟨vD', vP', pv', hd'⟩⟩
end Go.Proofs.YtgnlokmeohffaaaGreatDoor
/- readBody: the walk. -/
namespace Go.Proofs.YtgnlokmeohffaaaGreatDoor
open Go.RowKit
attribute [local go_sem ↓] Go.wp_at_zero Go.wp_at_succ

/-- What is known at the head of readBody's loop. -/
def HeadR (rb dd n gW capW : Nat) (Inv : World → Prop) (mu : World → Nat) (Post : Value → Int → World → Prop) (wr : World) : Prop :=
  ∃ (p : Nat) (vD : Value) (aD aP : Option Addr) (nb cD k cP : Nat), vD = .slice aD nb cD ∧ p ≤ n + 1 ∧ wr.cell? ⟨rb, 1, none⟩ = some (.slice (some ⟨gW, 0, none⟩) n capW) ∧ wr.cell? ⟨rb, 2, none⟩ = some (.int .i64 p) ∧ wr.frozen? ⟨rb, 2, none⟩ = false ∧ wr.cell? ⟨dd, 0, none⟩ = some vD ∧ wr.cell? ⟨dd, 1, none⟩ = some (.slice aP k cP) ∧
    ((¬ p < n ∧ ∀ W, Below wr.heap.size wr W → Post (.slice none 0 0) 3 (W.setCell ⟨rb, 2, none⟩ (.int .i64 ((n : Int) - 1)))) ∨
     (p < n ∧ ∃ t : ByteArray, wr.cell? ⟨gW, p, none⟩ = some (.string t) ∧
      ((t.toList == [59]) = true ∧ k = 0 ∧ (∀ W, Below wr.heap.size wr W → Post vD 0 W) ∨
       (((t.toList == [59]) = false ∨ ((t.toList == [59]) = true ∧ ((k : Int) == 0) = false)) ∧ ∀ W, Below wr.heap.size wr W → Calls Tryz.prog 125 #[.pointer (some ⟨rb, 0, none⟩), .pointer (some ⟨dd, 0, none⟩)] W fun r w' => ∃ code, r = .returned (.int .i64 code) ∧
         ((code ≠ 0 ∧ Post (.slice none 0 0) code w') ∨ (code = 0 ∧ ∃ q : Nat, q ≤ n ∧ w'.cell? ⟨rb, 2, none⟩ = some (.int .i64 q) ∧ w'.frozen? ⟨rb, 2, none⟩ = false ∧ Inv (w'.setCell ⟨rb, 2, none⟩ (.int .i64 ((q : Int) + 1))) ∧ mu (w'.setCell ⟨rb, 2, none⟩ (.int .i64 ((q : Int) + 1))) < mu wr))))))

set_option maxRecDepth 100000 in
set_option maxHeartbeats 3200000 in
theorem readBody_walk (w : World) (rb n gW capW p0 : Nat) (Inv : World → Prop) (mu : World → Nat) (Post : Value → Int → World → Prop) (hn : n ≤ 500) (hn1 : 1 ≤ n) (hp0 : p0 < n) (c2 : w.cell? ⟨rb, 2, none⟩ = some (.int .i64 p0)) (f2 : w.frozen? ⟨rb, 2, none⟩ = false)
    (h0 : Inv ((w.alloc (Obj.cells #[Value.slice none 0 0, Value.slice none 0 0] 201)).setCell ⟨rb, 2, none⟩ (.int .i64 ((p0 : Int) + 2))))
    (HI : Hid (∀ wr, Inv wr → HeadR rb w.heap.size n gW capW Inv mu Post wr)) :
    Calls Tryz.prog 111 #[.pointer (some ⟨rb, 0, none⟩)] w fun r w' => ∃ v code, r = .returned (.tuple #[v, .int .i64 code]) ∧ Post v code w' := by
  have i0 : IntKind.i64.wrap ((p0 : Int) + 2) = (p0 : Int) + 2 := by rw [IntKind.wrap_i64]; omega
  have d2 := cell_alloc c2 (Obj.cells #[Value.slice none 0 0, Value.slice none 0 0] 201)
  have g2 : (w.alloc (Obj.cells #[Value.slice none 0 0, Value.slice none 0 0] 201)).frozen? ⟨rb, 2, none⟩ = false := grown_fz (World.grownBy_alloc _ _ none) c2 f2 (by simp)
  have H0 := hide h0
  clear h0
  go_enter Tryz.func111, Tryz.ntmps111
  go_wp2
  go_loopw [5] (fun _ wr => Inv wr) (fun _ wr => mu wr)
  case atStart => exact unhide H0
  case round =>
    obtain ⟨p, vD, aD, aP, nb, cD, k, cP, rfl, hpn, c1, c2, f2, e0, e1, hcase⟩ := unhide HI _ hrel
    clear hrel
    rcases hcase with ⟨hge, hP⟩ | ⟨hlt, t, c3, ⟨hq, rfl, hP⟩ | ⟨hq, hcall⟩⟩
    · have HP := hide hP
      have k1 : ¬ ((p : Int) < (n : Int)) := by omega
      have k2 : IntKind.i64.wrap ((n : Int) - 1) = (n : Int) - 1 := by rw [IntKind.wrap_i64]; omega
      clear hge hP
      go_wp2
      go_quiet (fail)
      go_wp2
      go_ret2
      exact ⟨_, _, rfl, unhide HP _ (below_drewN (Below.refl _ _) _)⟩
    · have HP := hide hP
      have k1 : (p : Int) < (n : Int) := by omega
      have k2 : (0 : Int) ≤ (p : Int) := by omega
      clear hlt hP
      go_wp2
      go_quiet (fail)
      go_wp2
      go_quiet (fail)
      go_wp2
      go_ret2
      exact ⟨_, _, rfl, unhide HP _ (below_drewN (Below.refl _ _) _)⟩
    · have HC := hide hcall
      have k1 : (p : Int) < (n : Int) := by omega
      have k2 : (0 : Int) ≤ (p : Int) := by omega
      clear hlt hcall
      rcases hq with hq | ⟨hq, hk⟩
      all_goals
        go_wp2
        go_quiet (fail)
        go_wp2
        go_quiet (fail)
        go_wp2_with fail
        refine (unhide HC _ (below_drewN (Below.refl _ _) _)).mono ?_
        rintro e w2 ⟨code, rfl, hh⟩
        rcases hh with ⟨hc, hP⟩ | ⟨rfl, q, hqn, x2, y2, hI, hmu⟩
        · have hcb : (code != 0) = true := by rw [bne_iff_ne]; exact hc
          have HP := hide hP
          clear hc hP
          go_wp2
          go_ret2
          exact ⟨_, _, rfl, unhide HP⟩
        · have HI2 := hide (And.intro hI hmu)
          have k3 : IntKind.i64.wrap ((q : Int) + 1) = (q : Int) + 1 := by rw [IntKind.wrap_i64]; omega
          clear hI hmu
          go_wp2
          exact unhide HI2
end Go.Proofs.YtgnlokmeohffaaaGreatDoor
/- readBody, at whatever run: what the document's machine reads. -/
namespace Go.Proofs.YtgnlokmeohffaaaGreatDoor
open Go.RowKit

/-- A body that is read, in plain terms: all that holds of it. -/
structure Sound (all : List N.Ent) (d : N.Draft) : Prop where
  fine : N.Fine d
  deep : N.Deep d
  bulk : N.Bulk d
  ok : ∀ c ∈ N.cells d, cellOk all all.length c
  small : d.body.length ≤ 60

theorem sound_nil (all : List N.Ent) : Sound all ⟨[], []⟩ := ⟨N.fine_nil, N.deep_nil, N.bulk_nil, fun c hc => by simp [N.cells] at hc, Nat.zero_le _⟩

theorem stands_inner {o : List (List UInt8)} {s : List UInt8} {o1 : List (List UInt8)} (h : N.stands o s = some o1) (ht : s ≠ [39]) : N.inner s = true := by
  unfold N.inner
  simp only [List.any_cons, List.any_nil, Bool.or_false, Bool.or_eq_true, beq_iff_eq]
  unfold N.stands at h
  by_cases h1 : (s == N.wIf || s == N.wBegin || s == N.wDo) = true
  · simp only [Bool.or_eq_true, beq_iff_eq] at h1
    rcases h1 with (h1 | h1) | h1 <;> simp [h1]
  rw [if_neg h1] at h
  by_cases h2 : (s == N.wElse) = true
  · rw [beq_iff_eq] at h2; simp [h2]
  rw [if_neg h2] at h
  by_cases h3 : (s == N.wThen) = true
  · rw [beq_iff_eq] at h3; simp [h3]
  rw [if_neg h3] at h
  by_cases h4 : (s == N.wUntil || s == N.wAgain) = true
  · simp only [Bool.or_eq_true, beq_iff_eq] at h4
    rcases h4 with h4 | h4 <;> simp [h4]
  rw [if_neg h4] at h
  by_cases h5 : (s == N.wWhile) = true
  · rw [beq_iff_eq] at h5; simp [h5]
  rw [if_neg h5] at h
  by_cases h6 : (s == N.wRepeat) = true
  · rw [beq_iff_eq] at h6; simp [h6]
  rw [if_neg h6] at h
  by_cases h7 : (s == N.wLoop) = true
  · rw [beq_iff_eq] at h7; simp [h7]
  rw [if_neg h7] at h
  by_cases h8 : (s == N.wI || s == N.wLeave) = true
  · simp only [Bool.or_eq_true, beq_iff_eq] at h8
    rcases h8 with h8 | h8 <;> simp [h8]
  rw [if_neg h8] at h
  by_cases h9 : (s == N.wRecurse || s == N.wExit || s == [39]) = true
  · simp only [Bool.or_eq_true, beq_iff_eq] at h9
    rcases h9 with (h9 | h9) | h9
    · simp [h9]
    · simp [h9]
    · exact (ht h9).elim
  · rw [if_neg h9] at h
    cases h

/-- A word is read: all that held holds. -/
theorem readOne_sound {w : World} {all : List N.Ent} {wv : List Own} {vO vB : Value} (ho : OwnAt w all wv vO vB) (m : N.Mach) (hm : m.all = all) (ws : List (List UInt8)) (p : Nat) (d : N.Draft) (s : List UInt8) (h : Sound all d) (hz : (readOne m ws p d s).1 = 0) :
    Sound all (readOne m ws p d s).2.1 ∧ p ≤ (readOne m ws p d s).2.2 ∧ ((readOne m ws p d s).2.2 < ws.length ∨ (readOne m ws p d s).2.2 = p) := by
  have plain : ∀ c, c.kind ≠ 4 → cellOk all all.length c → ¬ 60 ≤ d.body.length → Sound all (N.add d c) := fun c hk hok hl => by
    obtain ⟨h1, _, h3⟩ := N.add_plain h.fine c hk
    obtain ⟨b1, b2⟩ := N.bulk_add h.bulk c
    refine ⟨h1, N.add_deep_plain h.deep c hk, b1, fun x hx => ?_, by rw [b2]; omega⟩
    rw [h3] at hx
    rcases List.mem_append.1 hx with hx | hx
    · exact h.ok x hx
    · rw [List.mem_singleton] at hx
      rw [hx]
      exact hok
  unfold readOne at hz ⊢
  by_cases hbold : L.isBold s = false
  · rw [if_pos hbold] at hz ⊢
    have hmc := means_cell ho m hm s hbold
    cases hme : N.meaning m s with
    | none => rw [hme] at hz; cases hz
    | some c =>
      rw [hme] at hz hmc
      simp only at hz hmc ⊢
      by_cases hl : 60 ≤ d.body.length
      · rw [if_pos hl] at hz; cases hz
      · rw [if_neg hl]
        exact ⟨plain c hmc.2.1 hmc.2.2 hl, Nat.le_refl _, .inr rfl⟩
  · rw [if_neg hbold] at hz ⊢
    cases hst : N.stands (N.kinds d) s with
    | none => rw [hst] at hz; cases hz
    | some o1 =>
      rw [hst] at hz
      simp only at hz ⊢
      by_cases h39 : (s == [39]) = true
      · rw [if_pos h39] at hz ⊢
        by_cases he : N.nameErr m ws[p + 1]? false ≠ 0
        · rw [if_pos he] at hz; cases hz
        · rw [if_neg he] at hz ⊢
          cases hk : N.newest m ((ws[p + 1]?).getD []) with
          | none => rw [hk] at hz; cases hz
          | some k =>
            rw [hk] at hz
            simp only at hz ⊢
            by_cases hl : 60 ≤ d.body.length
            · rw [if_pos hl] at hz; cases hz
            · rw [if_neg hl]
              unfold N.newest at hk
              rw [hm] at hk
              obtain ⟨hkl, _⟩ := newest_lt all _ _ _ hk
              have hold := ho.old
              have hin : inI64 (1000 + (k : Int)) := ⟨by omega, by omega⟩
              refine ⟨plain ⟨1, 1000 + (k : Int), []⟩ (show (1 : Nat) ≠ 4 by decide) (.inl ⟨rfl, hin⟩) hl, by show p ≤ p + 1; omega, ?_⟩
              show p + 1 < ws.length ∨ p + 1 = p
              left
              rcases Nat.lt_or_ge (p + 1) ws.length with hx | hx
              · exact hx
              · exfalso
                apply he
                rw [List.getElem?_eq_none hx]
                show (4 : Int) ≠ 0
                decide
      · rw [if_neg h39] at hz ⊢
        by_cases hl : 60 ≤ d.body.length
        · rw [if_pos hl] at hz; cases hz
        · rw [if_neg hl]
          have ht : s ≠ [39] := fun e => h39 (by rw [e]; rfl)
          obtain ⟨h1, _, h3⟩ := N.add_bold h.fine s o1 hst ht
          obtain ⟨b1, b2⟩ := N.bulk_add h.bulk ⟨4, 0, s⟩
          refine ⟨⟨h1, N.add_deep h.fine h.deep s o1 hst ht, b1, fun x hx => ?_, by rw [b2]; omega⟩, Nat.le_refl _, .inr rfl⟩
          rw [h3] at hx
          rcases List.mem_append.1 hx with hx | hx
          · exact h.ok x hx
          · rw [List.mem_singleton] at hx
            rw [hx]
            exact .inr (.inr (.inr ⟨rfl, stands_inner hst ht⟩))

/-- What was read is what the document's machine reads: step by step. -/
theorem reads_step {all : List N.Ent} (m : N.Mach) (ws : List (List UInt8)) (f p : Nat) (d : N.Draft) (s : List UInt8) (h : Sound all d) (hs : ws[p]? = some s) (hsemi : (s == [59]) = false ∨ d.opens ≠ []) :
    ((readOne m ws p d s).1 ≠ 0 → (N.reads m ws (f + 1) p (N.kinds d) (N.cells d)).2.1 = (readOne m ws p d s).1 ∧ (N.reads m ws (f + 1) p (N.kinds d) (N.cells d)).2.2.1 = p ∧ (readOne m ws p d s).2.2 = p) ∧
    ((readOne m ws p d s).1 = 0 → N.reads m ws (f + 1) p (N.kinds d) (N.cells d) = N.reads m ws f ((readOne m ws p d s).2.2 + 1) (N.kinds (readOne m ws p d s).2.1) (N.cells (readOne m ws p d s).2.1)) := by
  have hcl : (N.cells d).length = d.body.length := N.cells_len d
  have hkne : d.opens ≠ [] → (N.kinds d).isEmpty = false := fun hne => by
    unfold N.kinds
    cases ho : d.opens with
    | nil => exact (hne ho).elim
    | cons o t => simp
  rw [N.reads]
  simp only [hs]
  unfold readOne
  by_cases h59 : (s == [59]) = true
  · have hopen : d.opens ≠ [] := by
      rcases hsemi with hh | hh
      · rw [hh] at h59; cases h59
      · exact hh
    have e1 : (if (N.kinds d).isEmpty = true then (N.cells d, (0 : Int), 0, p + 1) else (N.cells d, 3, p, p + 1)) = (N.cells d, 3, p, p + 1) := if_neg (by rw [hkne hopen]; exact Bool.false_ne_true)
    rw [if_pos h59, e1]
    rw [beq_iff_eq] at h59
    subst h59
    have hst : N.stands (N.kinds d) [59] = none := rfl
    rw [if_neg (by decide), hst]
    exact ⟨fun _ => ⟨rfl, rfl, rfl⟩, fun e => by cases e⟩
  · rw [if_neg h59]
    by_cases hbold : L.isBold s = false
    · rw [if_pos hbold, if_pos hbold]
      cases hme : N.meaning m s with
      | none => exact ⟨fun _ => ⟨rfl, rfl, rfl⟩, fun e => by cases e⟩
      | some c =>
        simp only
        rw [hcl]
        by_cases hl : 60 ≤ d.body.length
        · rw [if_pos hl, if_pos hl]
          exact ⟨fun _ => ⟨rfl, rfl, rfl⟩, fun e => by cases e⟩
        · rw [if_neg hl, if_neg hl]
          refine ⟨fun e => (e rfl).elim, fun _ => ?_⟩
          have hk : c.kind ≠ 4 := by
            unfold N.meaning at hme
            cases hn : N.newest m s with
            | some k =>
              rw [hn] at hme
              injection hme with hme
              rw [← hme]
              show (2 : Nat) ≠ 4
              decide
            | none =>
              rw [hn] at hme
              simp only at hme
              split at hme
              · injection hme with hme
                rw [← hme]
                show (3 : Nat) ≠ 4
                decide
              · obtain ⟨x, _, hx⟩ := Option.map_eq_some_iff.1 hme
                rw [← hx]
                show (1 : Nat) ≠ 4
                decide
          obtain ⟨_, h2, h3⟩ := N.add_plain h.fine c hk
          show N.reads m ws f (p + 1) (N.kinds d) (N.cells d ++ [c]) = N.reads m ws f (p + 1) (N.kinds (N.add d c)) (N.cells (N.add d c))
          rw [h2, h3]
    · rw [if_neg hbold, if_neg hbold]
      cases hst : N.stands (N.kinds d) s with
      | none => exact ⟨fun _ => ⟨rfl, rfl, rfl⟩, fun e => by cases e⟩
      | some o1 =>
        simp only
        by_cases h39 : (s == [39]) = true
        · rw [if_pos h39, if_pos h39]
          have hne4 : N.nameErr m ws[p + 1]? false ≠ 0 → N.nameErr m ws[p + 1]? false = 4 := fun he => by
            unfold N.nameErr at he ⊢
            cases hx : ws[p + 1]? with
            | none => rfl
            | some t =>
              rw [hx] at he
              simp only at he ⊢
              split
              · rfl
              · rename_i hc
                rw [if_neg hc, if_neg (by simp)] at he
                exact (he rfl).elim
          by_cases he : N.nameErr m ws[p + 1]? false ≠ 0
          · rw [if_pos he, if_pos he]
            exact ⟨fun _ => ⟨hne4 he, rfl, rfl⟩, fun e => by cases e⟩
          · rw [if_neg he, if_neg he]
            cases hk : N.newest m ((ws[p + 1]?).getD []) with
            | none => exact ⟨fun _ => ⟨rfl, rfl, rfl⟩, fun e => by cases e⟩
            | some k =>
              simp only
              rw [hcl]
              by_cases hl : 60 ≤ d.body.length
              · rw [if_pos hl, if_pos hl]
                exact ⟨fun _ => ⟨rfl, rfl, rfl⟩, fun e => by cases e⟩
              · rw [if_neg hl, if_neg hl]
                refine ⟨fun e => (e rfl).elim, fun _ => ?_⟩
                have hs39 : s = [39] := by simpa using h39
                have ho1 : o1 = N.kinds d := by
                  rw [hs39] at hst
                  have : N.stands (N.kinds d) [39] = some (N.kinds d) := rfl
                  rw [this] at hst
                  injection hst with hst
                  exact hst.symm
                obtain ⟨_, h2, h3⟩ := N.add_plain h.fine ⟨1, 1000 + (k : Int), []⟩ (show (1 : Nat) ≠ 4 by decide)
                show N.reads m ws f (p + 2) o1 (N.cells d ++ [⟨1, 1000 + (k : Int), []⟩]) = N.reads m ws f (p + 1 + 1) (N.kinds (N.add d ⟨1, 1000 + (k : Int), []⟩)) (N.cells (N.add d ⟨1, 1000 + (k : Int), []⟩))
                rw [h2, h3, ho1]
        · rw [if_neg h39, if_neg h39, hcl]
          by_cases hl : 60 ≤ d.body.length
          · rw [if_pos hl, if_pos hl]
            exact ⟨fun _ => ⟨rfl, rfl, rfl⟩, fun e => by cases e⟩
          · rw [if_neg hl, if_neg hl]
            refine ⟨fun e => (e rfl).elim, fun _ => ?_⟩
            have ht : s ≠ [39] := fun e => h39 (by rw [e]; rfl)
            obtain ⟨_, h2, h3⟩ := N.add_bold h.fine s o1 hst ht
            show N.reads m ws f (p + 1) o1 (N.cells d ++ [⟨4, 0, s⟩]) = N.reads m ws f (p + 1) (N.kinds (N.add d ⟨4, 0, s⟩)) (N.cells (N.add d ⟨4, 0, s⟩))
            rw [h2, h3]
end Go.Proofs.YtgnlokmeohffaaaGreatDoor
/- readBody, at whatever run: what the document's machine reads. -/
namespace Go.Proofs.YtgnlokmeohffaaaGreatDoor
open Go.RowKit

def placeAt (w : World) (rb : Nat) : Nat := match w.cell? ⟨rb, 2, none⟩ with | some (.int _ p) => p.toNat | _ => 0
theorem placeAt_of {w0 w : World} {mb rb : Nat} {vW vT : Value} {s : L.RunS} {p : Nat} (h : Reading w0 w mb rb vW vT s p) : placeAt w rb = p := by
  have : w.cell? ⟨rb, 2, none⟩ = some (.int .i64 (p : Int)) := cell_of_block h.r rfl
  unfold placeAt
  rw [this]
  simp

/-- What readBody leaves. -/
def ReadPost (w0 : World) (mb rb dd : Nat) (vW vT : Value) (wv : List Own) (s : L.RunS) (all : List N.Ent) (res : List N.Cell × Int × Nat × Nat) (v : Value) (code : Int) (w : World) : Prop :=
  code = res.2.1 ∧ (code ≠ 0 → Reading w0 w mb rb vW vT s res.2.2.1) ∧
    (code = 0 → ∃ p d vP pv, res.2.2.2 = p + 1 ∧ p < s.words.length ∧ Reading w0 w mb rb vW vT s p ∧ DraftAt w0.heap.size w dd v vP pv wv d ∧ Sound all d ∧ d.opens = [] ∧ N.cells d = res.1)

theorem readBody_any (w0 : World) (mb rb : Nat) (vO vB vW vS vR vT : Value) (wv : List Own) (s : L.RunS) (all : List N.Ent) (m : N.Mach) (hm : m.all = all) (hr : RunAt w0 mb rb vO vB vW vS vR vT s) (ho : OwnAt w0 all wv vO vB) (hp : s.pos < s.words.length) (hw : ∀ t ∈ s.words, t.length ≤ 1000) :
    Calls Tryz.prog 111 #[.pointer (some ⟨rb, 0, none⟩)] w0 fun r w' => ∃ v code, r = .returned (.tuple #[v, .int .i64 code]) ∧ ReadPost w0 mb rb w0.heap.size vW vT wv s all (N.reads m s.words (s.words.length + 1) (s.pos + 2) [] []) v code w' := by
  generalize hres : N.reads m s.words (s.words.length + 1) (s.pos + 2) [] [] = res
  have hrb := heap_lt hr.r
  rcases owns_cases hr.wd with ⟨_, h0, _⟩ | ⟨gW, capW, hvW, _⟩
  · omega
  subst hvW
  let Inv : World → Prop := fun wr => ∃ f p d vD vP pv, Reading w0 wr mb rb (.slice (some ⟨gW, 0, none⟩) s.words.length capW) vT s p ∧ DraftAt w0.heap.size wr w0.heap.size vD vP pv wv d ∧ Sound all d ∧ p ≤ s.words.length + 1 ∧ s.words.length - p < f ∧ N.reads m s.words f p (N.kinds d) (N.cells d) = res
  refine readBody_walk w0 rb s.words.length gW capW s.pos Inv (fun w => s.words.length + 1 - placeAt w rb) (ReadPost w0 mb rb w0.heap.size (.slice (some ⟨gW, 0, none⟩) s.words.length capW) vT wv s all res) hr.wl (by omega) hp (cell_of_block hr.r rfl) (frozen_of_block 2 hr.r) ?_ (hide fun wr hI => ?_)
  · have hrd0 : Reading w0 (w0.alloc (Obj.cells #[Value.slice none 0 0, Value.slice none 0 0] 201)) mb rb (.slice (some ⟨gW, 0, none⟩) s.words.length capW) vT s s.pos :=
      ⟨(Mv.refl _ _).alloc _, (Below.heap_alloc _ _ _ hrb).trans hr.r⟩
    have hd0 : DraftAt w0.heap.size (w0.alloc (Obj.cells #[Value.slice none 0 0, Value.slice none 0 0] 201)) w0.heap.size (.slice none 0 0) (.slice none 0 0) [] wv ⟨[], []⟩ :=
      ⟨Nat.le_refl _, heap_alloc_new w0 _, World.ownsRow_nil _ _ _ _, World.ownsRow_nil _ _ _ _, rfl, fun i o v h1 => by simp at h1, fun i j v u k h1 => by simp at h1, Nat.zero_le _, Nat.zero_le _, fun o ho => by simp at ho⟩
    refine ⟨s.words.length + 1, s.pos + 2, ⟨[], []⟩, .slice none 0 0, .slice none 0 0, [], hrd0.step (s.pos + 2) _ (by simp), ?_, sound_nil all, by omega, by omega, hres⟩
    refine hd0.kept fun k hk => Below.heap_setCell _ _ _ _ (show k ≠ rb from ?_)
    rintro rfl
    rcases hk with e | e | e | ⟨v, hv, _⟩
    · omega
    · simp [Value.ownBlock] at e
    · simp [Value.ownBlock] at e
    · simp at hv
  · obtain ⟨f, p, d, vD, vP, pv, hrd, hd, hsd, hpn, hfu, hbody⟩ := hI
    have hrun := hrd.run hr
    have hsz := hrd.mv.size
    obtain ⟨aD, cD, hvD, _, _⟩ := owns_slice hd.body
    obtain ⟨aP, cP, hvP⟩ : ∃ a c, vP = .slice a d.opens.length c := by
      rcases hd.opens.2 with ⟨h1, h2⟩ | ⟨g, cap, cur, h1, _⟩
      · exact ⟨none, 0, by rw [h1, h2]⟩
      · exact ⟨_, _, h1⟩
    subst hvP
    obtain ⟨f', rfl⟩ : ∃ f', f = f' + 1 := ⟨f - 1, by omega⟩
    refine ⟨p, vD, aD, aP, d.body.length, cD, d.opens.length, cP, hvD, hpn, cell_of_block hrun.r rfl, cell_of_block hrun.r rfl, frozen_of_block 2 hrun.r, cell_of_block hd.blk rfl, cell_of_block hd.blk rfl, ?_⟩
    by_cases hlt : p < s.words.length
    case neg =>
      refine .inl ⟨hlt, fun W hb => ?_⟩
      have hnone : s.words[p]? = none := List.getElem?_eq_none (by omega)
      rw [N.reads, hnone] at hbody
      unfold ReadPost
      rw [← hbody]
      refine ⟨rfl, fun _ => ?_, fun e => by cases e⟩
      refine (hrd.below hrb (hb.mono hsz)).step (s.words.length - 1) _ ?_
      congr 1
      omega
    case pos =>
      refine .inr ⟨hlt, ?_⟩
      obtain ⟨t, ht⟩ : ∃ t, s.words[p]? = some t := ⟨_, List.getElem?_eq_getElem hlt⟩
      have c3 : wr.cell? ⟨gW, p, none⟩ = some (.string ⟨t.toArray⟩) := by
        have := hrun.wd.cells (g := gW) rfl p (wordCell t) (by rw [List.getElem?_map, ht]; rfl)
        rwa [add_lit, Nat.zero_add] at this
      have htl : (⟨t.toArray⟩ : ByteArray).toList = t := by rw [Go.ByteArray.toList_eq]
      refine ⟨⟨t.toArray⟩, c3, ?_⟩
      rw [htl]
      by_cases hsemi : (t == [59]) = true ∧ d.opens = []
      · refine .inl ⟨hsemi.1, by rw [hsemi.2]; rfl, fun W hb => ?_⟩
        have hkn : N.kinds d = [] := by unfold N.kinds; rw [hsemi.2]; rfl
        rw [N.reads, ht] at hbody
        simp only [hsemi.1, if_true, hkn] at hbody
        unfold ReadPost
        rw [← hbody]
        exact ⟨rfl, fun e => (e rfl).elim, fun _ => ⟨p, d, _, pv, rfl, hlt, hrd.below hrb (hb.mono hsz), hd.below hb, hsd, hsemi.2, rfl⟩⟩
      · have hs : (t == [59]) = false ∨ d.opens ≠ [] := by
          cases h59 : (t == [59]) with
          | false => exact .inl rfl
          | true => exact .inr fun e => hsemi ⟨h59, e⟩
        refine .inr ⟨?_, fun W hb => ?_⟩
        · rcases hs with h1 | h1
          · exact .inl h1
          · cases h59 : (t == [59]) with
            | false => exact .inl rfl
            | true =>
              refine .inr ⟨rfl, ?_⟩
              rw [beq_eq_false_iff_ne]
              have : d.opens.length ≠ 0 := fun e => h1 (List.length_eq_zero_iff.1 e)
              omega
        · have hrdW := hrd.below hrb (hb.mono hsz)
          have hstep := reads_step m s.words f' p d t hsd ht hs
          rw [hbody] at hstep
          refine (readWord_any w0 W mb rb w0.heap.size vO vB _ vS vR vT vD _ pv wv s all m hm p t d hr ho hrdW (hd.below hb) hsd.fine hsd.bulk ht (hw t (List.mem_of_getElem? ht))).mono ?_
          rintro r w' ⟨rfl, hrd2, hd2⟩
          refine ⟨_, rfl, ?_⟩
          by_cases hz : (readOne m s.words p d t).1 = 0
          · refine .inr ⟨hz, ?_⟩
            obtain ⟨hs2, hq1, hq2⟩ := readOne_sound ho m hm s.words p d t hsd hz
            obtain ⟨vD', vP', pv', hd2⟩ := hd2 hz
            have hbody2 := hstep.2 hz
            generalize (readOne m s.words p d t).2.2 = q at *
            generalize (readOne m s.words p d t).2.1 = d' at *
            have hqn : q < s.words.length := by rcases hq2 with x | x <;> omega
            have hrd3 := hrd2.step (q + 1) (.int .i64 ((q : Int) + 1)) (by simp)
            refine ⟨q, by omega, cell_of_block hrd2.r rfl, frozen_of_block 2 hrd2.r, ⟨f', q + 1, d', vD', vP', pv', hrd3, ?_, hs2, by omega, by omega, hbody2.symm⟩, ?_⟩
            · refine hd2.kept fun k hk => Below.heap_setCell _ _ _ _ (show k ≠ rb from ?_)
              rintro rfl
              rcases hk with e | e | e | ⟨v, hv, e⟩
              · omega
              · have := own_ge hd2.body e
                omega
              · have := own_ge hd2.opens e
                omega
              · obtain ⟨i, hi⟩ := List.getElem?_of_mem hv
                have hil : i < d'.opens.reverse.length := by
                  rw [← hd2.plen]
                  exact (List.getElem?_eq_some_iff.1 hi).1
                have := own_ge (hd2.waits i _ v (List.getElem?_eq_getElem hil) hi) e
                omega
            · show s.words.length + 1 - placeAt _ rb < s.words.length + 1 - placeAt wr rb
              rw [placeAt_of hrd3, placeAt_of hrd]
              omega
          · refine .inl ⟨hz, ?_⟩
            obtain ⟨e1, e2, e3⟩ := hstep.1 hz
            unfold ReadPost
            refine ⟨e1.symm, fun _ => ?_, fun e => (hz e).elim⟩
            rw [e2]
            rw [e3] at hrd2
            exact hrd2
end Go.Proofs.YtgnlokmeohffaaaGreatDoor
/- IsName, askNewName: may a word of one's own have the name behind the word at hand? -/
namespace Go.Proofs.YtgnlokmeohffaaaGreatDoor
open Go.RowKit
attribute [local go_sem ↓] Go.wp_at_zero Go.wp_at_succ

def isNameB (l : List UInt8) : Bool := l.all N.isSign && (decide (l.length ≤ 12) && !(L.number l).isSome)
def intV : Value → Int
  | .int _ n => n
  | _ => 0

set_option maxRecDepth 100000 in
set_option maxHeartbeats 1600000 in
theorem isName_any (s : ByteArray) (w : World) (hs : s.size ≤ 1000) (h0 : s.data.toList ≠ []) :
    Calls Tryz.prog 123 #[.string s] w fun e w' => e = .returned (.bool (isNameB s.data.toList)) ∧ w' = w := by
  have HS := hide (Lib.size_eq s)
  have hl : s.toList = s.data.toList := Go.ByteArray.toList_eq s
  have hne : (s.toList == []) = false := by rw [hl, beq_eq_false_iff_ne]; exact h0
  have HL := hide hl
  by_cases h12 : 12 < s.size
  · have hr : isNameB s.data.toList = false := by
      unfold isNameB
      have := Lib.size_eq s
      have : decide (s.data.toList.length ≤ 12) = false := by rw [decide_eq_false_iff_not]; omega
      rw [this]
      simp
    rw [hr]
    have k1 : (12 : Int) < (s.size : Int) := by omega
    clear hl h0
    go_enter Tryz.func123, Tryz.ntmps123
    go_wp2
    go_ret
    exact ⟨rfl, rfl⟩
  · have k1 : ¬ (12 : Int) < (s.size : Int) := by omega
    clear hl h0
    go_enter Tryz.func123, Tryz.ntmps123
    go_wp2
    go_loop [15] (fun i => ∃ k : Nat, k ≤ s.size ∧ i = .int .i64 k ∧ (s.data.toList.take k).all N.isSign = true) (fun i => s.size - (intV i).toNat)
    case atStart => exact ⟨0, Nat.zero_le _, rfl, rfl⟩
    case round =>
      obtain ⟨k, hk, rfl, hall⟩ := hrel
      by_cases hlt : k < s.size
      · have hts := take_snoc s k hlt
        have hbad : ((s[k].toNat : Int) < 33 ∨ 126 < (s[k].toNat : Int)) → isNameB s.data.toList = false := fun hx => by
          have h1 : s.data.toList.all N.isSign = false := by
            refine all_of_take (k := k + 1) ?_
            rw [hts, List.all_append, hall]
            have : N.isSign s[k] = false := by
              unfold N.isSign
              rw [Bool.and_eq_false_iff, decide_eq_false_iff_not, decide_eq_false_iff_not]
              omega
            simp [this]
          unfold isNameB
          rw [h1]
          rfl
        have hgood : (33 ≤ (s[k].toNat : Int) ∧ (s[k].toNat : Int) ≤ 126) → (s.data.toList.take (k + 1)).all N.isSign = true := fun hx => by
          rw [hts, List.all_append, hall]
          have : N.isSign s[k] = true := by
            unfold N.isSign
            rw [Bool.and_eq_true, decide_eq_true_eq, decide_eq_true_eq]
            omega
          simp [this]
        have Hbad := hide hbad
        have Hgood := hide hgood
        clear hall hts hbad hgood
        go_wp2
        all_goals first
          | (go_ret; exact ⟨ret_bool (unhide Hbad (by omega)).symm, rfl⟩)
          | exact ⟨⟨k + 1, by omega, by go_num, unhide Hgood (by omega)⟩, by simp [intV]; omega⟩
      · have hks : s.data.toList.take k = s.data.toList := List.take_of_length_le (by rw [← unhide HS]; omega)
        rw [hks] at hall
        have hfin : isNameB s.data.toList = !(L.number s.data.toList).isSome := by
          unfold isNameB
          have : decide (s.data.toList.length ≤ 12) = true := by rw [decide_eq_true_eq, ← unhide HS]; omega
          rw [hall, this]
          simp
        have Hfin := hide hfin
        clear hall hks hfin
        go_wp2_with fail
        refine (number_any s _).mono ?_
        rintro e w1 ⟨rfl, rfl⟩
        go_wp2
        go_ret
        exact ⟨ret_bool (by rw [unhide Hfin]; cases L.number s.data.toList <;> rfl), rfl⟩

set_option maxRecDepth 100000 in
set_option maxHeartbeats 1600000 in
theorem askNew_end (w : World) (rb n capW pos q : Nat) (aW : Option Addr) (hn : n ≤ 500) (hq : pos + 1 = q) (hp : q = n) (c1 : w.cell? ⟨rb, 1, none⟩ = some (.slice aW n capW)) (c2 : w.cell? ⟨rb, 2, none⟩ = some (.int .i64 pos)) :
    Calls Tryz.prog 109 #[.pointer (some ⟨rb, 0, none⟩)] w fun r w' => r = .returned (.int .i64 4) ∧ Below w.heap.size w w' := by
  have i0 : IntKind.i64.wrap ((pos : Int) + 1) = (q : Int) := by rw [IntKind.wrap_i64]; omega
  have i3 : ((q : Int) == (n : Int)) = true := by rw [beq_iff_eq]; omega
  clear hp hq
  go_enter Tryz.func109, Tryz.ntmps109
  go_wp2
  go_quiet (fail)
  go_wp2
  go_ret
  exact ⟨rfl, below_drewN (Below.refl _ _) _⟩

set_option maxRecDepth 100000 in
set_option maxHeartbeats 3200000 in
theorem askNew_walk (w : World) (mb rb n capW pos q gW k cO : Nat) (aO : Option Addr) (t : ByteArray) (nb bb : Bool) (code : Int) (hn : n ≤ 500) (hq : pos + 1 = q) (hp : q < n) (c0 : w.cell? ⟨rb, 0, none⟩ = some (.pointer (some ⟨mb, 0, none⟩))) (c1 : w.cell? ⟨rb, 1, none⟩ = some (.slice (some ⟨gW, 0, none⟩) n capW)) (c2 : w.cell? ⟨rb, 2, none⟩ = some (.int .i64 pos)) (c3 : w.cell? ⟨gW, q, none⟩ = some (.string t)) (m2 : w.cell? ⟨mb, 2, none⟩ = some (.slice aO k cO))
    (HN : Hid (∀ W, Calls Tryz.prog 123 #[.string t] W fun e w' => e = .returned (.bool nb) ∧ w' = W)) (HB : Hid (∀ W, Calls Tryz.prog 68 #[.string t] W fun e w' => e = .returned (.bool bb) ∧ w' = W))
    (hcode : code = if nb = false ∨ bb = true then 4 else if k = 40 then 5 else 0) :
    Calls Tryz.prog 109 #[.pointer (some ⟨rb, 0, none⟩)] w fun r w' => r = .returned (.int .i64 code) ∧ Below w.heap.size w w' := by
  have i0 : IntKind.i64.wrap ((pos : Int) + 1) = (q : Int) := by rw [IntKind.wrap_i64]; omega
  have i1 : (0 : Int) ≤ (q : Int) := by omega
  have i2 : (q : Int) < (n : Int) := by omega
  have i3 : ((q : Int) == (n : Int)) = false := by rw [beq_eq_false_iff_ne]; omega
  clear hq hp
  cases nb with
  | false =>
    rw [if_pos (.inl rfl)] at hcode
    subst hcode
    go_enter Tryz.func109, Tryz.ntmps109
    go_wp2
    go_quiet (fail)
    go_wp2
    go_quiet (fail)
    go_wp2_with fail
    refine (unhide HN _).mono ?_
    rintro e w1 ⟨rfl, rfl⟩
    go_wp2
    go_ret
    exact ⟨rfl, below_drewN (Below.refl _ _) _⟩
  | true =>
    cases bb with
    | true =>
      rw [if_pos (.inr rfl)] at hcode
      subst hcode
      go_enter Tryz.func109, Tryz.ntmps109
      go_wp2
      go_quiet (fail)
      go_wp2
      go_quiet (fail)
      go_wp2_with fail
      refine (unhide HN _).mono ?_
      rintro e w1 ⟨rfl, rfl⟩
      go_wp2_with fail
      refine (unhide HB _).mono ?_
      rintro e w1 ⟨rfl, rfl⟩
      go_wp2
      go_ret
      exact ⟨rfl, below_drewN (Below.refl _ _) _⟩
    | false =>
      rw [if_neg (by simp)] at hcode
      by_cases hk : k = 40
      · rw [if_pos hk] at hcode
        subst hcode
        have k1 : ((k : Int) == 40) = true := by rw [beq_iff_eq]; omega
        clear hk
        go_enter Tryz.func109, Tryz.ntmps109
        go_wp2
        go_quiet (fail)
        go_wp2
        go_quiet (fail)
        go_wp2_with fail
        refine (unhide HN _).mono ?_
        rintro e w1 ⟨rfl, rfl⟩
        go_wp2_with fail
        refine (unhide HB _).mono ?_
        rintro e w1 ⟨rfl, rfl⟩
        go_wp2
        go_ret
        exact ⟨rfl, below_drewN (Below.refl _ _) _⟩
      · rw [if_neg hk] at hcode
        subst hcode
        have k1 : ((k : Int) == 40) = false := by rw [beq_eq_false_iff_ne]; omega
        clear hk
        go_enter Tryz.func109, Tryz.ntmps109
        go_wp2
        go_quiet (fail)
        go_wp2
        go_quiet (fail)
        go_wp2_with fail
        refine (unhide HN _).mono ?_
        rintro e w1 ⟨rfl, rfl⟩
        go_wp2_with fail
        refine (unhide HB _).mono ?_
        rintro e w1 ⟨rfl, rfl⟩
        go_wp2
        go_ret
        exact ⟨rfl, below_drewN (Below.refl _ _) _⟩
end Go.Proofs.YtgnlokmeohffaaaGreatDoor
/- begin, keep: a word of one's own is begun; it is ended: the walks. -/
namespace Go.Proofs.YtgnlokmeohffaaaGreatDoor
open Go.RowKit
attribute [local go_sem ↓] Go.wp_at_zero Go.wp_at_succ

set_option maxRecDepth 100000 in
set_option maxHeartbeats 800000 in
theorem mbegin_walk (w : World) (mb : Nat) (t : ByteArray) (nb : Nat) (ht : t.size ≤ 1000) (hnb : nb ≤ 1000000000000) (c3 : w.cell? ⟨mb, 3, none⟩ = some (.int .i64 nb)) (f3 : w.frozen? ⟨mb, 3, none⟩ = false) :
    Calls Tryz.prog 124 #[.pointer (some ⟨mb, 0, none⟩), .string t] w fun r w' => r = .returned (.agg #[.string t, .int .i64 (1000 + (nb : Int))]) ∧ Below w.heap.size (w.setCell ⟨mb, 3, none⟩ (.int .i64 ((nb : Int) + 1))) w' := by
  have i0 : IntKind.i64.wrap (1000 + (nb : Int)) = 1000 + (nb : Int) := by rw [IntKind.wrap_i64]; omega
  have i1 : IntKind.i64.wrap ((nb : Int) + 1) = (nb : Int) + 1 := by rw [IntKind.wrap_i64]; omega
  have z3 : mb < w.heap.size := block_lt c3
  have d3 := cell_alloc c3 (Obj.cells #[Value.string ⟨#[]⟩, Value.int .i64 0] 127)
  have g3 : (w.alloc (Obj.cells #[Value.string ⟨#[]⟩, Value.int .i64 0] 127)).frozen? ⟨mb, 3, none⟩ = false := grown_fz (World.grownBy_alloc _ _ none) c3 f3 (by simp)
  have HCl := hide (fun W => clone_any W t (by omega))
  clear ht hnb
  go_enter Tryz.func124, Tryz.ntmps124
  go_wp2_with fail
  refine (unhide HCl _).mono ?_
  rintro e w2 ⟨rfl, hb⟩
  have hs1 : (w.setCell ⟨mb, 3, none⟩ (.int .i64 ((nb : Int) + 1))).heap.size = w.heap.size := by simp [World.setCell]
  have hnew : ((w.setCell ⟨mb, 3, none⟩ (.int .i64 ((nb : Int) + 1))).alloc (Obj.cells #[Value.string ⟨#[]⟩, Value.int .i64 0] 127)).heap[w.heap.size]? = some (Obj.cells #[Value.string ⟨#[]⟩, Value.int .i64 0] 127) := by
    rw [← hs1]
    exact heap_alloc_new _ _
  have hsz : w.heap.size < ((w.setCell ⟨mb, 3, none⟩ (.int .i64 ((nb : Int) + 1))).alloc (Obj.cells #[Value.string ⟨#[]⟩, Value.int .i64 0] 127)).heap.size := heap_lt hnew
  have hb2 := (hb.block _ hsz).trans hnew
  have b0 : w2.cell? ⟨w.heap.size, 0, none⟩ = some (.string ⟨#[]⟩) := cell_of_block hb2 rfl
  have b1 : w2.cell? ⟨w.heap.size, 1, none⟩ = some (.int .i64 0) := cell_of_block hb2 rfl
  have y0 : w2.frozen? ⟨w.heap.size, 0, none⟩ = false := frozen_of_block 0 hb2
  have y1 : w2.frozen? ⟨w.heap.size, 1, none⟩ = false := frozen_of_block 1 hb2
  have HB := hide hb
  have Hsz := hide hsz
  clear hb hnew hb2 hsz
  go_wp2
  refine bodyPost_ret (v := .agg #[.string t, .int .i64 (1000 + (nb : Int))]) (by simp [results, Tryz.results124, go_sem, b0, b1]) rfl ⟨rfl, ?_⟩
  have hb := unhide HB
  have hA : Below w.heap.size (w.setCell ⟨mb, 3, none⟩ (.int .i64 ((nb : Int) + 1))) ((w.setCell ⟨mb, 3, none⟩ (.int .i64 ((nb : Int) + 1))).alloc (Obj.cells #[Value.string ⟨#[]⟩, Value.int .i64 0] 127)) := (Below.refl _ _).alloc (by rw [hs1]; exact Nat.le_refl _) _
  have hB2 := hA.trans (hb.mono (Nat.le_of_lt (unhide Hsz)))
  exact (hB2.setCell (Nat.le_refl _) _).setCell (Nat.le_refl _) _

theorem infoOwn : ∃ i, (Tryz.prog).info? 62 = some i ∧ i.zero = some .nilIface ∧ i.size = 1 ∧ i.bytes = 16 := info_of (by kernel_rfl)

set_option maxRecDepth 100000 in
set_option maxHeartbeats 3200000 in
theorem keep_walk (w : World) (mb rb k cO : Nat) (aO : Option Addr) (xs : List Value) (T : TypeId) (v : Value) (hk : k ≤ 40) (c0 : w.cell? ⟨rb, 0, none⟩ = some (.pointer (some ⟨mb, 0, none⟩))) (m2 : w.cell? ⟨mb, 2, none⟩ = some (.slice aO k cO)) (f2 : w.frozen? ⟨mb, 2, none⟩ = false) (ho : w.ownsRow 0 62 1 (.slice aO k cO) k xs) (n1 : some rb ≠ (Value.slice aO k cO).ownBlock) (n2 : some mb ≠ (Value.slice aO k cO).ownBlock) :
    Calls Tryz.prog 112 #[.pointer (some ⟨rb, 0, none⟩), .iface T v] w fun r w' => r = .returned (.tuple #[]) ∧ ∃ W w3 v', Below w.heap.size w W ∧ W.grownBy w3 (Value.slice aO k cO).ownBlock ∧ w3.ownsRow 0 62 1 v' (k + 1) (xs ++ [.iface T v]) ∧ ((Value.slice aO k cO).ownBlock = v'.ownBlock ∨ ∀ j, v'.ownBlock = some j → w.heap.size ≤ j) ∧ w' = w3.setCell ⟨mb, 2, none⟩ v' := by
  obtain ⟨i3, hi, hz, hs, hby⟩ := infoOwn
  have hnew : (w.alloc (Obj.cells #[Value.iface T v] 62)).heap[w.heap.size]? = some (.cells #[Value.iface T v] 62) := heap_alloc_new w _
  have hb : Below w.heap.size w (w.alloc (Obj.cells #[Value.iface T v] 62)) := (Below.refl _ _).alloc (Nat.le_refl _) _
  have d0 := cell_alloc c0 (Obj.cells #[Value.iface T v] 62)
  have e2 := cell_alloc m2 (Obj.cells #[Value.iface T v] 62)
  have g2 : (w.alloc (Obj.cells #[Value.iface T v] 62)).frozen? ⟨mb, 2, none⟩ = false := grown_fz (World.grownBy_alloc _ _ none) m2 f2 (by simp)
  have HO := hide ho
  have HN := hide hnew
  have HB := hide hb
  clear ho hnew hb
  go_enter Tryz.func112, Tryz.ntmps112
  go_wp2
  go_region_law
    ((refine step_append_lies _ (by rfl) (.tmp 14) (.tmp 16) 58 (by rfl) 0 62 i3 .nilIface 1 16 Tryz.underlying58 hi hz hs hby rfl (by decide) (.slice aO k cO) k xs (by rfl) (by exact (unhide HO).alloc _) ⟨w.heap.size, 0, none⟩ 1 1 [.iface T v] (by rfl) rfl (World.news_of_block (unhide HN)) (fun u hu => by simp at hu; subst hu; rfl) (by decide) (by unfold maxLen; omega) (by omega) (Nat.zero_le _) _ rfl ?_
      intro g3 cap3 w3 hown3 hgrow3 hat3 hlt3
      have hgrow3 : (w.alloc (Obj.cells #[Value.iface T v] 62)).grownBy w3 (Value.slice aO k cO).ownBlock := ⟨hgrow3.os, hgrow3.tape, hgrow3.output, hgrow3.size, hgrow3.block⟩
      have d0 := hgrow3.cell d0 n1
      have g2 := grown_fz hgrow3 e2 g2 n2
      have e2 := hgrow3.cell e2 n2
      have G3 := hide hgrow3
      have O3 := hide hown3
      have A3 := hide hat3
      clear hgrow3 hown3 hat3))
  all_goals
    go_wp2
    go_end0
    refine ⟨rfl, _, w3, .slice (some ⟨g3, 0, none⟩) (k + 1) cap3, unhide HB, unhide G3, unhide O3, ?_, rfl⟩
    rcases unhide A3 with e | e
    · exact .inl e
    · refine .inr fun j hj => ?_
      have : g3 = j := Option.some.inj hj
      rw [← this, e]
      show w.heap.size ≤ (w.alloc _).heap.size
      simp
end Go.Proofs.YtgnlokmeohffaaaGreatDoor
/- A word of one's own is made: what lies in memory behind it. -/
namespace Go.Proofs.YtgnlokmeohffaaaGreatDoor
open Go.RowKit
attribute [local go_sem ↓] Go.wp_at_zero Go.wp_at_succ

set_option maxRecDepth 100000 in
set_option maxHeartbeats 1600000 in
theorem rbegin_walk (w : World) (mb rb n capW pos q gW : Nat) (t : ByteArray) (nb : Nat) (ht : t.size ≤ 1000) (hnb : nb ≤ 1000000000000) (hn : n ≤ 500) (hq : pos + 1 = q) (hp : q < n) (c0 : w.cell? ⟨rb, 0, none⟩ = some (.pointer (some ⟨mb, 0, none⟩))) (c1 : w.cell? ⟨rb, 1, none⟩ = some (.slice (some ⟨gW, 0, none⟩) n capW)) (c2 : w.cell? ⟨rb, 2, none⟩ = some (.int .i64 pos)) (c3 : w.cell? ⟨gW, q, none⟩ = some (.string t))
    (m3 : w.cell? ⟨mb, 3, none⟩ = some (.int .i64 nb)) (f3 : w.frozen? ⟨mb, 3, none⟩ = false) (hrm : rb ≠ mb) (hgm : gW ≠ mb) :
    Calls Tryz.prog 110 #[.pointer (some ⟨rb, 0, none⟩)] w fun r w' => r = .returned (.agg #[.string t, .int .i64 (1000 + (nb : Int))]) ∧ Below w.heap.size (w.setCell ⟨mb, 3, none⟩ (.int .i64 ((nb : Int) + 1))) w' := by
  have hr1 : rb ≠ w.heap.size := Nat.ne_of_lt (block_lt c0)
  have hg1 : gW ≠ w.heap.size := Nat.ne_of_lt (block_lt c3)
  have i0 : IntKind.i64.wrap ((pos : Int) + 1) = (q : Int) := by rw [IntKind.wrap_i64]; omega
  have i1 : (0 : Int) ≤ (q : Int) := by omega
  have i2 : (q : Int) < (n : Int) := by omega
  have d0 := cell_alloc c0 (Obj.cells #[Value.string ⟨#[]⟩, Value.int .i64 0] 127)
  have d1 := cell_alloc c1 (Obj.cells #[Value.string ⟨#[]⟩, Value.int .i64 0] 127)
  have d2 := cell_alloc c2 (Obj.cells #[Value.string ⟨#[]⟩, Value.int .i64 0] 127)
  have d3 := cell_alloc c3 (Obj.cells #[Value.string ⟨#[]⟩, Value.int .i64 0] 127)
  have e3 := cell_alloc m3 (Obj.cells #[Value.string ⟨#[]⟩, Value.int .i64 0] 127)
  have g3 : (w.alloc (Obj.cells #[Value.string ⟨#[]⟩, Value.int .i64 0] 127)).frozen? ⟨mb, 3, none⟩ = false := grown_fz (World.grownBy_alloc _ _ none) m3 f3 (by simp)
  have hnewb : (w.alloc (Obj.cells #[Value.string ⟨#[]⟩, Value.int .i64 0] 127)).heap[w.heap.size]? = some (Obj.cells #[Value.string ⟨#[]⟩, Value.int .i64 0] 127) := heap_alloc_new w _
  have hbel : Below w.heap.size w (w.alloc (Obj.cells #[Value.string ⟨#[]⟩, Value.int .i64 0] 127)) := (Below.refl _ _).alloc (Nat.le_refl _) _
  have hmlt := block_lt m3
  obtain ⟨csm, tym, frm, hmb⟩ : ∃ cs ty fr, w.heap[mb]? = some (.cells cs ty fr) := by
    cases hh : w.heap[mb]? with
    | none => simp [World.cell?, hh] at m3
    | some o =>
      cases o with
      | cells cs ty fr => exact ⟨cs, ty, fr, rfl⟩
      | _ => simp [World.cell?, hh] at m3
  generalize hW : (w.alloc (Obj.cells #[Value.string ⟨#[]⟩, Value.int .i64 0] 127)) = w1 at *
  have HM := hide (mbegin_walk w1.drew mb t nb ht hnb e3 g3)
  have z0 := block_lt d0
  have z3 := block_lt d3
  have zr := heap_lt hnewb
  have Hn := hide hnewb
  have Hb := hide hbel
  have Hm := hide hmb
  clear hnewb hbel hmb ht hnb hp hq c0 c1 c2 c3 m3
  go_enter Tryz.func110, Tryz.ntmps110
  go_wp2
  clear hW
  go_region_held3 (fun w' => w'.cell? ⟨rb, 0, none⟩ = some (.pointer (some ⟨mb, 0, none⟩)) ∧ w'.cell? ⟨rb, 1, none⟩ = some (.slice (some ⟨gW, 0, none⟩) n capW) ∧ w'.cell? ⟨rb, 2, none⟩ = some (.int .i64 pos) ∧ w'.cell? ⟨gW, q, none⟩ = some (.string t)) (first | exact ⟨d0, d1, d2, d3⟩ | exact (by assumption) | exact ⟨cell_set_far (cell_set_far d0 hr1) hr1, cell_set_far (cell_set_far d1 hr1) hr1, cell_set_far (cell_set_far d2 hr1) hr1, cell_set_far (cell_set_far d3 hg1) hg1⟩ | go_keep)
    ((go_at_call 124; refine (unhide HM).mono ?_
      rintro e w2 ⟨rfl, hb2⟩
      have hs1 : (w1.setCell ⟨mb, 3, none⟩ (.int .i64 ((nb : Int) + 1))).heap.size = w1.heap.size := by simp [World.setCell]
      have d0 : w2.cell? ⟨rb, 0, none⟩ = some (.pointer (some ⟨mb, 0, none⟩)) := by rw [hb2.cell (p := ⟨rb, 0, none⟩) z0]; exact cell_set_far d0 hrm
      have d1 : w2.cell? ⟨rb, 1, none⟩ = some (.slice (some ⟨gW, 0, none⟩) n capW) := by rw [hb2.cell (p := ⟨rb, 1, none⟩) z0]; exact cell_set_far d1 hrm
      have d2 : w2.cell? ⟨rb, 2, none⟩ = some (.int .i64 pos) := by rw [hb2.cell (p := ⟨rb, 2, none⟩) z0]; exact cell_set_far d2 hrm
      have d3 : w2.cell? ⟨gW, q, none⟩ = some (.string t) := by rw [hb2.cell (p := ⟨gW, q, none⟩) z3]; exact cell_set_far d3 hgm
      have hbk : w2.heap[w.heap.size]? = some (Obj.cells #[Value.string ⟨#[]⟩, Value.int .i64 0] 127) := (hb2.block _ zr).trans ((Below.heap_setCell _ _ _ _ (show w.heap.size ≠ mb by omega)).trans (unhide Hn))
      have b0 : w2.cell? ⟨w.heap.size, 0, none⟩ = some (.string ⟨#[]⟩) := cell_of_block hbk rfl
      have b1 : w2.cell? ⟨w.heap.size, 1, none⟩ = some (.int .i64 0) := cell_of_block hbk rfl
      have y0 : w2.frozen? ⟨w.heap.size, 0, none⟩ = false := frozen_of_block 0 hbk
      have y1 : w2.frozen? ⟨w.heap.size, 1, none⟩ = false := frozen_of_block 1 hbk
      have HB2 := hide hb2
      clear hb2 hbk))
  go_wp2
  refine bodyPost_ret (v := .agg #[.string t, .int .i64 (1000 + (nb : Int))]) (by simp [results, Tryz.results110, go_sem, b0, b1]) rfl ⟨rfl, ?_⟩
  have hb := unhide Hb
  have hA : Below w.heap.size (w.setCell ⟨mb, 3, none⟩ (.int .i64 ((nb : Int) + 1))) (w1.drew.setCell ⟨mb, 3, none⟩ (.int .i64 ((nb : Int) + 1))) := by
    refine ⟨hb.os, hb.tape, hb.output, by have := hb.size; simpa [World.setCell] using this, fun k hk => ?_⟩
    by_cases hkm : k = mb
    · subst hkm
      rw [set_block (unhide Hm) 3 _]
      exact set_block ((hb.block k hk).trans (unhide Hm)) 3 _
    · exact (Below.heap_setCell _ _ _ _ hkm).trans ((hb.block k hk).trans (Below.heap_setCell _ _ _ _ hkm).symm)
  have hB2 := hA.trans ((unhide HB2).mono (show w.heap.size ≤ w1.drew.heap.size from hb.size))
  exact (hB2.setCell (Nat.le_refl _) _).setCell (Nat.le_refl _) _
end Go.Proofs.YtgnlokmeohffaaaGreatDoor
/- One more word of one's own in memory. -/
namespace Go.Proofs.YtgnlokmeohffaaaGreatDoor
open Go.RowKit

theorem cellVal_app {all : List N.Ent} {wv : List Own} {j : Nat} {c : N.Cell} (o : Own) (g : Nat) (hl : wv.length = all.length) (hc : cellOk all j c) : cellVal (wv ++ [o]) (c, g) = cellVal wv (c, g) := by
  unfold cellVal
  simp only
  by_cases h1 : c.kind = 1
  · rw [if_pos h1, if_pos h1]
  · rw [if_neg h1, if_neg h1]
    by_cases h2 : c.kind = 2
    · rw [if_pos h2, if_pos h2]
      rcases hc with h | ⟨_, k, e, hn, _, he, _⟩ | h | h
      · exact (h1 h.1).elim
      · have hk : c.n.toNat = k := by omega
        have hlt := (List.getElem?_eq_some_iff.1 he).1
        rw [hk, List.getElem?_append_left (by omega)]
      · omega
      · omega
    · rw [if_neg h2, if_neg h2]

theorem listed_snoc (e : N.Ent) (o : Own) : ∀ (all : List N.Ent) (wv : List Own), wv.length = all.length → listed (all ++ [e]) (wv ++ [o]) = listed all wv ++ if N.there e then [ownVal o] else []
  | [], [], _ => by
    unfold listed
    cases h : N.there e <;> simp [h]
  | [], _ :: _, h => by simp at h
  | _ :: _, [], h => by simp at h
  | a :: t, b :: u, h => by
    have ih := listed_snoc e o t u (by simpa using h)
    unfold listed at ih ⊢
    rw [List.cons_append, List.cons_append, List.zip_cons_cons, List.zip_cons_cons, List.filter_cons, List.filter_cons]
    simp only
    split
    · rw [List.map_cons, ih, List.map_cons, List.cons_append]
    · exact ih

theorem cellOk_app {all : List N.Ent} {j : Nat} {c : N.Cell} (e : N.Ent) (h : cellOk all j c) : cellOk (all ++ [e]) j c := by
  rcases h with h | ⟨h1, k, x, h2, h3, h4, h5⟩ | h | h
  · exact .inl h
  · exact .inr (.inl ⟨h1, k, x, h2, h3, by rw [List.getElem?_append_left (List.getElem?_eq_some_iff.1 h4).1]; exact h4, h5⟩)
  · exact .inr (.inr (.inl h))
  · exact .inr (.inr (.inr h))

theorem EntAt.app {w : World} {all : List N.Ent} {wv : List Own} {j : Nat} {e : N.Ent} {x : Own} (o : Own) (hl : wv.length = all.length) (hok : ∀ c ∈ e.body, cellOk all j c) (h : EntAt w wv j e x) : EntAt w (wv ++ [o]) j e x := by
  cases x with
  | defn b =>
    obtain ⟨h0, vB, body, h1, h2, h3, h4⟩ := h
    refine ⟨h0, vB, body, h1, ?_, h3, h4⟩
    have : body.map (cellVal (wv ++ [o])) = body.map (cellVal wv) := by
      apply List.map_congr_left
      intro y hy
      obtain ⟨c, g⟩ := y
      exact cellVal_app o g hl (hok c (by rw [← h3]; exact List.mem_map_of_mem (f := (·.1)) hy))
    rw [this]
    exact h2
  | vari b => exact h
  | cons nm t n => exact h
  | mark nm t => exact h

/-- One more. -/
theorem OwnAt.more {w w' : World} {all : List N.Ent} {wv : List Own} {vO vB vO' : Value} (h : OwnAt w all wv vO vB) (e : N.Ent) (o : Own) (hk : ∀ k, OBlock w k → vO.ownBlock ≠ some k → w'.heap[k]? = w.heap[k]?)
    (hrow : w'.ownsRow 0 62 1 vO' (listed all wv ++ if N.there e then [ownVal o] else []).length (listed all wv ++ if N.there e then [ownVal o] else [])) (hent : e.ended = true → EntAt w' (wv ++ [o]) all.length e o) (hok : e.ended = true → ∀ c ∈ e.body, cellOk all all.length c)
    (hfew : (listed all wv ++ if N.there e then [ownVal o] else []).length ≤ 40) (hvar : ∀ b, o = .vari b → e.ended = true ∧ ∀ j : Nat, wv[j]? ≠ some (.vari b)) (hold : all.length + 1 ≤ 1000000000000) : OwnAt w' (all ++ [e]) (wv ++ [o]) vO' (.int .i64 ((all.length : Int) + 1)) := by
  have hl := h.len
  have hls := listed_snoc e o all wv hl
  have notrow : ∀ k cs t fr, w.heap[k]? = some (.cells cs t fr) → t ≠ 62 → vO.ownBlock ≠ some k := fun k cs t fr hk ht => own_ne_of_type h.row hk ht
  refine ⟨by simp [hl], by simp, ?_, ?_, ?_, ?_, ?_, by simpa using hold, ?_⟩
  · rw [hls]; exact hrow
  · intro j e' x hj hx hen
    rcases N.snoc_get hj with hj | ⟨hj2, rfl⟩
    · have hjl := (List.getElem?_eq_some_iff.1 hj).1
      have hx : wv[j]? = some x := by rwa [List.getElem?_append_left (by omega)] at hx
      have hE := h.ent j e' x hj hx hen
      refine EntAt.app o hl (h.ok j e' hj hen) ?_
      cases x with
      | defn b =>
        obtain ⟨h0, vD, body, h1, h2, h3⟩ := hE
        exact ⟨h0, vD, body, (hk b ⟨_, _, _, h1, .inl rfl⟩ (notrow b _ _ _ h1 (by decide))).trans h1, owns_kept h2 fun k e => by
          obtain ⟨cur, hc⟩ := owns_block h2 e
          exact hk k ⟨_, _, _, hc, .inr (.inr (.inl rfl))⟩ (notrow k _ _ _ hc (by decide)), h3⟩
      | vari b => exact ⟨hE.1, hE.2.1, (hk b ⟨_, _, _, hE.2.2, .inr (.inl rfl)⟩ (notrow b _ _ _ hE.2.2 (by decide))).trans hE.2.2⟩
      | cons nm t n => exact hE
      | mark nm t => exact hE
    · clear hj
      subst hj2
      have hx : x = o := by
        rw [← hl, List.getElem?_append_right (Nat.le_refl _), Nat.sub_self] at hx
        simpa using hx.symm
      subst hx
      exact hent hen
  · intro j e' hj hen c hc
    rcases N.snoc_get hj with hj | ⟨hj2, rfl⟩
    · exact cellOk_app e (h.ok j e' hj hen c hc)
    · clear hj
      subst hj2
      exact cellOk_app _ (hok hen c hc)
  · rw [hls]; exact hfew
  · intro i j b hi hj
    rcases N.snoc_get hi with hi | ⟨hi, hio⟩ <;> rcases N.snoc_get hj with hj | ⟨hj, hjo⟩
    · exact h.apart i j b hi hj
    · exact ((hvar b hjo.symm).2 i hi).elim
    · exact ((hvar b hio.symm).2 j hj).elim
    · omega
  · intro j b hj
    rcases N.snoc_get hj with hj | ⟨hj, hjo⟩
    · obtain ⟨x, hx, hen⟩ := h.und j b hj
      exact ⟨x, by rw [List.getElem?_append_left (List.getElem?_eq_some_iff.1 hx).1]; exact hx, hen⟩
    · refine ⟨e, ?_, (hvar b hjo.symm).1⟩
      rw [hj, hl, List.getElem?_append_right (Nat.le_refl _), Nat.sub_self]
      rfl

/-- A line goes on to where the document's machine does; p: the word of the line at which it stands. -/
def GoesL (mb rb : Nat) (vO vW vS vR vT : Value) (wv : List Own) (s : L.RunS) (m : N.Mach) (code : Int) (p : Nat) (w w' : World) : Prop :=
  ∃ vO' vB' v1 v2 v3 wv' s', RunAt w' mb rb vO' vB' vW v1 v2 v3 s' ∧ OwnAt w' m.all wv' vO' vB' ∧ Mv (FootN mb rb vO vS vR vT wv) w w' ∧ Fresh w (FootN mb rb vO vS vR vT wv) (FootN mb rb vO' v1 v2 v3 wv') ∧
    s'.words = s.words ∧ s'.pos = p ∧ s'.depth = s.depth ∧ s'.out = m.out ∧ (code = 0 → s'.S = m.S ∧ s'.R = m.R ∧ s'.steps = m.steps)

theorem GoesL.of_goesN {mb rb : Nat} {vO vB vW vS vR vT : Value} {wv : List Own} {s : L.RunS} {m : N.Mach} {code : Int} {w w' : World} (h : GoesN mb rb vO vB vW vS vR vT wv s m code w w') : GoesL mb rb vO vW vS vR vT wv s m code s.pos w w' := by
  obtain ⟨vO', v1, v2, v3, s', h1, h2, h3, h4, h5⟩ := h
  exact ⟨vO', vB, v1, v2, v3, wv, s', h1, h2, h3, h4, h5⟩
theorem GoesL.after {mb rb : Nat} {vO vW vS vR vT : Value} {wv : List Own} {s : L.RunS} {m : N.Mach} {code : Int} {p : Nat} {w W w' : World} (hb : Below w.heap.size w W) (h : GoesL mb rb vO vW vS vR vT wv s m code p W w') : GoesL mb rb vO vW vS vR vT wv s m code p w w' := by
  obtain ⟨vO', vB', v1, v2, v3, wv', s', h1, h2, h3, h4, h5⟩ := h
  exact ⟨vO', vB', v1, v2, v3, wv', s', h1, h2, (Mv.of_below hb _).trans (Fresh.refl _ _) h3, (Fresh.refl _ _).trans hb.size h4, h5⟩
end Go.Proofs.YtgnlokmeohffaaaGreatDoor
/- askNewName, at whatever run: the name's error. -/
namespace Go.Proofs.YtgnlokmeohffaaaGreatDoor
open Go.RowKit

theorem listed_count : ∀ (all : List N.Ent) (wv : List Own), wv.length = all.length → (listed all wv).length = (all.filter N.there).length
  | [], [], _ => rfl
  | [], _ :: _, h => by simp at h
  | _ :: _, [], h => by simp at h
  | a :: t, b :: u, h => by
    have ih := listed_count t u (by simpa using h)
    unfold listed at ih ⊢
    rw [List.zip_cons_cons, List.filter_cons, List.filter_cons]
    simp only
    split
    · rw [List.map_cons, List.length_cons, List.length_cons, ih]
    · exact ih

theorem nameErr_eq (m : N.Mach) (t : List UInt8) (k : Nat) (hk : k = N.count m) (h40 : k ≤ 40) : N.nameErr m (some t) true = if isNameB t = false ∨ L.isBold t = true then 4 else if k = 40 then 5 else 0 := by
  unfold N.nameErr isNameB N.nameFits
  simp only [Bool.true_and, true_and]
  rw [← hk]
  have hk5 : (if 40 ≤ k then (5 : Int) else 0) = if k = 40 then 5 else 0 := by
    by_cases h : k = 40
    · rw [if_pos h, if_pos (by omega)]
    · rw [if_neg h, if_neg (by omega)]
  rw [hk5]
  generalize (if k = 40 then (5 : Int) else 0) = z
  cases L.isBold t <;> cases t.all N.isSign <;> cases decide (t.length ≤ 12) <;> cases (L.number t).isSome <;> simp

/-- A run has its words; none is empty. -/
def WordsOk (s : L.RunS) : Prop := ∀ t ∈ s.words, t ≠ [] ∧ t.length ≤ 500

theorem askNew_any (w : World) (mb rb : Nat) (vO vB vW vS vR vT : Value) (wv : List Own) (s : L.RunS) (all : List N.Ent) (m : N.Mach) (hm : m.all = all) (hr : RunAt w mb rb vO vB vW vS vR vT s) (ho : OwnAt w all wv vO vB) (hp : s.pos < s.words.length) (hw : WordsOk s) :
    Calls Tryz.prog 109 #[.pointer (some ⟨rb, 0, none⟩)] w fun r w' => r = .returned (.int .i64 (N.nameErr m s.words[s.pos + 1]? true)) ∧ Below w.heap.size w w' := by
  have c0 : w.cell? ⟨rb, 0, none⟩ = some (.pointer (some ⟨mb, 0, none⟩)) := cell_of_block hr.r rfl
  have c1 : w.cell? ⟨rb, 1, none⟩ = some vW := cell_of_block hr.r rfl
  have c2 : w.cell? ⟨rb, 2, none⟩ = some (.int .i64 s.pos) := cell_of_block hr.r rfl
  have m2 : w.cell? ⟨mb, 2, none⟩ = some vO := cell_of_block hr.m rfl
  rcases owns_cases hr.wd with ⟨_, h0, _⟩ | ⟨gW, capW, rfl, _⟩
  · omega
  by_cases hlt : s.pos + 1 < s.words.length
  · obtain ⟨t, ht⟩ : ∃ t, s.words[s.pos + 1]? = some t := ⟨_, List.getElem?_eq_getElem hlt⟩
    have c3 : w.cell? ⟨gW, s.pos + 1, none⟩ = some (.string ⟨t.toArray⟩) := by
      have := hr.wd.cells (g := gW) rfl (s.pos + 1) (wordCell t) (by rw [List.getElem?_map, ht]; rfl)
      rwa [add_lit, Nat.zero_add] at this
    obtain ⟨hne, hlen⟩ := hw t (List.mem_of_getElem? ht)
    have hsz := word_small hr t (by omega)
    obtain ⟨aO, cO, hvO, _, _⟩ := owns_slice ho.row
    rw [ht]
    have hN : ∀ W, Calls Tryz.prog 123 #[.string ⟨t.toArray⟩] W fun e w' => e = .returned (.bool (isNameB t)) ∧ w' = W := fun W => by
      have := isName_any ⟨t.toArray⟩ W hsz (by simpa using hne)
      simpa using this
    have hB : ∀ W, Calls Tryz.prog 68 #[.string ⟨t.toArray⟩] W fun e w' => e = .returned (.bool (L.isBold t)) ∧ w' = W := fun W => by
      have := isBold_any ⟨t.toArray⟩ W
      rw [Go.ByteArray.toList_eq] at this
      exact this
    rw [hvO] at m2
    refine askNew_walk w mb rb s.words.length capW s.pos (s.pos + 1) gW _ cO aO ⟨t.toArray⟩ _ _ _ hr.wl rfl hlt c0 c1 c2 c3 m2 (hide hN) (hide hB) (nameErr_eq m t _ ?_ ho.few)
    rw [listed_count all wv ho.len]
    unfold N.count
    rw [hm]
  · have hnone : s.words[s.pos + 1]? = none := List.getElem?_eq_none (by omega)
    rw [hnone]
    exact askNew_end w rb s.words.length capW s.pos (s.pos + 1) _ hr.wl rfl (by omega) c1 c2
end Go.Proofs.YtgnlokmeohffaaaGreatDoor
/- makeVariable, makeConstant, define, layToken: the walks, over what they call. -/
namespace Go.Proofs.YtgnlokmeohffaaaGreatDoor
open Go.RowKit
attribute [local go_sem ↓] Go.wp_at_zero Go.wp_at_succ

set_option maxRecDepth 100000 in
set_option maxHeartbeats 800000 in
theorem makeVar_err (w : World) (rb : Nat) (code : Int) (hc : code ≠ 0) (HA : Hid (Calls Tryz.prog 109 #[.pointer (some ⟨rb, 0, none⟩)] w fun r w' => r = .returned (.int .i64 code) ∧ Below w.heap.size w w')) :
    Calls Tryz.prog 90 #[.pointer (some ⟨rb, 0, none⟩)] w fun r w' => r = .returned (.int .i64 code) ∧ Below w.heap.size w w' := by
  have k0 : (code == 0) = false := beq_eq_false_iff_ne.2 hc
  go_enter Tryz.func90, Tryz.ntmps90
  go_wp2_with fail
  refine (unhide HA).mono ?_
  rintro e w1 ⟨rfl, hb⟩
  go_wp2
  go_ret
  exact ⟨rfl, hb⟩

set_option maxRecDepth 100000 in
set_option maxHeartbeats 1600000 in
theorem makeVar_walk (w : World) (rb pos : Nat) (t : ByteArray) (tok : Int) (Q1 Q2 : World → Prop) (hpos : pos ≤ 1000) (HA : Hid (Calls Tryz.prog 109 #[.pointer (some ⟨rb, 0, none⟩)] w fun r w' => r = .returned (.int .i64 0) ∧ Below w.heap.size w w'))
    (HG : Hid (∀ W, Below w.heap.size w W → Calls Tryz.prog 110 #[.pointer (some ⟨rb, 0, none⟩)] W fun r w' => r = .returned (.agg #[.string t, .int .i64 tok]) ∧ Q1 w'))
    (HK : Hid (∀ W, Q1 W → Calls Tryz.prog 112 #[.pointer (some ⟨rb, 0, none⟩), .iface 124 (.pointer (some ⟨W.heap.size, 0, none⟩))] (W.alloc (Obj.cells #[.string t, .int .i64 tok, .int .i64 0] 129)) fun r w' => r = .returned (.tuple #[]) ∧ Q2 w' ∧ w'.cell? ⟨rb, 2, none⟩ = some (.int .i64 pos) ∧ w'.frozen? ⟨rb, 2, none⟩ = false)) :
    Calls Tryz.prog 90 #[.pointer (some ⟨rb, 0, none⟩)] w fun r w' => r = .returned (.int .i64 0) ∧ ∃ W, Q2 W ∧ w' = W.setCell ⟨rb, 2, none⟩ (.int .i64 ((pos : Int) + 1)) := by
  have i0 : IntKind.i64.wrap ((pos : Int) + 1) = (pos : Int) + 1 := by rw [IntKind.wrap_i64]; omega
  clear hpos
  go_enter Tryz.func90, Tryz.ntmps90
  go_wp2_with fail
  refine (unhide HA).mono ?_
  rintro e w1 ⟨rfl, hb⟩
  go_wp2_with fail
  refine (unhide HG _ hb).mono ?_
  rintro e w2 ⟨rfl, hq⟩
  have HQ := hide hq
  clear hq hb
  go_wp2_with fail
  refine (unhide HK w2 (unhide HQ)).mono ?_
  rintro e w3 ⟨rfl, hq2, c2, f2⟩
  have HQ2 := hide hq2
  clear hq2
  go_wp2
  go_ret
  exact ⟨rfl, w3, unhide HQ2, rfl⟩

set_option maxRecDepth 100000 in
set_option maxHeartbeats 800000 in
theorem makeCon_err (w : World) (rb : Nat) (code : Int) (hc : code ≠ 0) (HA : Hid (Calls Tryz.prog 109 #[.pointer (some ⟨rb, 0, none⟩)] w fun r w' => r = .returned (.int .i64 code) ∧ Below w.heap.size w w')) :
    Calls Tryz.prog 91 #[.pointer (some ⟨rb, 0, none⟩)] w fun r w' => r = .returned (.int .i64 code) ∧ Below w.heap.size w w' := by
  have k0 : (code == 0) = false := beq_eq_false_iff_ne.2 hc
  go_enter Tryz.func91, Tryz.ntmps91
  go_wp2_with fail
  refine (unhide HA).mono ?_
  rintro e w1 ⟨rfl, hb⟩
  go_wp2
  go_ret
  exact ⟨rfl, hb⟩

set_option maxRecDepth 100000 in
set_option maxHeartbeats 800000 in
theorem makeCon_under (w : World) (rb : Nat) (code : Int) (hc : code ≠ 0) (Q : World → Prop) (HA : Hid (Calls Tryz.prog 109 #[.pointer (some ⟨rb, 0, none⟩)] w fun r w' => r = .returned (.int .i64 0) ∧ Below w.heap.size w w'))
    (HT : Hid (∀ W, Below w.heap.size w W → Calls Tryz.prog 114 #[.pointer (some ⟨rb, 0, none⟩), .int .i64 1] W fun r w' => ∃ v, r = .returned (.tuple #[v, .int .i64 code]) ∧ Q w')) :
    Calls Tryz.prog 91 #[.pointer (some ⟨rb, 0, none⟩)] w fun r w' => r = .returned (.int .i64 code) ∧ Q w' := by
  have k0 : (code == 0) = false := beq_eq_false_iff_ne.2 hc
  go_enter Tryz.func91, Tryz.ntmps91
  go_wp2_with fail
  refine (unhide HA).mono ?_
  rintro e w1 ⟨rfl, hb⟩
  go_wp2_with fail
  refine (unhide HT _ hb).mono ?_
  rintro e w2 ⟨v, rfl, hq⟩
  have HQ := hide hq
  clear hq hb
  go_wp2
  go_ret
  exact ⟨rfl, unhide HQ⟩

set_option maxRecDepth 100000 in
set_option maxHeartbeats 1600000 in
theorem makeCon_walk (w : World) (rb pos : Nat) (x : Int) (t : ByteArray) (tok : Int) (Q : World → Prop) (hpos : pos ≤ 1000) (HA : Hid (Calls Tryz.prog 109 #[.pointer (some ⟨rb, 0, none⟩)] w fun r w' => r = .returned (.int .i64 0) ∧ Below w.heap.size w w'))
    (HT : Hid (∀ W, Below w.heap.size w W → Calls Tryz.prog 114 #[.pointer (some ⟨rb, 0, none⟩), .int .i64 1] W fun r w1 => ∃ g off cS, r = .returned (.tuple #[.slice (some ⟨g, off, none⟩) 1 cS, .int .i64 0]) ∧ w1.cell? ⟨g, off, none⟩ = some (.int .i64 x) ∧
      Calls Tryz.prog 110 #[.pointer (some ⟨rb, 0, none⟩)] w1.drew fun r w2 => r = .returned (.agg #[.string t, .int .i64 tok]) ∧ w2.cell? ⟨g, off, none⟩ = some (.int .i64 x) ∧
        Calls Tryz.prog 112 #[.pointer (some ⟨rb, 0, none⟩), .iface 130 (.agg #[.string t, .int .i64 tok, .int .i64 x])] w2 fun r w3 => r = .returned (.tuple #[]) ∧ Q w3 ∧ w3.cell? ⟨g, off, none⟩ = some (.int .i64 x) ∧ w3.cell? ⟨rb, 2, none⟩ = some (.int .i64 pos) ∧ w3.frozen? ⟨rb, 2, none⟩ = false)) :
    Calls Tryz.prog 91 #[.pointer (some ⟨rb, 0, none⟩)] w fun r w' => r = .returned (.int .i64 0) ∧ ∃ W, Q W ∧ w' = W.setCell ⟨rb, 2, none⟩ (.int .i64 ((pos : Int) + 1)) := by
  have i0 : IntKind.i64.wrap ((pos : Int) + 1) = (pos : Int) + 1 := by rw [IntKind.wrap_i64]; omega
  clear hpos
  go_enter Tryz.func91, Tryz.ntmps91
  go_wp2_with fail
  refine (unhide HA).mono ?_
  rintro e w1 ⟨rfl, hb⟩
  go_wp2_with fail
  refine (unhide HT _ hb).mono ?_
  rintro e w2 ⟨g, off, cS, rfl, cx, hq⟩
  have HQ := hide hq
  clear hq hb
  go_wp2
  go_region_held3 (fun w' => w'.cell? ⟨g, off, none⟩ = some (.int .i64 x)) (first | exact cx | exact (by assumption) | go_keep)
    (first
      | ((go_at_call 110; refine (unhide HQ).mono ?_
          rintro e w3 ⟨rfl, cx, hq1⟩
          have HQ1 := hide hq1
          clear hq1))
      | ((go_at_call 112; refine (unhide HQ1).mono ?_
          rintro e w4 ⟨rfl, hq2, cx, c2, f2⟩
          have HQ2 := hide hq2
          clear hq2)))
  go_wp2
  go_ret
  exact ⟨rfl, w4, unhide HQ2, rfl⟩

set_option maxRecDepth 100000 in
set_option maxHeartbeats 800000 in
theorem define_err (w : World) (rb : Nat) (code : Int) (hc : code ≠ 0) (HA : Hid (Calls Tryz.prog 109 #[.pointer (some ⟨rb, 0, none⟩)] w fun r w' => r = .returned (.int .i64 code) ∧ Below w.heap.size w w')) :
    Calls Tryz.prog 88 #[.pointer (some ⟨rb, 0, none⟩)] w fun r w' => r = .returned (.int .i64 code) ∧ Below w.heap.size w w' := by
  have k0 : (code == 0) = false := beq_eq_false_iff_ne.2 hc
  go_enter Tryz.func88, Tryz.ntmps88
  go_wp2_with fail
  refine (unhide HA).mono ?_
  rintro e w1 ⟨rfl, hb⟩
  go_wp2
  go_ret
  exact ⟨rfl, hb⟩

set_option maxRecDepth 100000 in
set_option maxHeartbeats 1600000 in
theorem define_walk (w : World) (rb : Nat) (t : ByteArray) (tok : Int) (Q1 : World → Prop) (Post : Int → World → Prop) (HA : Hid (Calls Tryz.prog 109 #[.pointer (some ⟨rb, 0, none⟩)] w fun r w' => r = .returned (.int .i64 0) ∧ Below w.heap.size w w'))
    (HG : Hid (∀ W, Below w.heap.size w W → Calls Tryz.prog 110 #[.pointer (some ⟨rb, 0, none⟩)] W fun r w' => r = .returned (.agg #[.string t, .int .i64 tok]) ∧ Q1 w'))
    (HR : Hid (∀ w2, Q1 w2 → Calls Tryz.prog 111 #[.pointer (some ⟨rb, 0, none⟩)] (w2.alloc (Obj.cells #[.string t, .int .i64 tok] 127)) fun r w' => ∃ v code, r = .returned (.tuple #[v, .int .i64 code]) ∧ w'.heap[w2.heap.size]? = some (Obj.cells #[.string t, .int .i64 tok] 127) ∧ (code ≠ 0 → Post code w') ∧
      (code = 0 → ∃ aD nD cD, v = .slice aD nD cD ∧ Calls Tryz.prog 112 #[.pointer (some ⟨rb, 0, none⟩), .iface 122 (.pointer (some ⟨w'.heap.size, 0, none⟩))] (w'.alloc (Obj.cells #[.string t, .int .i64 tok, v] 180)) fun r w3 => r = .returned (.tuple #[]) ∧ Post 0 w3))) :
    Calls Tryz.prog 88 #[.pointer (some ⟨rb, 0, none⟩)] w fun r w' => ∃ code, r = .returned (.int .i64 code) ∧ Post code w' := by
  go_enter Tryz.func88, Tryz.ntmps88
  go_wp2_with fail
  refine (unhide HA).mono ?_
  rintro e w1 ⟨rfl, hb⟩
  go_wp2_with fail
  refine (unhide HG _ hb).mono ?_
  rintro e w2 ⟨rfl, hq⟩
  have HQ := hide hq
  clear hq hb
  go_wp2_with fail
  refine (unhide HR w2 (unhide HQ)).mono ?_
  rintro e w3 ⟨v, code, rfl, hcm, hE, hK⟩
  have b0 : w3.cell? ⟨w2.heap.size, 0, none⟩ = some (.string t) := cell_of_block hcm rfl
  have b1 : w3.cell? ⟨w2.heap.size, 1, none⟩ = some (.int .i64 tok) := cell_of_block hcm rfl
  clear hcm
  by_cases hc : code = 0
  · obtain ⟨aD, nD, cD, rfl, hK2⟩ := hK hc
    subst hc
    have HK := hide hK2
    clear hK hK2 hE
    go_wp2_with fail
    refine (unhide HK).mono ?_
    rintro e w4 ⟨rfl, hq2⟩
    have HQ2 := hide hq2
    clear hq2
    go_wp2
    go_ret
    exact ⟨0, rfl, unhide HQ2⟩
  · have k0 : (code == 0) = false := beq_eq_false_iff_ne.2 hc
    have HE := hide (hE hc)
    clear hE hK
    go_wp2
    go_ret
    exact ⟨code, rfl, unhide HE⟩
end Go.Proofs.YtgnlokmeohffaaaGreatDoor
/- layToken: the walks. -/
namespace Go.Proofs.YtgnlokmeohffaaaGreatDoor
open Go.RowKit
attribute [local go_sem ↓] Go.wp_at_zero Go.wp_at_succ

set_option maxRecDepth 100000 in
set_option maxHeartbeats 800000 in
theorem layToken_err (w : World) (rb : Nat) (V : Value) (code : Int) (hc : (code != 0) = true) (P : World → Prop)
    (H : Hid (Calls Tryz.prog 113 #[.pointer (some ⟨rb, 0, none⟩)] w fun r w' => r = .returned (.tuple #[V, .int .i64 code]) ∧ P w')) :
    Calls Tryz.prog 89 #[.pointer (some ⟨rb, 0, none⟩)] w fun r w' => r = .returned (.int .i64 code) ∧ P w' := by
  go_enter Tryz.func89, Tryz.ntmps89
  go_wp2_with fail
  refine (unhide H).mono ?_
  rintro e w' ⟨rfl, hP⟩
  have HP := hide hP
  clear hP
  go_wp2
  go_ret
  exact ⟨rfl, unhide HP⟩

set_option maxRecDepth 100000 in
set_option maxHeartbeats 800000 in
theorem layToken_walk (w : World) (rb pos : Nat) (T : TypeId) (v : Value) (nm : ByteArray) (tok code : Int) (P Q : World → Prop) (hpos : pos ≤ 500)
    (H : Hid (Calls Tryz.prog 113 #[.pointer (some ⟨rb, 0, none⟩)] w fun r w' => r = .returned (.tuple #[.iface T v, .int .i64 0]) ∧ (∀ F : Nat, (method (F + 1) T v "Token").run Tryz.prog w' = .ok (65, .agg #[.string nm, .int .i64 tok]) w') ∧ P w'))
    (HA : Hid (∀ w1 W, P w1 → Below w1.heap.size w1 W → Calls Tryz.prog 62 #[.pointer (some ⟨rb, 0, none⟩), .int .i64 tok] W fun r w' => r = .returned (.int .i64 code) ∧ w'.cell? ⟨rb, 2, none⟩ = some (.int .i64 pos) ∧ w'.frozen? ⟨rb, 2, none⟩ = false ∧ Q w')) :
    Calls Tryz.prog 89 #[.pointer (some ⟨rb, 0, none⟩)] w fun r w' => r = .returned (.int .i64 code) ∧ ∃ W, Q W ∧ ((code ≠ 0 ∧ w' = W) ∨ (code = 0 ∧ w' = W.setCell ⟨rb, 2, none⟩ (.int .i64 ((pos : Int) + 1)))) := by
  have i0 : IntKind.i64.wrap ((pos : Int) + 1) = (pos : Int) + 1 := by rw [IntKind.wrap_i64]; omega
  by_cases hc : code = 0
  · subst hc
    go_enter Tryz.func89, Tryz.ntmps89
    go_wp2_with fail
    refine (unhide H).mono ?_
    rintro e w1 ⟨rfl, hm, hP⟩
    have HP := hide hP
    clear hP
    go_wp2_with fail
    refine (token_any _ nm tok).mono ?_
    rintro e w2 ⟨rfl, hb⟩
    have HA2 := hide (unhide HA w1 w2 (unhide HP) hb)
    clear hb
    go_wp2_with fail
    refine (unhide HA2).mono ?_
    rintro e w3 ⟨rfl, c2, f2, hQ⟩
    have HQ := hide hQ
    clear hQ
    go_wp2
    go_ret
    exact ⟨rfl, w3, unhide HQ, by first | exact .inr ⟨rfl, rfl⟩ | exact .inr ⟨trivial, rfl⟩⟩
  · have hcb : (code != 0) = true := by rw [bne_iff_ne]; exact hc
    have Hc := hide hc
    clear hc
    go_enter Tryz.func89, Tryz.ntmps89
    go_wp2_with fail
    refine (unhide H).mono ?_
    rintro e w1 ⟨rfl, hm, hP⟩
    have HP := hide hP
    clear hP
    go_wp2_with fail
    refine (token_any _ nm tok).mono ?_
    rintro e w2 ⟨rfl, hb⟩
    have HA2 := hide (unhide HA w1 w2 (unhide HP) hb)
    clear hb
    go_wp2_with fail
    refine (unhide HA2).mono ?_
    rintro e w3 ⟨rfl, c2, f2, hQ⟩
    have HQ := hide hQ
    clear hQ
    go_wp2
    go_ret
    exact ⟨rfl, w3, unhide HQ, .inl ⟨unhide Hc, rfl⟩⟩
end Go.Proofs.YtgnlokmeohffaaaGreatDoor
