/- Parts of the proof: see the last text. -/
import Derived.Test.YtgnlokmeohffaaaGreatDoorB8
/- settle and add, at whatever body that is read and whatever word may stand there. -/
namespace Go.Proofs.YtgnlokmeohffaaaGreatDoor
open Go.RowKit
attribute [local go_sem ↓] Go.wp_at_zero Go.wp_at_succ

theorem settle_any (B : Nat) (w : World) (dd : Nat) (vD vP : Value) (pv : List Value) (wv : List Own) (d : N.Draft) (hf : N.Fine d) (hbk : N.Bulk d) (s : List UInt8) (o1 : List (List UInt8)) (hs : N.stands (N.kinds d) s = some o1) (ht : s ≠ [39]) (hlen : d.body.length < 60) (h : DraftAt B w dd vD vP pv wv ⟨d.body ++ [(⟨4, 0, s⟩, 0)], d.opens⟩) :
    Calls Tryz.prog 140 #[.pointer (some ⟨dd, 0, none⟩), .string ⟨s.toArray⟩, .int .i64 d.body.length] w fun r w' => r = .returned (.tuple #[]) ∧ ∃ vP' pv', DraftAt B w' dd vD vP' pv' wv (N.settle ⟨d.body ++ [(⟨4, 0, s⟩, 0)], d.opens⟩ s d.body.length) ∧ Below B w w' := by
  have hol := hbk.ol
  have hwait : ∀ o t, d.opens = o :: t → ∀ p ∈ o.waits, ∃ c g, (d.body ++ [((⟨4, 0, s⟩ : N.Cell), 0)])[p]? = some (c, g) ∧ c.kind = 4 := fun o t he p hp => by
    have hw := hf.good.wt
    rw [he] at hw
    obtain ⟨c, hc, hk, _⟩ := hw.1 p hp
    unfold N.cells at hc
    rw [List.getElem?_map] at hc
    obtain ⟨x, hx, he2⟩ := Option.map_eq_some_iff.1 hc
    refine ⟨c, x.2, ?_, hk⟩
    rw [List.getElem?_append_left (List.getElem?_eq_some_iff.1 hx).1, hx, ← he2]
  have hself : (d.body ++ [((⟨4, 0, s⟩ : N.Cell), 0)])[d.body.length]? = some (⟨4, 0, s⟩, 0) := by rw [List.getElem?_append_right (Nat.le_refl _), Nat.sub_self]; rfl
  have hpl : d.body.length < (d.body ++ [((⟨4, 0, s⟩ : N.Cell), 0)]).length := by simp
  unfold N.stands at hs
  by_cases h1 : (s == N.wIf || s == N.wBegin || s == N.wDo) = true
  · simp only [Bool.or_eq_true, beq_iff_eq] at h1
    rcases h1 with (rfl | rfl) | rfl
    · exact settle_if B w dd d.body.length vD vP pv wv _ h (by omega) hpl (by show d.opens.length + 1 ≤ 60; omega)
    · exact settle_begin B w dd d.body.length vD vP pv wv _ h (by omega) (by show d.opens.length + 1 ≤ 60; omega)
    · exact settle_do B w dd d.body.length vD vP pv wv _ h (by omega) hpl (by show d.opens.length + 1 ≤ 60; omega)
  rw [if_neg h1] at hs
  by_cases h2 : (s == N.wElse) = true
  · rw [if_pos h2] at hs
    rw [beq_iff_eq] at h2
    subst h2
    obtain ⟨o, t, he, hany, rfl⟩ := N.turns_some hs
    have hw := hwait o t he
    rw [he] at h ⊢
    exact settle_else B w dd d.body.length vD vP pv wv _ o t h hw (by omega) hpl
  rw [if_neg h2] at hs
  by_cases h3 : (s == N.wThen) = true
  · rw [if_pos h3] at hs
    rw [beq_iff_eq] at h3
    subst h3
    obtain ⟨o, t, he, hany, rfl⟩ := N.turns_some hs
    have hw := hwait o t he
    rw [he] at h ⊢
    exact settle_then B w dd d.body.length vD vP pv wv _ o t h hw
  rw [if_neg h3] at hs
  by_cases h4 : (s == N.wUntil || s == N.wAgain) = true
  · rw [if_pos h4] at hs
    simp only [Bool.or_eq_true, beq_iff_eq] at h4
    obtain ⟨o, t, he, hany, rfl⟩ := N.turns_some hs
    have hw := hwait o t he
    rw [he] at h ⊢
    rcases h4 with rfl | rfl
    · exact settle_until B w dd d.body.length vD vP pv wv _ o t _ 0 h hw hself rfl
    · exact settle_again B w dd d.body.length vD vP pv wv _ o t _ 0 h hw hself rfl
  rw [if_neg h4] at hs
  by_cases h5 : (s == N.wWhile) = true
  · rw [if_pos h5] at hs
    rw [beq_iff_eq] at h5
    subst h5
    obtain ⟨o, t, he, hany, rfl⟩ := N.turns_some hs
    rw [he] at h ⊢
    exact settle_while B w dd d.body.length vD vP pv wv _ o t h hpl
  rw [if_neg h5] at hs
  by_cases h6 : (s == N.wRepeat) = true
  · rw [if_pos h6] at hs
    rw [beq_iff_eq] at h6
    subst h6
    obtain ⟨o, t, he, hany, rfl⟩ := N.turns_some hs
    have hw := hwait o t he
    rw [he] at h ⊢
    exact settle_repeat B w dd d.body.length vD vP pv wv _ o t _ 0 h hw hself rfl
  rw [if_neg h6] at hs
  by_cases h7 : (s == N.wLoop) = true
  · rw [if_pos h7] at hs
    rw [beq_iff_eq] at h7
    subst h7
    obtain ⟨o, t, he, hany, rfl⟩ := N.turns_some hs
    have hw := hwait o t he
    rw [he] at h ⊢
    exact settle_loop B w dd d.body.length vD vP pv wv _ o t _ 0 h hw hself rfl
  rw [if_neg h7] at hs
  have stay : ∀ w', w' = w → N.settle ⟨d.body ++ [(⟨4, 0, s⟩, 0)], d.opens⟩ s d.body.length = ⟨d.body ++ [(⟨4, 0, s⟩, 0)], d.opens⟩ → ∃ vP' pv', DraftAt B w' dd vD vP' pv' wv (N.settle ⟨d.body ++ [(⟨4, 0, s⟩, 0)], d.opens⟩ s d.body.length) ∧ Below B w w' := by
    rintro w' rfl he
    rw [he]
    exact ⟨vP, pv, h, Below.refl _ _⟩
  by_cases h8 : (s == N.wI || s == N.wLeave) = true
  · rw [if_pos h8] at hs
    by_cases hany : (N.kinds d).any (fun b => b == N.wDo) = true
    · have hdo : ∃ o ∈ d.opens, o.kind = N.wDo := by
        rw [List.any_eq_true] at hany
        obtain ⟨x, hx, he⟩ := hany
        unfold N.kinds at hx
        rw [List.mem_map] at hx
        obtain ⟨o, ho, hk⟩ := hx
        exact ⟨o, List.mem_reverse.1 ho, by rw [hk]; simpa using he⟩
      simp only [Bool.or_eq_true, beq_iff_eq] at h8
      rcases h8 with rfl | rfl
      · exact (settle_i w dd d.body.length).mono fun r w' hh => ⟨hh.1, stay w' hh.2 rfl⟩
      · exact settle_leave B w dd d.body.length vD vP pv wv _ h hdo hpl fun o ho => by
          have h1 : o.waits.length ≤ N.waitSum d.opens := N.waitSum_mem ho
          have := hbk.ws
          omega
    · rw [if_neg hany] at hs
      cases hs
  rw [if_neg h8] at hs
  by_cases h9 : (s == N.wRecurse || s == N.wExit || s == [39]) = true
  · simp only [Bool.or_eq_true, beq_iff_eq] at h9
    rcases h9 with (rfl | rfl) | rfl
    · exact (settle_recurse w dd d.body.length).mono fun r w' hh => ⟨hh.1, stay w' hh.2 rfl⟩
    · exact (settle_exit w dd d.body.length).mono fun r w' hh => ⟨hh.1, stay w' hh.2 rfl⟩
    · exact (ht rfl).elim
  · rw [if_neg h9] at hs
    cases hs

/-- A word is put at the end of the body. -/
theorem DraftAt.snoc {B : Nat} {w W w3 : World} {dd : Nat} {vD vP v' : Value} {pv : List Value} {wv : List Own} {d : N.Draft} (h : DraftAt B w dd vD vP pv wv d) (hb : Below w.heap.size w W) (x : N.Cell × Nat) (hg : W.grownBy w3 vD.ownBlock) (ho : w3.ownsRow B 107 1 v' (d.body.length + 1) (d.body.map (cellVal wv) ++ [cellVal wv x])) (hlen : d.body.length < 60) :
    DraftAt B (w3.setCell ⟨dd, 0, none⟩ v') dd v' vP pv wv ⟨d.body ++ [x], d.opens⟩ ∧ Below B w (w3.setCell ⟨dd, 0, none⟩ v') := by
  obtain ⟨n1, n2, n3, n4⟩ := h.ne_blocks
  have hltd := heap_lt h.blk
  have hBw : B ≤ w.heap.size := Nat.le_trans h.hB (Nat.le_of_lt hltd)
  have hkeep : ∀ k, k < w.heap.size → vD.ownBlock ≠ some k → k ≠ dd → (w3.setCell ⟨dd, 0, none⟩ v').heap[k]? = w.heap[k]? := fun k hk hne hd =>
    (Below.heap_setCell _ _ _ _ hd).trans ((hg.block k (Nat.lt_of_lt_of_le hk hb.size) fun e => hne e.symm).trans (hb.block k hk))
  have hdd3 : w3.heap[dd]? = some (.cells #[vD, vP] 201) := (hg.block dd (Nat.lt_of_lt_of_le hltd hb.size) fun e => n1 e.symm).trans ((hb.block dd hltd).trans h.blk)
  have hv'dd : v'.ownBlock ≠ some dd := ownz_ne ho hdd3 (by decide)
  have hbl : (d.body ++ [x]).length = d.body.length + 1 := by simp
  refine ⟨⟨h.hB, set_block hdd3 0 _, ?_, ?_, h.plen, ?_, h.apart, by show (d.body ++ [x]).length ≤ 60; omega, h.few, ?_⟩, ?_⟩
  · show World.ownsRow _ _ _ _ _ (d.body ++ [x]).length ((d.body ++ [x]).map (cellVal wv))
    rw [hbl, List.map_append]
    exact ownsz_kept ho fun k e => Below.heap_setCell _ _ _ _ (show k ≠ dd from fun e2 => hv'dd (e2 ▸ e))
  · exact ownsz_kept h.opens fun k e => hkeep k (h.opens.lt k e).2 (fun e2 => n3 k e2 e) fun e2 => n2 (e2 ▸ e)
  · intro i o u h1 h2
    have hw := h.waits i o u h1 h2
    exact ownsz_kept hw fun k e => hkeep k (hw.lt k e).2 (fun e3 => (n4 u (List.mem_of_getElem? h2)).2.1 k e3 e) fun e2 => (n4 u (List.mem_of_getElem? h2)).1 (e2 ▸ e)
  · intro o hoo
    have := h.low o hoo
    refine ⟨this.1, this.2.1, fun p hp => ?_⟩
    show p < (d.body ++ [x]).length
    have := this.2.2 p hp
    omega
  · have h1 : Below B w W := hb.mono hBw
    have h2 : Below B W w3 := ⟨hg.os, hg.tape, hg.output, hg.size, fun k hk => hg.block k (by have := h1.size; omega) fun e => by have := own_ge h.body e.symm; omega⟩
    exact (h1.trans h2).setCell h.hB _

theorem infoWord : ∃ i, (Tryz.prog).info? 107 = some i ∧ i.zero = some .nilIface ∧ i.size = 1 ∧ i.bytes = 16 := info_of (by kernel_rfl)

set_option maxRecDepth 100000 in
theorem add_full (w : World) (dd cD : Nat) (a : Option Addr) (V : Value) (e0 : w.cell? ⟨dd, 0, none⟩ = some (.slice a 60 cD)) :
    Calls Tryz.prog 135 #[.pointer (some ⟨dd, 0, none⟩), V] w fun r w' => r = .returned (.int .i64 5) ∧ w' = w := by
  go_enter Tryz.func135, Tryz.ntmps135
  go_wp2
  go_ret
  exact ⟨rfl, rfl⟩

set_option maxRecDepth 100000 in
set_option maxHeartbeats 1600000 in
theorem add_other (B : Nat) (w : World) (dd : Nat) (vD vP : Value) (pv : List Value) (wv : List Own) (d : N.Draft) (x : N.Cell × Nat) (T : TypeId) (v : Value) (hV : cellVal wv x = .iface T v) (hta : ∀ W, (Instr.typeAssert (.iface T v) 107 134 true).run Tryz.prog W = .ok (.tuple #[.string ⟨#[]⟩, .bool false]) W)
    (h : DraftAt B w dd vD vP pv wv d) (hlen : d.body.length < 60) :
    Calls Tryz.prog 135 #[.pointer (some ⟨dd, 0, none⟩), .iface T v] w fun r w' => r = .returned (.int .i64 0) ∧ ∃ vD', DraftAt B w' dd vD' vP pv wv ⟨d.body ++ [x], d.opens⟩ ∧ Below B w w' := by
  obtain ⟨i3, hi, hz, hs, hby⟩ := infoWord
  obtain ⟨aD, cD, hvD, _, _⟩ := owns_slice h.body
  subst hvD
  have hcell : w.cell? ⟨dd, 0, none⟩ = some (.slice aD d.body.length cD) := cell_of_block h.blk rfl
  have hfz : w.frozen? ⟨dd, 0, none⟩ = false := frozen_of_block 0 h.blk
  have hne : some dd ≠ (Value.slice aD d.body.length cD).ownBlock := fun e => h.ne_blocks.1 e.symm
  have hBw : B ≤ w.heap.size := Nat.le_trans h.hB (Nat.le_of_lt (heap_lt h.blk))
  have hbW : Below w.heap.size w (w.alloc (Obj.cells #[Value.iface T v] 107)) := (Below.refl _ _).alloc (Nat.le_refl _) _
  have hnew : (w.alloc (Obj.cells #[Value.iface T v] 107)).heap[w.heap.size]? = some (.cells #[Value.iface T v] 107) := heap_alloc_new w _
  have hown : (w.alloc (Obj.cells #[Value.iface T v] 107)).ownsRow B 107 1 (.slice aD d.body.length cD) d.body.length (d.body.map (cellVal wv)) := h.body.alloc _
  have e1 := cell_alloc hcell (Obj.cells #[Value.iface T v] 107)
  have f1 : (w.alloc (Obj.cells #[Value.iface T v] 107)).frozen? ⟨dd, 0, none⟩ = false := grown_fz (World.grownBy_alloc _ _ none) hcell hfz (by simp)
  have k1 : ((d.body.length : Int) == 60) = false := by rw [beq_eq_false_iff_ne]; omega
  have H := hide h
  have HO := hide hown
  have HN := hide hnew
  have HB := hide hbW
  have HV := hide hV
  clear h hown hnew hbW hfz hV
  go_enter Tryz.func135, Tryz.ntmps135
  go_wp2_with (
    at_builtin
    refine wpList_append_lies _ (by rfl) (.tmp 44) (.tmp 46) 178 (by rfl) B 107 i3 .nilIface 1 16 Tryz.underlying178 hi hz hs hby rfl (by decide) (.slice aD d.body.length cD) d.body.length (d.body.map (cellVal wv)) (by rfl) (by exact unhide HO) ⟨w.heap.size, 0, none⟩ 1 1 [.iface T v] (by rfl) rfl (World.news_of_block (unhide HN)) (fun u hu => by simp at hu; subst hu; rfl) (by decide) (by unfold maxLen; omega) (by omega) (by have := (unhide HB).size; omega) _ rfl ?_
    intro g3 cap3 w3 hown3 hgrow3 hat3 hlt3
    have e5 := hgrow3.cell e1 hne
    have f5 := grown_fz hgrow3 e1 f1 hne
    have G3 := hide hgrow3
    have O3 := hide hown3
    clear hgrow3 hown3 hat3)
  go_ret
  have hsn := (unhide H).snoc (unhide HB) x (unhide G3) (by rw [unhide HV]; exact unhide O3) hlen
  exact ⟨rfl, _, hsn.1, hsn.2⟩

theorem asb_bold (v : Value) (W : World) : (Instr.typeAssert (.iface 134 v) 107 134 true).run Tryz.prog W = .ok (.tuple #[v, .bool true]) W := by kernel_rfl

set_option maxRecDepth 100000 in
set_option maxHeartbeats 1600000 in
theorem add_bold_walk (B : Nat) (w : World) (dd : Nat) (vD vP : Value) (pv : List Value) (wv : List Own) (d : N.Draft) (s : List UInt8) (Q : World → Prop) (h : DraftAt B w dd vD vP pv wv d) (hlen : d.body.length < 60)
    (HS : Hid (∀ W vD', DraftAt B W dd vD' vP pv wv ⟨d.body ++ [(⟨4, 0, s⟩, 0)], d.opens⟩ → Below B w W → Calls Tryz.prog 140 #[.pointer (some ⟨dd, 0, none⟩), .string ⟨s.toArray⟩, .int .i64 d.body.length] W fun r w' => r = .returned (.tuple #[]) ∧ Q w')) :
    Calls Tryz.prog 135 #[.pointer (some ⟨dd, 0, none⟩), .iface 134 (.string ⟨s.toArray⟩)] w fun r w' => r = .returned (.int .i64 0) ∧ Q w' := by
  have hta := asb_bold (.string ⟨s.toArray⟩)
  obtain ⟨i3, hi, hz, hs, hby⟩ := infoWord
  obtain ⟨aD, cD, hvD, _, _⟩ := owns_slice h.body
  subst hvD
  have hcell : w.cell? ⟨dd, 0, none⟩ = some (.slice aD d.body.length cD) := cell_of_block h.blk rfl
  have hfz : w.frozen? ⟨dd, 0, none⟩ = false := frozen_of_block 0 h.blk
  have hne : some dd ≠ (Value.slice aD d.body.length cD).ownBlock := fun e => h.ne_blocks.1 e.symm
  have hBw : B ≤ w.heap.size := Nat.le_trans h.hB (Nat.le_of_lt (heap_lt h.blk))
  have hbW : Below w.heap.size w (w.alloc (Obj.cells #[Value.iface 196 (.agg #[.string ⟨s.toArray⟩, .int .i64 0])] 107)) := (Below.refl _ _).alloc (Nat.le_refl _) _
  have hnew : (w.alloc (Obj.cells #[Value.iface 196 (.agg #[.string ⟨s.toArray⟩, .int .i64 0])] 107)).heap[w.heap.size]? = some (.cells #[Value.iface 196 (.agg #[.string ⟨s.toArray⟩, .int .i64 0])] 107) := heap_alloc_new w _
  have hown : (w.alloc (Obj.cells #[Value.iface 196 (.agg #[.string ⟨s.toArray⟩, .int .i64 0])] 107)).ownsRow B 107 1 (.slice aD d.body.length cD) d.body.length (d.body.map (cellVal wv)) := h.body.alloc _
  have e1 := cell_alloc hcell (Obj.cells #[Value.iface 196 (.agg #[.string ⟨s.toArray⟩, .int .i64 0])] 107)
  have f1 : (w.alloc (Obj.cells #[Value.iface 196 (.agg #[.string ⟨s.toArray⟩, .int .i64 0])] 107)).frozen? ⟨dd, 0, none⟩ = false := grown_fz (World.grownBy_alloc _ _ none) hcell hfz (by simp)
  have k1 : ((d.body.length : Int) == 60) = false := by rw [beq_eq_false_iff_ne]; omega
  have k2 : IntKind.i64.wrap (((d.body.length + 1 : Nat) : Int) - 1) = (d.body.length : Int) := by rw [IntKind.wrap_i64]; omega
  have H := hide h
  have HO := hide hown
  have HN := hide hnew
  have HB := hide hbW
  clear h hown hnew hbW hfz
  go_enter Tryz.func135, Tryz.ntmps135
  go_wp2_with (
    at_builtin
    refine wpList_append_lies _ (by rfl) (.tmp 23) (.tmp 27) 178 (by rfl) B 107 i3 .nilIface 1 16 Tryz.underlying178 hi hz hs hby rfl (by decide) (.slice aD d.body.length cD) d.body.length (d.body.map (cellVal wv)) (by rfl) (by exact unhide HO) ⟨w.heap.size, 0, none⟩ 1 1 [.iface 196 (.agg #[.string ⟨s.toArray⟩, .int .i64 0])] (by rfl) rfl (World.news_of_block (unhide HN)) (fun u hu => by simp at hu; subst hu; rfl) (by decide) (by unfold maxLen; omega) (by omega) (by have := (unhide HB).size; omega) _ rfl ?_
    intro g3 cap3 w3 hown3 hgrow3 hat3 hlt3
    have e5 := hgrow3.cell e1 hne
    have f5 := grown_fz hgrow3 e1 f1 hne
    have G3 := hide hgrow3
    have O3 := hide hown3
    clear hgrow3 hown3 hat3)
  have hsn := (unhide H).snoc (unhide HB) (⟨4, 0, s⟩, 0) (unhide G3) (unhide O3) hlen
  refine (unhide HS _ _ hsn.1 hsn.2).mono ?_
  rintro e w4 ⟨rfl, hQ⟩
  have HQ := hide hQ
  clear hQ hsn
  go_wp2
  go_ret
  exact ⟨rfl, unhide HQ⟩

/-- A bold word is read into the body. -/
theorem add_bold_any (B : Nat) (w : World) (dd : Nat) (vD vP : Value) (pv : List Value) (wv : List Own) (d : N.Draft) (hf : N.Fine d) (hbk : N.Bulk d) (s : List UInt8) (o1 : List (List UInt8)) (hs : N.stands (N.kinds d) s = some o1) (ht : s ≠ [39]) (hlen : d.body.length < 60) (h : DraftAt B w dd vD vP pv wv d) :
    Calls Tryz.prog 135 #[.pointer (some ⟨dd, 0, none⟩), .iface 134 (.string ⟨s.toArray⟩)] w fun r w' => r = .returned (.int .i64 0) ∧ ∃ vD' vP' pv', DraftAt B w' dd vD' vP' pv' wv (N.add d ⟨4, 0, s⟩) ∧ Below B w w' := by
  refine add_bold_walk B w dd vD vP pv wv d s _ h hlen (hide fun W vD' hW hb => ?_)
  refine (settle_any B W dd vD' vP pv wv d hf hbk s o1 hs ht hlen hW).mono ?_
  rintro r w' ⟨rfl, vP', pv', hd, hb'⟩
  have hadd : N.add d ⟨4, 0, s⟩ = N.settle ⟨d.body ++ [(⟨4, 0, s⟩, 0)], d.opens⟩ s d.body.length := if_pos rfl
  rw [hadd]
  exact ⟨rfl, vD', vP', pv', hd, hb.trans hb'⟩
end Go.Proofs.YtgnlokmeohffaaaGreatDoor
/- fits: may a bold word stand here? (Written by tools/mkfits.py.) -/
namespace Go.Proofs.YtgnlokmeohffaaaGreatDoor
open Go.RowKit
attribute [local go_sem ↓] Go.wp_at_zero Go.wp_at_succ

def innerKind (d : N.Draft) : List UInt8 := match d.opens with | [] => [] | o :: _ => o.kind
theorem inner_any (B : Nat) (w : World) (dd : Nat) (vD vP : Value) (pv : List Value) (wv : List Own) (d : N.Draft) (h : DraftAt B w dd vD vP pv wv d) :
    Calls Tryz.prog 138 #[.pointer (some ⟨dd, 0, none⟩)] w fun r w' => r = .returned (.string ⟨(innerKind d).toArray⟩) ∧ Below w.heap.size w w' := by
  obtain ⟨bd, os⟩ := d
  cases os with
  | nil =>
    obtain ⟨aP, cP, hvP⟩ : ∃ a c, vP = .slice a 0 c := by
      rcases h.opens.2 with ⟨h1, h2⟩ | ⟨g, cap, cur, h1, _⟩
      · exact ⟨none, 0, h1⟩
      · exact ⟨_, _, h1⟩
    subst hvP
    exact (inner_none w dd cP aP (cell_of_block h.blk rfl)).mono fun r w' hh => ⟨hh.1, by rw [hh.2]; exact Below.refl _ _⟩
  | cons o t =>
    obtain ⟨pv', v, gP, cP, rfl, hpl, rfl, hcP, hBP, c0, _, _, _⟩ := h.last
    have hfew := h.few
    simp only [List.length_cons] at hfew
    exact (inner_some w dd gP (t.length + 1) t.length cP ⟨o.kind.toArray⟩ rfl hfew (cell_of_block h.blk rfl) c0).mono fun r w' hh => ⟨hh.1, by rw [hh.2]; exact (Below.refl _ _).drew⟩

theorem doAt_any : ∀ (t : List N.Part), (doAt (t.reverse.map (·.kind)) (t.reverse.map (·.kind)).length).isSome = (t.reverse.map (·.kind)).any fun b => b == N.wDo := by
  intro t
  have key : ∀ (ks : List (List UInt8)) n, n ≤ ks.length → (doAt ks n).isSome = (ks.take n).any fun b => b == N.wDo := by
    intro ks n
    induction n with
    | zero => intro _; rfl
    | succ n ih =>
      intro hn
      have ih := ih (by omega)
      have hstep : doAt ks (n + 1) = if ks[n]? = some N.wDo then some n else doAt ks n := rfl
      rw [List.take_succ_eq_append_getElem (by omega), List.any_append, ← ih, hstep, List.getElem?_eq_getElem (by omega)]
      by_cases hx : ks[n] = N.wDo
      · rw [if_pos (by rw [hx])]
        simp [hx]
      · have hb : (ks[n] == N.wDo) = false := by rw [beq_eq_false_iff_ne]; exact hx
        rw [if_neg (by simpa using hx), List.any_cons, List.any_nil, hb, Bool.or_false, Bool.or_false]
  have := key (t.reverse.map (·.kind)) _ (Nat.le_refl _)
  rw [List.take_length] at this
  exact this

theorem innerLoop_any (B : Nat) (w : World) (dd : Nat) (vD vP : Value) (pv : List Value) (wv : List Own) (d : N.Draft) (h : DraftAt B w dd vD vP pv wv d) :
    Calls Tryz.prog 139 #[.pointer (some ⟨dd, 0, none⟩)] w fun r w' => (if (N.kinds d).any (fun b => b == N.wDo) = true then ∃ a, r = .returned (.pointer (some a)) else r = .returned (.pointer none)) ∧ w' = w := by
  have hk : N.kinds d = d.opens.reverse.map (·.kind) := rfl
  have hda := doAt_any d.opens
  rw [← hk] at hda
  have hlen : (N.kinds d).length = d.opens.length := by rw [hk]; simp
  by_cases h0 : d.opens.length = 0
  · have hnil : d.opens = [] := List.length_eq_zero_iff.1 h0
    have hkn : N.kinds d = [] := by rw [hk, hnil]; rfl
    rw [hkn]
    rcases h.opens.2 with ⟨h1, h2⟩ | ⟨g, cap, cur, h1, _⟩
    · subst h1
      exact (innerLoop_none w dd (cell_of_block h.blk rfl)).mono fun r w' hh => ⟨hh.1, hh.2⟩
    · subst h1
      refine (innerLoop_walk w dd g cap [] (by simp) (by have := cell_of_block (j := 1) h.blk rfl; rw [this, h0]; rfl) (fun j k hj => by simp at hj)).mono fun r w' hh => ⟨hh.1, hh.2⟩
  · obtain ⟨gP, cP, hvP, hBP, _⟩ := h.opens.form (by omega)
    subst hvP
    have hcells : ∀ j k, (N.kinds d)[j]? = some k → w.cell? ⟨gP, j * 3, none⟩ = some (.string ⟨k.toArray⟩) := by
      intro j kd hj
      rw [hk, List.getElem?_map] at hj
      obtain ⟨x, hx, he⟩ := Option.map_eq_some_iff.1 hj
      have hjl := (List.getElem?_eq_some_iff.1 hx).1
      obtain ⟨u, hu⟩ : ∃ u, pv[j]? = some u := ⟨_, List.getElem?_eq_getElem (by rw [h.plen]; exact hjl)⟩
      have key : ∀ (ps : List N.Part) (vs : List Value) (i : Nat), ps[i]? = some x → vs[i]? = some u → (partCells ps vs)[i * 3]? = some (.string ⟨x.kind.toArray⟩) := by
        intro ps
        induction ps with
        | nil => intro vs i h1; simp at h1
        | cons a t ih =>
          intro vs i h1 h2
          cases vs with
          | nil => simp at h2
          | cons b u' =>
            cases i with
            | zero =>
              simp only [List.getElem?_cons_zero, Option.some.injEq] at h1
              subst h1
              rfl
            | succ i =>
              have := ih u' i (by simpa using h1) (by simpa using h2)
              unfold partCells at this ⊢
              rw [List.zip_cons_cons, List.flatMap_cons, show (i + 1) * 3 = i * 3 + 3 by omega, List.getElem?_append_right (by simp)]
              simpa using this
      have c1 := h.opens.cells (g := gP) rfl _ _ (key _ _ j hx hu)
      rw [add_lit, Nat.zero_add] at c1
      rw [← he]
      exact c1
    refine (innerLoop_walk w dd gP cP (N.kinds d) (by rw [hlen]; exact h.few) (by rw [hlen]; exact cell_of_block h.blk rfl) hcells).mono fun r w' hh => ⟨?_, hh.2⟩
    have hda2 : (doAt (N.kinds d) (N.kinds d).length).isSome = (N.kinds d).any fun b => b == N.wDo := hda
    rw [← hda2, hh.1]
    cases doAt (N.kinds d) (N.kinds d).length with
    | none => rfl
    | some k => exact ⟨_, rfl⟩

set_option maxRecDepth 100000 in
set_option maxHeartbeats 800000 in
theorem fits_colon (w : World) (dd : Nat) : Calls Tryz.prog 133 #[.pointer (some ⟨dd, 0, none⟩), .string ⟨#[58]⟩] w fun r w' => r = .returned (.bool false) ∧ w' = w := by
  go_enter Tryz.func133, Tryz.ntmps133
  go_wp2
  go_ret
  exact ⟨rfl, rfl⟩

set_option maxRecDepth 100000 in
set_option maxHeartbeats 800000 in
theorem fits_semi (w : World) (dd : Nat) : Calls Tryz.prog 133 #[.pointer (some ⟨dd, 0, none⟩), .string ⟨#[59]⟩] w fun r w' => r = .returned (.bool false) ∧ w' = w := by
  go_enter Tryz.func133, Tryz.ntmps133
  go_wp2
  go_ret
  exact ⟨rfl, rfl⟩

set_option maxRecDepth 100000 in
set_option maxHeartbeats 800000 in
theorem fits_variable (w : World) (dd : Nat) : Calls Tryz.prog 133 #[.pointer (some ⟨dd, 0, none⟩), .string ⟨#[118, 97, 114, 105, 97, 98, 108, 101]⟩] w fun r w' => r = .returned (.bool false) ∧ w' = w := by
  go_enter Tryz.func133, Tryz.ntmps133
  go_wp2
  go_ret
  exact ⟨rfl, rfl⟩

set_option maxRecDepth 100000 in
set_option maxHeartbeats 800000 in
theorem fits_constant (w : World) (dd : Nat) : Calls Tryz.prog 133 #[.pointer (some ⟨dd, 0, none⟩), .string ⟨#[99, 111, 110, 115, 116, 97, 110, 116]⟩] w fun r w' => r = .returned (.bool false) ∧ w' = w := by
  go_enter Tryz.func133, Tryz.ntmps133
  go_wp2
  go_ret
  exact ⟨rfl, rfl⟩

set_option maxRecDepth 100000 in
set_option maxHeartbeats 800000 in
theorem fits_marker (w : World) (dd : Nat) : Calls Tryz.prog 133 #[.pointer (some ⟨dd, 0, none⟩), .string ⟨#[109, 97, 114, 107, 101, 114]⟩] w fun r w' => r = .returned (.bool false) ∧ w' = w := by
  go_enter Tryz.func133, Tryz.ntmps133
  go_wp2
  go_ret
  exact ⟨rfl, rfl⟩

set_option maxRecDepth 100000 in
set_option maxHeartbeats 800000 in
theorem fits_forget (w : World) (dd : Nat) : Calls Tryz.prog 133 #[.pointer (some ⟨dd, 0, none⟩), .string ⟨#[102, 111, 114, 103, 101, 116]⟩] w fun r w' => r = .returned (.bool false) ∧ w' = w := by
  go_enter Tryz.func133, Tryz.ntmps133
  go_wp2
  go_ret
  exact ⟨rfl, rfl⟩

set_option maxRecDepth 100000 in
set_option maxHeartbeats 800000 in
theorem fits_tick (w : World) (dd : Nat) : Calls Tryz.prog 133 #[.pointer (some ⟨dd, 0, none⟩), .string ⟨#[39]⟩] w fun r w' => r = .returned (.bool true) ∧ w' = w := by
  go_enter Tryz.func133, Tryz.ntmps133
  go_wp2
  go_ret
  exact ⟨rfl, rfl⟩

set_option maxRecDepth 100000 in
set_option maxHeartbeats 800000 in
theorem fits_recurse (w : World) (dd : Nat) : Calls Tryz.prog 133 #[.pointer (some ⟨dd, 0, none⟩), .string ⟨#[114, 101, 99, 117, 114, 115, 101]⟩] w fun r w' => r = .returned (.bool true) ∧ w' = w := by
  go_enter Tryz.func133, Tryz.ntmps133
  go_wp2
  go_ret
  exact ⟨rfl, rfl⟩

set_option maxRecDepth 100000 in
set_option maxHeartbeats 800000 in
theorem fits_if (w : World) (dd : Nat) : Calls Tryz.prog 133 #[.pointer (some ⟨dd, 0, none⟩), .string ⟨#[105, 102]⟩] w fun r w' => r = .returned (.bool true) ∧ w' = w := by
  go_enter Tryz.func133, Tryz.ntmps133
  go_wp2
  go_ret
  exact ⟨rfl, rfl⟩

set_option maxRecDepth 100000 in
set_option maxHeartbeats 800000 in
theorem fits_begin (w : World) (dd : Nat) : Calls Tryz.prog 133 #[.pointer (some ⟨dd, 0, none⟩), .string ⟨#[98, 101, 103, 105, 110]⟩] w fun r w' => r = .returned (.bool true) ∧ w' = w := by
  go_enter Tryz.func133, Tryz.ntmps133
  go_wp2
  go_ret
  exact ⟨rfl, rfl⟩

set_option maxRecDepth 100000 in
set_option maxHeartbeats 800000 in
theorem fits_do (w : World) (dd : Nat) : Calls Tryz.prog 133 #[.pointer (some ⟨dd, 0, none⟩), .string ⟨#[100, 111]⟩] w fun r w' => r = .returned (.bool true) ∧ w' = w := by
  go_enter Tryz.func133, Tryz.ntmps133
  go_wp2
  go_ret
  exact ⟨rfl, rfl⟩

set_option maxRecDepth 100000 in
set_option maxHeartbeats 800000 in
theorem fits_exit (w : World) (dd : Nat) : Calls Tryz.prog 133 #[.pointer (some ⟨dd, 0, none⟩), .string ⟨#[101, 120, 105, 116]⟩] w fun r w' => r = .returned (.bool true) ∧ w' = w := by
  go_enter Tryz.func133, Tryz.ntmps133
  go_wp2
  go_ret
  exact ⟨rfl, rfl⟩

set_option maxRecDepth 100000 in
set_option maxHeartbeats 800000 in
theorem fits_else (w : World) (dd : Nat) (kd : List UInt8) (P : World → Prop) (H : Hid (Calls Tryz.prog 138 #[.pointer (some ⟨dd, 0, none⟩)] w fun r w' => r = .returned (.string ⟨kd.toArray⟩) ∧ P w')) : Calls Tryz.prog 133 #[.pointer (some ⟨dd, 0, none⟩), .string ⟨#[101, 108, 115, 101]⟩] w fun r w' => r = .returned (.bool (kd == [105, 102])) ∧ P w' := by
  cases hq : (kd == [105, 102])
  all_goals
    go_enter Tryz.func133, Tryz.ntmps133
    go_wp2_with fail
    refine (unhide H).mono ?_
    rintro e w' ⟨rfl, hP⟩
    have HP := hide hP
    clear hP
    go_wp2
    go_ret
    exact ⟨rfl, unhide HP⟩

set_option maxRecDepth 100000 in
set_option maxHeartbeats 800000 in
theorem fits_until (w : World) (dd : Nat) (kd : List UInt8) (P : World → Prop) (H : Hid (Calls Tryz.prog 138 #[.pointer (some ⟨dd, 0, none⟩)] w fun r w' => r = .returned (.string ⟨kd.toArray⟩) ∧ P w')) : Calls Tryz.prog 133 #[.pointer (some ⟨dd, 0, none⟩), .string ⟨#[117, 110, 116, 105, 108]⟩] w fun r w' => r = .returned (.bool (kd == [98, 101, 103, 105, 110])) ∧ P w' := by
  cases hq : (kd == [98, 101, 103, 105, 110])
  all_goals
    go_enter Tryz.func133, Tryz.ntmps133
    go_wp2_with fail
    refine (unhide H).mono ?_
    rintro e w' ⟨rfl, hP⟩
    have HP := hide hP
    clear hP
    go_wp2
    go_ret
    exact ⟨rfl, unhide HP⟩

set_option maxRecDepth 100000 in
set_option maxHeartbeats 800000 in
theorem fits_again (w : World) (dd : Nat) (kd : List UInt8) (P : World → Prop) (H : Hid (Calls Tryz.prog 138 #[.pointer (some ⟨dd, 0, none⟩)] w fun r w' => r = .returned (.string ⟨kd.toArray⟩) ∧ P w')) : Calls Tryz.prog 133 #[.pointer (some ⟨dd, 0, none⟩), .string ⟨#[97, 103, 97, 105, 110]⟩] w fun r w' => r = .returned (.bool (kd == [98, 101, 103, 105, 110])) ∧ P w' := by
  cases hq : (kd == [98, 101, 103, 105, 110])
  all_goals
    go_enter Tryz.func133, Tryz.ntmps133
    go_wp2_with fail
    refine (unhide H).mono ?_
    rintro e w' ⟨rfl, hP⟩
    have HP := hide hP
    clear hP
    go_wp2
    go_ret
    exact ⟨rfl, unhide HP⟩

set_option maxRecDepth 100000 in
set_option maxHeartbeats 800000 in
theorem fits_while (w : World) (dd : Nat) (kd : List UInt8) (P : World → Prop) (H : Hid (Calls Tryz.prog 138 #[.pointer (some ⟨dd, 0, none⟩)] w fun r w' => r = .returned (.string ⟨kd.toArray⟩) ∧ P w')) : Calls Tryz.prog 133 #[.pointer (some ⟨dd, 0, none⟩), .string ⟨#[119, 104, 105, 108, 101]⟩] w fun r w' => r = .returned (.bool (kd == [98, 101, 103, 105, 110])) ∧ P w' := by
  cases hq : (kd == [98, 101, 103, 105, 110])
  all_goals
    go_enter Tryz.func133, Tryz.ntmps133
    go_wp2_with fail
    refine (unhide H).mono ?_
    rintro e w' ⟨rfl, hP⟩
    have HP := hide hP
    clear hP
    go_wp2
    go_ret
    exact ⟨rfl, unhide HP⟩

set_option maxRecDepth 100000 in
set_option maxHeartbeats 800000 in
theorem fits_repeat (w : World) (dd : Nat) (kd : List UInt8) (P : World → Prop) (H : Hid (Calls Tryz.prog 138 #[.pointer (some ⟨dd, 0, none⟩)] w fun r w' => r = .returned (.string ⟨kd.toArray⟩) ∧ P w')) : Calls Tryz.prog 133 #[.pointer (some ⟨dd, 0, none⟩), .string ⟨#[114, 101, 112, 101, 97, 116]⟩] w fun r w' => r = .returned (.bool (kd == [119, 104, 105, 108, 101])) ∧ P w' := by
  cases hq : (kd == [119, 104, 105, 108, 101])
  all_goals
    go_enter Tryz.func133, Tryz.ntmps133
    go_wp2_with fail
    refine (unhide H).mono ?_
    rintro e w' ⟨rfl, hP⟩
    have HP := hide hP
    clear hP
    go_wp2
    go_ret
    exact ⟨rfl, unhide HP⟩

set_option maxRecDepth 100000 in
set_option maxHeartbeats 800000 in
theorem fits_loop (w : World) (dd : Nat) (kd : List UInt8) (P : World → Prop) (H : Hid (Calls Tryz.prog 138 #[.pointer (some ⟨dd, 0, none⟩)] w fun r w' => r = .returned (.string ⟨kd.toArray⟩) ∧ P w')) : Calls Tryz.prog 133 #[.pointer (some ⟨dd, 0, none⟩), .string ⟨#[108, 111, 111, 112]⟩] w fun r w' => r = .returned (.bool (kd == [100, 111])) ∧ P w' := by
  cases hq : (kd == [100, 111])
  all_goals
    go_enter Tryz.func133, Tryz.ntmps133
    go_wp2_with fail
    refine (unhide H).mono ?_
    rintro e w' ⟨rfl, hP⟩
    have HP := hide hP
    clear hP
    go_wp2
    go_ret
    exact ⟨rfl, unhide HP⟩

set_option maxRecDepth 100000 in
set_option maxHeartbeats 800000 in
theorem fits_then (w : World) (dd : Nat) (kd : List UInt8) (H : Hid (∀ W, Below w.heap.size w W → Calls Tryz.prog 138 #[.pointer (some ⟨dd, 0, none⟩)] W fun r w' => r = .returned (.string ⟨kd.toArray⟩) ∧ Below w.heap.size w w')) : Calls Tryz.prog 133 #[.pointer (some ⟨dd, 0, none⟩), .string ⟨#[116, 104, 101, 110]⟩] w fun r w' => r = .returned (.bool (kd == [105, 102] || kd == [101, 108, 115, 101])) ∧ Below w.heap.size w w' := by
  cases hq : (kd == [105, 102])
  · cases hq2 : (kd == [101, 108, 115, 101])
    all_goals
      go_enter Tryz.func133, Tryz.ntmps133
      go_wp2_with fail
      refine (unhide H w (Below.refl _ _)).mono ?_
      rintro e w' ⟨rfl, hP⟩
      have HP := hide hP
      clear hP
      go_wp2_with fail
      refine (unhide H w' (unhide HP)).mono ?_
      rintro e w2 ⟨rfl, hP2⟩
      have HP2 := hide hP2
      clear hP2
      go_wp2
      go_ret
      exact ⟨rfl, unhide HP2⟩
  · go_enter Tryz.func133, Tryz.ntmps133
    go_wp2_with fail
    refine (unhide H w (Below.refl _ _)).mono ?_
    rintro e w' ⟨rfl, hP⟩
    have HP := hide hP
    clear hP
    go_wp2
    go_ret
    exact ⟨rfl, unhide HP⟩

set_option maxRecDepth 100000 in
set_option maxHeartbeats 800000 in
theorem fits_i (w : World) (dd : Nat) (c : Prop) [Decidable c] (H : Hid (Calls Tryz.prog 139 #[.pointer (some ⟨dd, 0, none⟩)] w fun r w' => (if c then ∃ a, r = .returned (.pointer (some a)) else r = .returned (.pointer none)) ∧ w' = w)) : Calls Tryz.prog 133 #[.pointer (some ⟨dd, 0, none⟩), .string ⟨#[105]⟩] w fun r w' => r = .returned (.bool (decide c)) ∧ w' = w := by
  by_cases hc : c
  · simp only [if_pos hc] at H
    rw [decide_eq_true hc]
    go_enter Tryz.func133, Tryz.ntmps133
    go_wp2_with fail
    refine (unhide H).mono ?_
    rintro e w' ⟨⟨a, rfl⟩, rfl⟩
    go_wp2
    go_ret
    exact ⟨rfl, rfl⟩
  · simp only [if_neg hc] at H
    rw [decide_eq_false hc]
    go_enter Tryz.func133, Tryz.ntmps133
    go_wp2_with fail
    refine (unhide H).mono ?_
    rintro e w' ⟨rfl, rfl⟩
    go_wp2
    go_ret
    exact ⟨rfl, rfl⟩

set_option maxRecDepth 100000 in
set_option maxHeartbeats 800000 in
theorem fits_leave (w : World) (dd : Nat) (c : Prop) [Decidable c] (H : Hid (Calls Tryz.prog 139 #[.pointer (some ⟨dd, 0, none⟩)] w fun r w' => (if c then ∃ a, r = .returned (.pointer (some a)) else r = .returned (.pointer none)) ∧ w' = w)) : Calls Tryz.prog 133 #[.pointer (some ⟨dd, 0, none⟩), .string ⟨#[108, 101, 97, 118, 101]⟩] w fun r w' => r = .returned (.bool (decide c)) ∧ w' = w := by
  by_cases hc : c
  · simp only [if_pos hc] at H
    rw [decide_eq_true hc]
    go_enter Tryz.func133, Tryz.ntmps133
    go_wp2_with fail
    refine (unhide H).mono ?_
    rintro e w' ⟨⟨a, rfl⟩, rfl⟩
    go_wp2
    go_ret
    exact ⟨rfl, rfl⟩
  · simp only [if_neg hc] at H
    rw [decide_eq_false hc]
    go_enter Tryz.func133, Tryz.ntmps133
    go_wp2_with fail
    refine (unhide H).mono ?_
    rintro e w' ⟨rfl, rfl⟩
    go_wp2
    go_ret
    exact ⟨rfl, rfl⟩

end Go.Proofs.YtgnlokmeohffaaaGreatDoor
/- askOwn: the newest word of one's own with the name behind the word at hand: the walks. -/
namespace Go.Proofs.YtgnlokmeohffaaaGreatDoor
open Go.RowKit
attribute [local go_sem ↓] Go.wp_at_zero Go.wp_at_succ

set_option maxRecDepth 100000 in
set_option maxHeartbeats 1600000 in
theorem askOwn_end (w : World) (rb n capW pos q : Nat) (aW : Option Addr) (hn : n ≤ 500) (hq : pos + 1 = q) (hp : q = n) (c1 : w.cell? ⟨rb, 1, none⟩ = some (.slice aW n capW)) (c2 : w.cell? ⟨rb, 2, none⟩ = some (.int .i64 pos)) :
    Calls Tryz.prog 113 #[.pointer (some ⟨rb, 0, none⟩)] w fun r w' => r = .returned (.tuple #[.nilIface, .int .i64 4]) ∧ Below w.heap.size w w' := by
  have i0 : IntKind.i64.wrap ((pos : Int) + 1) = (q : Int) := by rw [IntKind.wrap_i64]; omega
  have i3 : ((q : Int) == (n : Int)) = true := by rw [beq_iff_eq]; omega
  clear hp hq
  go_enter Tryz.func113, Tryz.ntmps113
  go_wp2
  go_quiet (fail)
  go_wp2
  go_ret2
  exact ⟨rfl, below_drewN (Below.refl _ _) _⟩

set_option maxRecDepth 100000 in
set_option maxHeartbeats 1600000 in
theorem askOwn_bold (w : World) (rb n capW pos q gW : Nat) (t : ByteArray) (hn : n ≤ 500) (hq : pos + 1 = q) (hp : q < n) (hb : L.isBold t.data.toList = true) (c1 : w.cell? ⟨rb, 1, none⟩ = some (.slice (some ⟨gW, 0, none⟩) n capW)) (c2 : w.cell? ⟨rb, 2, none⟩ = some (.int .i64 pos)) (c3 : w.cell? ⟨gW, q, none⟩ = some (.string t)) :
    Calls Tryz.prog 113 #[.pointer (some ⟨rb, 0, none⟩)] w fun r w' => r = .returned (.tuple #[.nilIface, .int .i64 4]) ∧ Below w.heap.size w w' := by
  have i0 : IntKind.i64.wrap ((pos : Int) + 1) = (q : Int) := by rw [IntKind.wrap_i64]; omega
  have i1 : (0 : Int) ≤ (q : Int) := by omega
  have i2 : (q : Int) < (n : Int) := by omega
  have i3 : ((q : Int) == (n : Int)) = false := by rw [beq_eq_false_iff_ne]; omega
  have hbl : ∀ W, Calls Tryz.prog 68 #[.string t] W fun e w' => e = .returned (.bool true) ∧ w' = W := fun W => by
    have := isBold_any t W
    rw [Go.ByteArray.toList_eq, hb] at this
    exact this
  have HB := hide hbl
  clear hq hp hbl hb
  go_enter Tryz.func113, Tryz.ntmps113
  go_wp2
  go_region_held3 (fun w' => w'.cell? ⟨rb, 1, none⟩ = some (.slice (some ⟨gW, 0, none⟩) n capW) ∧ w'.cell? ⟨rb, 2, none⟩ = some (.int .i64 pos) ∧ w'.cell? ⟨gW, q, none⟩ = some (.string t)) (first | exact ⟨c1, c2, c3⟩ | exact (by assumption) | go_keep)
    ((go_at_call 68; refine (unhide HB _).mono ?_
      rintro e w2 ⟨rfl, rfl⟩))
  go_wp2
  go_ret2
  exact ⟨rfl, (Below.refl _ _).drew⟩

set_option maxRecDepth 100000 in
set_option maxHeartbeats 1600000 in
theorem askOwn_walk (w : World) (mb rb n capW pos q gW : Nat) (t : ByteArray) (V R : Value) (code : Int) (hn : n ≤ 500) (hq : pos + 1 = q) (hp : q < n) (hb : L.isBold t.data.toList = false) (c0 : w.cell? ⟨rb, 0, none⟩ = some (.pointer (some ⟨mb, 0, none⟩))) (c1 : w.cell? ⟨rb, 1, none⟩ = some (.slice (some ⟨gW, 0, none⟩) n capW)) (c2 : w.cell? ⟨rb, 2, none⟩ = some (.int .i64 pos)) (c3 : w.cell? ⟨gW, q, none⟩ = some (.string t))
    (hV : (V = .nilIface ∧ R = .nilIface ∧ code = 2) ∨ ∃ T v, V = .iface T v ∧ R = .iface T v ∧ code = 0)
    (HN : Hid (∀ W, Below w.heap.size w W → Calls Tryz.prog 30 #[.pointer (some ⟨mb, 0, none⟩), .string t] W fun e w' => e = .returned V ∧ Below W.heap.size W w')) :
    Calls Tryz.prog 113 #[.pointer (some ⟨rb, 0, none⟩)] w fun r w' => r = .returned (.tuple #[R, .int .i64 code]) ∧ Below w.heap.size w w' := by
  have i0 : IntKind.i64.wrap ((pos : Int) + 1) = (q : Int) := by rw [IntKind.wrap_i64]; omega
  have i1 : (0 : Int) ≤ (q : Int) := by omega
  have i2 : (q : Int) < (n : Int) := by omega
  have i3 : ((q : Int) == (n : Int)) = false := by rw [beq_eq_false_iff_ne]; omega
  have hbl : ∀ W, Calls Tryz.prog 68 #[.string t] W fun e w' => e = .returned (.bool false) ∧ w' = W := fun W => by
    have := isBold_any t W
    rw [Go.ByteArray.toList_eq, hb] at this
    exact this
  have HB := hide hbl
  have HV := hide hV
  have z0 := block_lt c0
  have z3 := block_lt c3
  clear hq hp hbl hb hV
  go_enter Tryz.func113, Tryz.ntmps113
  go_wp2
  go_region_held3 (fun w' => w'.cell? ⟨rb, 1, none⟩ = some (.slice (some ⟨gW, 0, none⟩) n capW) ∧ w'.cell? ⟨rb, 2, none⟩ = some (.int .i64 pos) ∧ w'.cell? ⟨gW, q, none⟩ = some (.string t)) (first | exact ⟨c1, c2, c3⟩ | exact (by assumption) | go_keep)
    ((go_at_call 68; refine (unhide HB _).mono ?_
      rintro e w2 ⟨rfl, rfl⟩))
  go_wp2
  go_region_held3 (fun w' => w'.cell? ⟨rb, 0, none⟩ = some (.pointer (some ⟨mb, 0, none⟩)) ∧ w'.cell? ⟨rb, 1, none⟩ = some (.slice (some ⟨gW, 0, none⟩) n capW) ∧ w'.cell? ⟨rb, 2, none⟩ = some (.int .i64 pos) ∧ w'.cell? ⟨gW, q, none⟩ = some (.string t)) (first | exact ⟨c0, c1, c2, c3⟩ | exact (by assumption) | go_keep)
    ((go_at_call 30; refine (unhide HN _ (Below.refl _ _).drew.drew).mono ?_
      rintro e w2 ⟨rfl, hb2⟩
      have c0 := ((bcell hb2).1 rb 0 z0).trans c0
      have c1 := ((bcell hb2).1 rb 1 z0).trans c1
      have c2 := ((bcell hb2).1 rb 2 z0).trans c2
      have c3 := ((bcell hb2).1 gW q z3).trans c3
      have HB2 := hide (show Below w.heap.size w w2 from (Below.refl _ _).drew.drew.trans hb2)
      clear hb2))
  rcases unhide HV with ⟨rfl, rfl, rfl⟩ | ⟨T, v, rfl, rfl, rfl⟩
  · go_wp2
    go_ret2
    exact ⟨rfl, unhide HB2⟩
  · go_wp2
    go_ret2
    exact ⟨rfl, unhide HB2⟩

/-- What asking for the name behind the word at hand comes to. -/
def asked (all : List N.Ent) (wv : List Own) (ws : List (List UInt8)) (pos : Nat) : Value × Int :=
  if N.nameErr (⟨all, [], [], [], 0⟩ : N.Mach) ws[pos + 1]? false ≠ 0 then (.nilIface, 4)
  else match N.newestOf all ((ws[pos + 1]?).getD []) all.length with
    | none => (.nilIface, 2)
    | some k => (ownAt wv (some k), 0)

theorem askOwn_any (w : World) (mb rb : Nat) (vO vB vW vS vR vT : Value) (wv : List Own) (s : L.RunS) (all : List N.Ent) (hr : RunAt w mb rb vO vB vW vS vR vT s) (ho : OwnAt w all wv vO vB) (hp : s.pos < s.words.length) :
    Calls Tryz.prog 113 #[.pointer (some ⟨rb, 0, none⟩)] w fun r w' => r = .returned (.tuple #[(asked all wv s.words s.pos).1, .int .i64 (asked all wv s.words s.pos).2]) ∧ Below w.heap.size w w' := by
  have c0 : w.cell? ⟨rb, 0, none⟩ = some (.pointer (some ⟨mb, 0, none⟩)) := cell_of_block hr.r rfl
  have c1 : w.cell? ⟨rb, 1, none⟩ = some vW := cell_of_block hr.r rfl
  have c2 : w.cell? ⟨rb, 2, none⟩ = some (.int .i64 s.pos) := cell_of_block hr.r rfl
  rcases owns_cases hr.wd with ⟨_, h0, _⟩ | ⟨gW, capW, rfl, _⟩
  · omega
  unfold asked
  by_cases hlt : s.pos + 1 < s.words.length
  · obtain ⟨t, ht⟩ : ∃ t, s.words[s.pos + 1]? = some t := ⟨_, List.getElem?_eq_getElem hlt⟩
    have c3 : w.cell? ⟨gW, s.pos + 1, none⟩ = some (.string ⟨t.toArray⟩) := by
      have := hr.wd.cells (g := gW) rfl (s.pos + 1) (wordCell t) (by rw [List.getElem?_map, ht]; rfl)
      rwa [add_lit, Nat.zero_add] at this
    rw [ht]
    by_cases hb : L.isBold t = true
    · have hne : N.nameErr (⟨all, [], [], [], 0⟩ : N.Mach) (some t) false ≠ 0 := by
        unfold N.nameErr
        simp [hb]
      rw [if_pos hne]
      exact askOwn_bold w rb s.words.length capW s.pos (s.pos + 1) gW ⟨t.toArray⟩ hr.wl rfl hlt (by simpa using hb) c1 c2 c3
    · rw [Bool.not_eq_true] at hb
      have hne : ¬ N.nameErr (⟨all, [], [], [], 0⟩ : N.Mach) (some t) false ≠ 0 := by
        unfold N.nameErr
        simp [hb]
      rw [if_neg hne]
      have hn : ∀ W, Below w.heap.size w W → Calls Tryz.prog 30 #[.pointer (some ⟨mb, 0, none⟩), .string ⟨t.toArray⟩] W fun e w' => e = .returned (ownAt wv (N.newestOf all t all.length)) ∧ Below W.heap.size W w' := fun W hbl => by
        have hm := (hr.below hbl).m
        have := newest_any W mb ⟨t.toArray⟩ all wv vO vB (cell_of_block hm rfl) (ho.below hbl)
        simpa using this
      simp only [Option.getD_some]
      cases hk : N.newestOf all t all.length with
      | none =>
        rw [hk] at hn
        exact askOwn_walk w mb rb s.words.length capW s.pos (s.pos + 1) gW ⟨t.toArray⟩ _ _ _ hr.wl rfl hlt (by simpa using hb) c0 c1 c2 c3 (.inl ⟨rfl, rfl, rfl⟩) (hide hn)
      | some k =>
        rw [hk] at hn
        obtain ⟨hkl, _⟩ := newest_lt all _ _ _ hk
        obtain ⟨o, ho2⟩ : ∃ o, wv[k]? = some o := ⟨_, List.getElem?_eq_getElem (by rw [ho.len]; exact hkl)⟩
        have hv : ownAt wv (some k) = ownVal o := by unfold ownAt; rw [Option.bind_some, ho2]; rfl
        obtain ⟨T, v, hTv⟩ := ownVal_iface o
        exact askOwn_walk w mb rb s.words.length capW s.pos (s.pos + 1) gW ⟨t.toArray⟩ _ _ _ hr.wl rfl hlt (by simpa using hb) c0 c1 c2 c3 (.inr ⟨T, v, hv.trans hTv, hv.trans hTv, rfl⟩) (hide hn)
  · have hnone : s.words[s.pos + 1]? = none := List.getElem?_eq_none (by omega)
    rw [hnone]
    have hne : N.nameErr (⟨all, [], [], [], 0⟩ : N.Mach) none false ≠ 0 := by
      show (4 : Int) ≠ 0
      decide
    rw [if_pos hne]
    exact askOwn_end w rb s.words.length capW s.pos (s.pos + 1) _ hr.wl rfl (by omega) c1 c2
end Go.Proofs.YtgnlokmeohffaaaGreatDoor
/- What a word means when it is read into a body, as the document's machine has it; readToken. -/
namespace Go.Proofs.YtgnlokmeohffaaaGreatDoor
open Go.RowKit
attribute [local go_sem ↓] Go.wp_at_zero Go.wp_at_succ

theorem isPrim_find (s : List UInt8) : N.isPrim s = (L.find s).isSome := by
  have key : ∀ (ps : List L.Prim) (ns : List (List UInt8)), (∀ b, b ∈ ns ↔ b ∈ ps.map (·.name)) → (ns.any fun b => s == b) = (ps.find? fun p => s == p.name).isSome := by
    intro ps ns h
    rw [Bool.eq_iff_iff, List.any_eq_true, List.find?_isSome]
    constructor
    · rintro ⟨b, hb, he⟩
      rw [h] at hb
      obtain ⟨p, hp, hn⟩ := List.mem_map.1 hb
      exact ⟨p, hp, by rw [hn]; exact he⟩
    · rintro ⟨p, hp, he⟩
      exact ⟨p.name, (h _).2 (List.mem_map_of_mem hp), he⟩
  exact key _ _ (by
    intro b
    constructor
    · intro hb
      simp only [N.prims, List.mem_cons, List.not_mem_nil, or_false] at hb
      simp only [L.primTab, L.reachTab, List.cons_append, List.nil_append, List.map_cons, List.map_nil, List.mem_cons, List.not_mem_nil, or_false]
      rcases hb with h | h | h | h | h | h | h | h | h | h | h | h | h | h | h | h | h | h | h | h | h | h | h | h | h | h | h <;> simp [h]
    · intro hb
      simp only [L.primTab, L.reachTab, List.cons_append, List.nil_append, List.map_cons, List.map_nil, List.mem_cons, List.not_mem_nil, or_false] at hb
      simp only [N.prims, List.mem_cons, List.not_mem_nil, or_false]
      rcases hb with h | h | h | h | h | h | h | h | h | h | h | h | h | h | h | h | h | h | h | h | h | h | h | h | h | h | h <;> simp [h])

/-- A word that is not bold, as the machine and as the program has it. -/
theorem means_cell {w : World} {all : List N.Ent} {wv : List Own} {vO vB : Value} (ho : OwnAt w all wv vO vB) (m : N.Mach) (hm : m.all = all) (l : List UInt8) (hb : L.isBold l = false) :
    match N.meaning m l with
    | none => meansVal all wv l = .nilIface
    | some c => meansVal all wv l = cellVal wv (c, 0) ∧ c.kind ≠ 4 ∧ cellOk all all.length c := by
  have e0 : meansVal all wv l = match N.newestOf all l all.length with | some k => ownAt wv (some k) | none => meansAt l := if_neg (by rw [hb]; exact Bool.false_ne_true)
  rw [e0]
  unfold N.meaning N.newest
  rw [hm]
  cases hk : N.newestOf all l all.length with
  | some k =>
    obtain ⟨hkl, e, he, _, hth⟩ := newest_lt all _ _ _ hk
    have hlt : k < wv.length := by rw [ho.len]; exact hkl
    obtain ⟨o, ho2⟩ : ∃ o, wv[k]? = some o := ⟨_, List.getElem?_eq_getElem hlt⟩
    refine ⟨?_, by show (2 : Nat) ≠ 4; decide, .inr (.inl ⟨rfl, k, e, rfl, hkl, he, there_ended hth⟩)⟩
    show optVal ((some k).bind (wv[·]?)) = ((wv[((k : Nat) : Int).toNat]?).map ownVal).getD .nilIface
    rw [Option.bind_some, Int.toNat_natCast, ho2]
    rfl
  | none =>
    simp only
    rw [isPrim_find]
    unfold meansAt
    cases hf : L.find l with
    | some p =>
      simp only [Option.isSome_some, if_true]
      refine ⟨?_, by show (3 : Nat) ≠ 4; decide, .inr (.inr (.inl ⟨rfl, by show (L.find l).isSome = true; rw [hf]; rfl⟩))⟩
      show _ = ((L.find l).map fun p => Value.iface 120 (primVal p)).getD .nilIface
      rw [hf]
      rfl
    | none =>
      simp only [Option.isSome_none, Bool.false_eq_true, if_false]
      cases hn : L.number l with
      | none => rfl
      | some n => exact ⟨rfl, by show (1 : Nat) ≠ 4; decide, .inl ⟨rfl, L.number_in hn⟩⟩

/-- Asked whether it is bold. -/
theorem asb_number (v : Value) (W : World) : (Instr.typeAssert (.iface 117 v) 107 134 true).run Tryz.prog W = .ok (.tuple #[.string ⟨#[]⟩, .bool false]) W := by kernel_rfl
theorem asb_prim (v : Value) (W : World) : (Instr.typeAssert (.iface 120 v) 107 134 true).run Tryz.prog W = .ok (.tuple #[.string ⟨#[]⟩, .bool false]) W := by kernel_rfl
theorem asb_defn (v : Value) (W : World) : (Instr.typeAssert (.iface 122 v) 107 134 true).run Tryz.prog W = .ok (.tuple #[.string ⟨#[]⟩, .bool false]) W := by kernel_rfl
theorem asb_vari (v : Value) (W : World) : (Instr.typeAssert (.iface 124 v) 107 134 true).run Tryz.prog W = .ok (.tuple #[.string ⟨#[]⟩, .bool false]) W := by kernel_rfl
theorem asb_cons (v : Value) (W : World) : (Instr.typeAssert (.iface 130 v) 107 134 true).run Tryz.prog W = .ok (.tuple #[.string ⟨#[]⟩, .bool false]) W := by kernel_rfl
theorem asb_mark (v : Value) (W : World) : (Instr.typeAssert (.iface 132 v) 107 134 true).run Tryz.prog W = .ok (.tuple #[.string ⟨#[]⟩, .bool false]) W := by kernel_rfl
theorem asb_nil (W : World) : (Instr.typeAssert .nilIface 107 134 true).run Tryz.prog W = .ok (.tuple #[.string ⟨#[]⟩, .bool false]) W := by kernel_rfl
theorem cell_not_bold {all : List N.Ent} {wv : List Own} {j : Nat} {c : N.Cell} (g : Nat) (hc : cellOk all j c) (hl : wv.length = all.length) (hk : c.kind ≠ 4) :
    ∃ T v, cellVal wv (c, g) = .iface T v ∧ ∀ W, (Instr.typeAssert (.iface T v) 107 134 true).run Tryz.prog W = .ok (.tuple #[.string ⟨#[]⟩, .bool false]) W := by
  rcases hc with ⟨h1, hin⟩ | ⟨h2, k, e, hn, _, he, hen⟩ | ⟨h3, hfind⟩ | ⟨h4, _⟩
  · exact ⟨_, _, if_pos h1, fun W => asb_number _ W⟩
  · have hnk : c.n.toNat = k := by omega
    have hlt : k < wv.length := by
      rw [hl]
      exact (List.getElem?_eq_some_iff.1 he).1
    obtain ⟨o, ho⟩ : ∃ o, wv[k]? = some o := ⟨_, List.getElem?_eq_getElem hlt⟩
    have e1 : cellVal wv (c, g) = ownVal o := by
      refine (if_neg (by show ¬ c.kind = 1; omega)).trans ((if_pos h2).trans ?_)
      show ((wv[c.n.toNat]?).map ownVal).getD .nilIface = _
      rw [hnk, ho]
      rfl
    rw [e1]
    cases o with
    | defn b => exact ⟨_, _, rfl, fun W => asb_defn _ W⟩
    | vari b => exact ⟨_, _, rfl, fun W => asb_vari _ W⟩
    | cons nm t n => exact ⟨_, _, rfl, fun W => asb_cons _ W⟩
    | mark nm t => exact ⟨_, _, rfl, fun W => asb_mark _ W⟩
  · obtain ⟨p, hp⟩ := Option.isSome_iff_exists.1 hfind
    have e1 : cellVal wv (c, g) = .iface 120 (primVal p) := by
      refine (if_neg (by show ¬ c.kind = 1; omega)).trans ((if_neg (by show ¬ c.kind = 2; omega)).trans ((if_pos h3).trans ?_))
      show ((L.find c.name).map fun p => Value.iface 120 (primVal p)).getD .nilIface = _
      rw [hp]
      rfl
    rw [e1]
    exact ⟨_, _, rfl, fun W => asb_prim _ W⟩
  · exact (hk h4).elim

set_option maxRecDepth 100000 in
set_option maxHeartbeats 800000 in
theorem readToken_err (w : World) (rb dd : Nat) (V : Value) (code : Int) (hc : (code != 0) = true) (P : World → Prop)
    (H : Hid (Calls Tryz.prog 113 #[.pointer (some ⟨rb, 0, none⟩)] w fun r w' => r = .returned (.tuple #[V, .int .i64 code]) ∧ P w')) :
    Calls Tryz.prog 134 #[.pointer (some ⟨rb, 0, none⟩), .pointer (some ⟨dd, 0, none⟩)] w fun r w' => r = .returned (.int .i64 code) ∧ P w' := by
  go_enter Tryz.func134, Tryz.ntmps134
  go_wp2_with fail
  refine (unhide H).mono ?_
  rintro e w' ⟨rfl, hP⟩
  have HP := hide hP
  clear hP
  go_wp2
  go_ret
  exact ⟨rfl, unhide HP⟩

set_option maxRecDepth 100000 in
set_option maxHeartbeats 800000 in
theorem readToken_walk (w : World) (rb dd pos : Nat) (T : TypeId) (v : Value) (nm : ByteArray) (tok code : Int) (P Q : World → Prop) (hpos : pos ≤ 500)
    (H : Hid (Calls Tryz.prog 113 #[.pointer (some ⟨rb, 0, none⟩)] w fun r w' => r = .returned (.tuple #[.iface T v, .int .i64 0]) ∧ (∀ F : Nat, (method (F + 1) T v "Token").run Tryz.prog w' = .ok (65, .agg #[.string nm, .int .i64 tok]) w') ∧ P w'))
    (HA : Hid (∀ w1 W, P w1 → Below w1.heap.size w1 W → Calls Tryz.prog 135 #[.pointer (some ⟨dd, 0, none⟩), .iface 117 (.int .i64 tok)] W fun r w' => r = .returned (.int .i64 code) ∧ w'.cell? ⟨rb, 2, none⟩ = some (.int .i64 pos) ∧ w'.frozen? ⟨rb, 2, none⟩ = false ∧ Q w')) :
    Calls Tryz.prog 134 #[.pointer (some ⟨rb, 0, none⟩), .pointer (some ⟨dd, 0, none⟩)] w fun r w' => r = .returned (.int .i64 code) ∧ ∃ W, Q W ∧ ((code ≠ 0 ∧ w' = W) ∨ (code = 0 ∧ w' = W.setCell ⟨rb, 2, none⟩ (.int .i64 ((pos : Int) + 1)))) := by
  have i0 : IntKind.i64.wrap ((pos : Int) + 1) = (pos : Int) + 1 := by rw [IntKind.wrap_i64]; omega
  by_cases hc : code = 0
  · subst hc
    go_enter Tryz.func134, Tryz.ntmps134
    go_wp2_with fail
    refine (unhide H).mono ?_
    rintro e w1 ⟨rfl, hm, hP⟩
    have HP := hide hP
    clear hP
    go_wp2_with fail
    refine (token_any _ nm tok).mono ?_
    rintro e w2 ⟨rfl, hb⟩
    have HA2 := hide (unhide HA w1 w2 (unhide HP) hb)
    clear hb
    go_wp2_with fail
    refine (unhide HA2).mono ?_
    rintro e w3 ⟨rfl, c2, f2, hQ⟩
    have HQ := hide hQ
    clear hQ
    go_wp2
    go_ret
    exact ⟨rfl, w3, unhide HQ, by first | exact .inr ⟨rfl, rfl⟩ | exact .inr ⟨trivial, rfl⟩⟩
  · have hcb : (code != 0) = true := by rw [bne_iff_ne]; exact hc
    have Hc := hide hc
    clear hc
    go_enter Tryz.func134, Tryz.ntmps134
    go_wp2_with fail
    refine (unhide H).mono ?_
    rintro e w1 ⟨rfl, hm, hP⟩
    have HP := hide hP
    clear hP
    go_wp2_with fail
    refine (token_any _ nm tok).mono ?_
    rintro e w2 ⟨rfl, hb⟩
    have HA2 := hide (unhide HA w1 w2 (unhide HP) hb)
    clear hb
    go_wp2_with fail
    refine (unhide HA2).mono ?_
    rintro e w3 ⟨rfl, c2, f2, hQ⟩
    have HQ := hide hQ
    clear hQ
    go_wp2
    go_ret
    exact ⟨rfl, w3, unhide HQ, .inl ⟨unhide Hc, rfl⟩⟩
end Go.Proofs.YtgnlokmeohffaaaGreatDoor
/- readWord: the walks. (Written by tools/mkreadword.py.) -/
namespace Go.Proofs.YtgnlokmeohffaaaGreatDoor
open Go.RowKit
attribute [local go_sem ↓] Go.wp_at_zero Go.wp_at_succ

set_option maxRecDepth 100000 in
theorem clone_any (w : World) (s : ByteArray) (hs : s.size ≤ 281474976710656) : Calls Tryz.prog 132 #[.string s] w fun e w' => e = .returned (.string s) ∧ Below w.heap.size w w' := by
  go_enter Tryz.func132, Tryz.ntmps132
  go_wp2_with fail
  refine (Tryz.stringslite_Clone s _ hs).mono ?_
  rintro e w' ⟨rfl, hb⟩
  have HB := hide hb
  clear hb
  go_wp2
  go_ret
  exact ⟨rfl, unhide HB⟩

set_option maxRecDepth 100000 in
set_option maxHeartbeats 1600000 in
theorem rw_bad (w : World) (mb rb dd gW n capW pos : Nat) (t : ByteArray) (ht : t.size ≤ 1000) (hpos : pos < n) (c0 : w.cell? ⟨rb, 0, none⟩ = some (.pointer (some ⟨mb, 0, none⟩))) (c1 : w.cell? ⟨rb, 1, none⟩ = some (.slice (some ⟨gW, 0, none⟩) n capW)) (c2 : w.cell? ⟨rb, 2, none⟩ = some (.int .i64 pos)) (c3 : w.cell? ⟨gW, pos, none⟩ = some (.string t))
    (HM : Hid (∀ W, Below w.heap.size w W → Calls Tryz.prog 53 #[.pointer (some ⟨mb, 0, none⟩), .string t] W fun r w' => r = .returned (.iface 134 (.string t)) ∧ Below W.heap.size W w'))
    (HF : Hid (∀ W, Below w.heap.size w W → Calls Tryz.prog 133 #[.pointer (some ⟨dd, 0, none⟩), .string t] W fun r w' => r = .returned (.bool false) ∧ Below W.heap.size W w')) :
    Calls Tryz.prog 125 #[.pointer (some ⟨rb, 0, none⟩), .pointer (some ⟨dd, 0, none⟩)] w fun r w' => r = .returned (.int .i64 3) ∧ Below w.heap.size w w' := by
  have hta := asb_bold (.string t)
  have k0 : (0 : Int) ≤ (pos : Int) := by omega
  have k1 : (pos : Int) < (n : Int) := by omega
  have z0 := block_lt c0
  have z3 := block_lt c3
  have HCl := hide (fun W => clone_any W t (by omega))
  clear ht hpos
  go_enter Tryz.func125, Tryz.ntmps125
  go_wp2
  go_region_held3 (fun w' => w'.cell? ⟨rb, 1, none⟩ = some (.slice (some ⟨gW, 0, none⟩) n capW) ∧ w'.cell? ⟨rb, 2, none⟩ = some (.int .i64 pos) ∧ w'.cell? ⟨gW, pos, none⟩ = some (.string t)) (first | exact ⟨c1, c2, c3⟩ | exact (by assumption) | go_keep)
    ((go_at_call 132; refine (unhide HCl _).mono ?_
      rintro e w2 ⟨rfl, hb2⟩
      have c0 := ((bcell hb2).1 rb 0 z0).trans c0
      have c1 := ((bcell hb2).1 rb 1 z0).trans c1
      have c2 := ((bcell hb2).1 rb 2 z0).trans c2
      have c3 := ((bcell hb2).1 gW pos z3).trans c3
      have HB2 := hide (show Below w.heap.size w w2 from (Below.refl _ _).drew.trans hb2)
      clear hb2))
  go_wp2_with fail
  refine (unhide HM w2 (unhide HB2)).mono ?_
  rintro e w3 ⟨rfl, hb3⟩
  have HB3 := hide (show Below w.heap.size w w3 from (unhide HB2).trans (hb3.mono (unhide HB2).size))
  clear hb3
  go_wp2_with fail
  refine (unhide HF w3 (unhide HB3)).mono ?_
  rintro e w4 ⟨rfl, hb4⟩
  have HB4 := hide (show Below w.heap.size w w4 from (unhide HB3).trans (hb4.mono (unhide HB3).size))
  clear hb4
  go_wp2
  go_ret
  exact ⟨rfl, unhide HB4⟩

set_option maxRecDepth 100000 in
set_option maxHeartbeats 1600000 in
theorem rw_tick (w : World) (mb rb dd gW n capW pos : Nat) (t : ByteArray) (ht : t.size ≤ 1000) (hpos : pos < n) (c0 : w.cell? ⟨rb, 0, none⟩ = some (.pointer (some ⟨mb, 0, none⟩))) (c1 : w.cell? ⟨rb, 1, none⟩ = some (.slice (some ⟨gW, 0, none⟩) n capW)) (c2 : w.cell? ⟨rb, 2, none⟩ = some (.int .i64 pos)) (c3 : w.cell? ⟨gW, pos, none⟩ = some (.string t)) (hq : (t.toList == [39]) = true) (code : Int) (P : World → World → Prop)
    (HM : Hid (∀ W, Below w.heap.size w W → Calls Tryz.prog 53 #[.pointer (some ⟨mb, 0, none⟩), .string t] W fun r w' => r = .returned (.iface 134 (.string t)) ∧ Below W.heap.size W w'))
    (HF : Hid (∀ W, Below w.heap.size w W → Calls Tryz.prog 133 #[.pointer (some ⟨dd, 0, none⟩), .string t] W fun r w' => r = .returned (.bool true) ∧ Below W.heap.size W w'))
    (HR : Hid (∀ W, Below w.heap.size w W → Calls Tryz.prog 134 #[.pointer (some ⟨rb, 0, none⟩), .pointer (some ⟨dd, 0, none⟩)] W fun r w' => r = .returned (.int .i64 code) ∧ P W w')) :
    Calls Tryz.prog 125 #[.pointer (some ⟨rb, 0, none⟩), .pointer (some ⟨dd, 0, none⟩)] w fun r w' => r = .returned (.int .i64 code) ∧ ∃ W, Below w.heap.size w W ∧ P W w' := by
  have hta := asb_bold (.string t)
  have k0 : (0 : Int) ≤ (pos : Int) := by omega
  have k1 : (pos : Int) < (n : Int) := by omega
  have z0 := block_lt c0
  have z3 := block_lt c3
  have HCl := hide (fun W => clone_any W t (by omega))
  clear ht hpos
  go_enter Tryz.func125, Tryz.ntmps125
  go_wp2
  go_region_held3 (fun w' => w'.cell? ⟨rb, 1, none⟩ = some (.slice (some ⟨gW, 0, none⟩) n capW) ∧ w'.cell? ⟨rb, 2, none⟩ = some (.int .i64 pos) ∧ w'.cell? ⟨gW, pos, none⟩ = some (.string t)) (first | exact ⟨c1, c2, c3⟩ | exact (by assumption) | go_keep)
    ((go_at_call 132; refine (unhide HCl _).mono ?_
      rintro e w2 ⟨rfl, hb2⟩
      have c0 := ((bcell hb2).1 rb 0 z0).trans c0
      have c1 := ((bcell hb2).1 rb 1 z0).trans c1
      have c2 := ((bcell hb2).1 rb 2 z0).trans c2
      have c3 := ((bcell hb2).1 gW pos z3).trans c3
      have HB2 := hide (show Below w.heap.size w w2 from (Below.refl _ _).drew.trans hb2)
      clear hb2))
  go_wp2_with fail
  refine (unhide HM w2 (unhide HB2)).mono ?_
  rintro e w3 ⟨rfl, hb3⟩
  have HB3 := hide (show Below w.heap.size w w3 from (unhide HB2).trans (hb3.mono (unhide HB2).size))
  clear hb3
  go_wp2_with fail
  refine (unhide HF w3 (unhide HB3)).mono ?_
  rintro e w4 ⟨rfl, hb4⟩
  have HB4 := hide (show Below w.heap.size w w4 from (unhide HB3).trans (hb4.mono (unhide HB3).size))
  clear hb4
  go_wp2_with fail
  refine (unhide HR w4 (unhide HB4)).mono ?_
  rintro e w5 ⟨rfl, hP⟩
  have HP := hide hP
  clear hP
  go_wp2
  go_ret
  exact ⟨rfl, w4, unhide HB4, unhide HP⟩

set_option maxRecDepth 100000 in
set_option maxHeartbeats 1600000 in
theorem rw_bold (w : World) (mb rb dd gW n capW pos : Nat) (t : ByteArray) (ht : t.size ≤ 1000) (hpos : pos < n) (c0 : w.cell? ⟨rb, 0, none⟩ = some (.pointer (some ⟨mb, 0, none⟩))) (c1 : w.cell? ⟨rb, 1, none⟩ = some (.slice (some ⟨gW, 0, none⟩) n capW)) (c2 : w.cell? ⟨rb, 2, none⟩ = some (.int .i64 pos)) (c3 : w.cell? ⟨gW, pos, none⟩ = some (.string t)) (hq : (t.toList == [39]) = false) (code : Int) (P : World → World → Prop)
    (HM : Hid (∀ W, Below w.heap.size w W → Calls Tryz.prog 53 #[.pointer (some ⟨mb, 0, none⟩), .string t] W fun r w' => r = .returned (.iface 134 (.string t)) ∧ Below W.heap.size W w'))
    (HF : Hid (∀ W, Below w.heap.size w W → Calls Tryz.prog 133 #[.pointer (some ⟨dd, 0, none⟩), .string t] W fun r w' => r = .returned (.bool true) ∧ Below W.heap.size W w'))
    (HR : Hid (∀ W, Below w.heap.size w W → Calls Tryz.prog 135 #[.pointer (some ⟨dd, 0, none⟩), .iface 134 (.string t)] W fun r w' => r = .returned (.int .i64 code) ∧ P W w')) :
    Calls Tryz.prog 125 #[.pointer (some ⟨rb, 0, none⟩), .pointer (some ⟨dd, 0, none⟩)] w fun r w' => r = .returned (.int .i64 code) ∧ ∃ W, Below w.heap.size w W ∧ P W w' := by
  have hta := asb_bold (.string t)
  have k0 : (0 : Int) ≤ (pos : Int) := by omega
  have k1 : (pos : Int) < (n : Int) := by omega
  have z0 := block_lt c0
  have z3 := block_lt c3
  have HCl := hide (fun W => clone_any W t (by omega))
  clear ht hpos
  go_enter Tryz.func125, Tryz.ntmps125
  go_wp2
  go_region_held3 (fun w' => w'.cell? ⟨rb, 1, none⟩ = some (.slice (some ⟨gW, 0, none⟩) n capW) ∧ w'.cell? ⟨rb, 2, none⟩ = some (.int .i64 pos) ∧ w'.cell? ⟨gW, pos, none⟩ = some (.string t)) (first | exact ⟨c1, c2, c3⟩ | exact (by assumption) | go_keep)
    ((go_at_call 132; refine (unhide HCl _).mono ?_
      rintro e w2 ⟨rfl, hb2⟩
      have c0 := ((bcell hb2).1 rb 0 z0).trans c0
      have c1 := ((bcell hb2).1 rb 1 z0).trans c1
      have c2 := ((bcell hb2).1 rb 2 z0).trans c2
      have c3 := ((bcell hb2).1 gW pos z3).trans c3
      have HB2 := hide (show Below w.heap.size w w2 from (Below.refl _ _).drew.trans hb2)
      clear hb2))
  go_wp2_with fail
  refine (unhide HM w2 (unhide HB2)).mono ?_
  rintro e w3 ⟨rfl, hb3⟩
  have HB3 := hide (show Below w.heap.size w w3 from (unhide HB2).trans (hb3.mono (unhide HB2).size))
  clear hb3
  go_wp2_with fail
  refine (unhide HF w3 (unhide HB3)).mono ?_
  rintro e w4 ⟨rfl, hb4⟩
  have HB4 := hide (show Below w.heap.size w w4 from (unhide HB3).trans (hb4.mono (unhide HB3).size))
  clear hb4
  go_wp2_with fail
  refine (unhide HR w4 (unhide HB4)).mono ?_
  rintro e w5 ⟨rfl, hP⟩
  have HP := hide hP
  clear hP
  go_wp2
  go_ret
  exact ⟨rfl, w4, unhide HB4, unhide HP⟩

set_option maxRecDepth 100000 in
set_option maxHeartbeats 1600000 in
theorem rw_nil (w : World) (mb rb dd gW n capW pos : Nat) (t : ByteArray) (ht : t.size ≤ 1000) (hpos : pos < n) (c0 : w.cell? ⟨rb, 0, none⟩ = some (.pointer (some ⟨mb, 0, none⟩))) (c1 : w.cell? ⟨rb, 1, none⟩ = some (.slice (some ⟨gW, 0, none⟩) n capW)) (c2 : w.cell? ⟨rb, 2, none⟩ = some (.int .i64 pos)) (c3 : w.cell? ⟨gW, pos, none⟩ = some (.string t))
    (HM : Hid (∀ W, Below w.heap.size w W → Calls Tryz.prog 53 #[.pointer (some ⟨mb, 0, none⟩), .string t] W fun r w' => r = .returned (.nilIface) ∧ Below W.heap.size W w')) :
    Calls Tryz.prog 125 #[.pointer (some ⟨rb, 0, none⟩), .pointer (some ⟨dd, 0, none⟩)] w fun r w' => r = .returned (.int .i64 2) ∧ Below w.heap.size w w' := by
  have hta := asb_nil
  have k0 : (0 : Int) ≤ (pos : Int) := by omega
  have k1 : (pos : Int) < (n : Int) := by omega
  have z0 := block_lt c0
  have z3 := block_lt c3
  have HCl := hide (fun W => clone_any W t (by omega))
  clear ht hpos
  go_enter Tryz.func125, Tryz.ntmps125
  go_wp2
  go_region_held3 (fun w' => w'.cell? ⟨rb, 1, none⟩ = some (.slice (some ⟨gW, 0, none⟩) n capW) ∧ w'.cell? ⟨rb, 2, none⟩ = some (.int .i64 pos) ∧ w'.cell? ⟨gW, pos, none⟩ = some (.string t)) (first | exact ⟨c1, c2, c3⟩ | exact (by assumption) | go_keep)
    ((go_at_call 132; refine (unhide HCl _).mono ?_
      rintro e w2 ⟨rfl, hb2⟩
      have c0 := ((bcell hb2).1 rb 0 z0).trans c0
      have c1 := ((bcell hb2).1 rb 1 z0).trans c1
      have c2 := ((bcell hb2).1 rb 2 z0).trans c2
      have c3 := ((bcell hb2).1 gW pos z3).trans c3
      have HB2 := hide (show Below w.heap.size w w2 from (Below.refl _ _).drew.trans hb2)
      clear hb2))
  go_wp2_with fail
  refine (unhide HM w2 (unhide HB2)).mono ?_
  rintro e w3 ⟨rfl, hb3⟩
  have HB3 := hide (show Below w.heap.size w w3 from (unhide HB2).trans (hb3.mono (unhide HB2).size))
  clear hb3
  go_wp2
  go_ret
  exact ⟨rfl, unhide HB3⟩

set_option maxRecDepth 100000 in
set_option maxHeartbeats 1600000 in
theorem rw_other (w : World) (mb rb dd gW n capW pos : Nat) (t : ByteArray) (ht : t.size ≤ 1000) (hpos : pos < n) (c0 : w.cell? ⟨rb, 0, none⟩ = some (.pointer (some ⟨mb, 0, none⟩))) (c1 : w.cell? ⟨rb, 1, none⟩ = some (.slice (some ⟨gW, 0, none⟩) n capW)) (c2 : w.cell? ⟨rb, 2, none⟩ = some (.int .i64 pos)) (c3 : w.cell? ⟨gW, pos, none⟩ = some (.string t)) (hq : (t.toList == [39]) = false) (T : TypeId) (v : Value) (hta : ∀ W, (Instr.typeAssert (.iface T v) 107 134 true).run Tryz.prog W = .ok (.tuple #[.string ⟨#[]⟩, .bool false]) W) (code : Int) (P : World → World → Prop)
    (HM : Hid (∀ W, Below w.heap.size w W → Calls Tryz.prog 53 #[.pointer (some ⟨mb, 0, none⟩), .string t] W fun r w' => r = .returned (.iface T v) ∧ Below W.heap.size W w'))
    (HR : Hid (∀ W, Below w.heap.size w W → Calls Tryz.prog 135 #[.pointer (some ⟨dd, 0, none⟩), .iface T v] W fun r w' => r = .returned (.int .i64 code) ∧ P W w')) :
    Calls Tryz.prog 125 #[.pointer (some ⟨rb, 0, none⟩), .pointer (some ⟨dd, 0, none⟩)] w fun r w' => r = .returned (.int .i64 code) ∧ ∃ W, Below w.heap.size w W ∧ P W w' := by
  have k0 : (0 : Int) ≤ (pos : Int) := by omega
  have k1 : (pos : Int) < (n : Int) := by omega
  have z0 := block_lt c0
  have z3 := block_lt c3
  have HCl := hide (fun W => clone_any W t (by omega))
  clear ht hpos
  go_enter Tryz.func125, Tryz.ntmps125
  go_wp2
  go_region_held3 (fun w' => w'.cell? ⟨rb, 1, none⟩ = some (.slice (some ⟨gW, 0, none⟩) n capW) ∧ w'.cell? ⟨rb, 2, none⟩ = some (.int .i64 pos) ∧ w'.cell? ⟨gW, pos, none⟩ = some (.string t)) (first | exact ⟨c1, c2, c3⟩ | exact (by assumption) | go_keep)
    ((go_at_call 132; refine (unhide HCl _).mono ?_
      rintro e w2 ⟨rfl, hb2⟩
      have c0 := ((bcell hb2).1 rb 0 z0).trans c0
      have c1 := ((bcell hb2).1 rb 1 z0).trans c1
      have c2 := ((bcell hb2).1 rb 2 z0).trans c2
      have c3 := ((bcell hb2).1 gW pos z3).trans c3
      have HB2 := hide (show Below w.heap.size w w2 from (Below.refl _ _).drew.trans hb2)
      clear hb2))
  go_wp2_with fail
  refine (unhide HM w2 (unhide HB2)).mono ?_
  rintro e w3 ⟨rfl, hb3⟩
  have HB3 := hide (show Below w.heap.size w w3 from (unhide HB2).trans (hb3.mono (unhide HB2).size))
  clear hb3
  go_wp2_with fail
  refine (unhide HR w3 (unhide HB3)).mono ?_
  rintro e w5 ⟨rfl, hP⟩
  have HP := hide hP
  clear hP
  go_wp2
  go_ret
  exact ⟨rfl, w3, unhide HB3, unhide HP⟩

end Go.Proofs.YtgnlokmeohffaaaGreatDoor
/- readWord, at whatever run and whatever body that is read: what the document's machine does. -/
namespace Go.Proofs.YtgnlokmeohffaaaGreatDoor
open Go.RowKit

theorem turns_isSome (d : N.Draft) (of : List (List UInt8)) (into : Option (List UInt8)) (h0 : of.any (fun b => ([] : List UInt8) == b) = false) : (N.turns (N.kinds d) of into).isSome = of.any fun b => innerKind d == b := by
  obtain ⟨b, os⟩ := d
  cases os with
  | nil =>
    show (N.turns [] of into).isSome = of.any fun b => ([] : List UInt8) == b
    rw [h0]
    rfl
  | cons o t =>
    unfold N.turns
    rw [N.kinds_cons, List.getLast?_append, List.getLast?_singleton]
    simp only [Option.some_or]
    show (if of.any (fun b => o.kind == b) = true then _ else none).isSome = of.any fun b => o.kind == b
    split
    · rename_i h
      rw [h]
      rfl
    · rename_i h
      rw [Bool.not_eq_true] at h
      rw [h]
      rfl

theorem fits_any (B : Nat) (w : World) (dd : Nat) (vD vP : Value) (pv : List Value) (wv : List Own) (d : N.Draft) (h : DraftAt B w dd vD vP pv wv d) (s : List UInt8) (hb : L.isBold s = true) :
    Calls Tryz.prog 133 #[.pointer (some ⟨dd, 0, none⟩), .string ⟨s.toArray⟩] w fun r w' => r = .returned (.bool (N.stands (N.kinds d) s).isSome) ∧ Below w.heap.size w w' := by
  have same : ∀ {r : Ending} {w' : World} {v : Bool}, r = .returned (.bool v) ∧ w' = w → r = .returned (.bool v) ∧ Below w.heap.size w w' := fun hh => ⟨hh.1, by rw [hh.2]; exact Below.refl _ _⟩
  have hin := inner_any B w dd vD vP pv wv d h
  have hlo := innerLoop_any B w dd vD vP pv wv d h
  unfold L.isBold at hb
  simp only [L.boldNames, List.any_cons, List.any_nil, Bool.or_false, Bool.or_eq_true, beq_iff_eq] at hb
  rcases hb with rfl | rfl | rfl | rfl | rfl | rfl | rfl | rfl | rfl | rfl | rfl | rfl | rfl | rfl | rfl | rfl | rfl | rfl | rfl | rfl | rfl
  · exact (fits_colon w dd).mono fun r w' hh => same hh
  · exact (fits_semi w dd).mono fun r w' hh => same hh
  · exact (fits_variable w dd).mono fun r w' hh => same hh
  · exact (fits_constant w dd).mono fun r w' hh => same hh
  · exact (fits_marker w dd).mono fun r w' hh => same hh
  · exact (fits_forget w dd).mono fun r w' hh => same hh
  · exact (fits_tick w dd).mono fun r w' hh => same hh
  · exact (fits_recurse w dd).mono fun r w' hh => same hh
  · exact (fits_if w dd).mono fun r w' hh => same hh
  · have : (N.stands (N.kinds d) N.wElse).isSome = (innerKind d == [105, 102]) := by
      show (N.turns (N.kinds d) [N.wIf] (some N.wElse)).isSome = _
      rw [turns_isSome d [N.wIf] (some N.wElse) rfl]
      simp [N.wIf]
    rw [show ([101, 108, 115, 101] : List UInt8) = N.wElse from rfl, this]
    exact fits_else w dd (innerKind d) _ (hide hin)
  · have : (N.stands (N.kinds d) N.wThen).isSome = (innerKind d == [105, 102] || innerKind d == [101, 108, 115, 101]) := by
      show (N.turns (N.kinds d) [N.wIf, N.wElse] none).isSome = _
      rw [turns_isSome d [N.wIf, N.wElse] none rfl]
      simp [N.wIf, N.wElse]
    rw [show ([116, 104, 101, 110] : List UInt8) = N.wThen from rfl, this]
    exact fits_then w dd (innerKind d) (hide fun W hb => (inner_any B W dd vD vP pv wv d (h.below hb)).mono fun r w' hh => ⟨hh.1, hb.trans (hh.2.mono hb.size)⟩)
  · exact (fits_begin w dd).mono fun r w' hh => same hh
  · have : (N.stands (N.kinds d) N.wUntil).isSome = (innerKind d == [98, 101, 103, 105, 110]) := by
      show (N.turns (N.kinds d) [N.wBegin] none).isSome = _
      rw [turns_isSome d [N.wBegin] none rfl]
      simp [N.wBegin]
    rw [show ([117, 110, 116, 105, 108] : List UInt8) = N.wUntil from rfl, this]
    exact fits_until w dd (innerKind d) _ (hide hin)
  · have : (N.stands (N.kinds d) N.wAgain).isSome = (innerKind d == [98, 101, 103, 105, 110]) := by
      show (N.turns (N.kinds d) [N.wBegin] none).isSome = _
      rw [turns_isSome d [N.wBegin] none rfl]
      simp [N.wBegin]
    rw [show ([97, 103, 97, 105, 110] : List UInt8) = N.wAgain from rfl, this]
    exact fits_again w dd (innerKind d) _ (hide hin)
  · have : (N.stands (N.kinds d) N.wWhile).isSome = (innerKind d == [98, 101, 103, 105, 110]) := by
      show (N.turns (N.kinds d) [N.wBegin] (some N.wWhile)).isSome = _
      rw [turns_isSome d [N.wBegin] (some N.wWhile) rfl]
      simp [N.wBegin]
    rw [show ([119, 104, 105, 108, 101] : List UInt8) = N.wWhile from rfl, this]
    exact fits_while w dd (innerKind d) _ (hide hin)
  · have : (N.stands (N.kinds d) N.wRepeat).isSome = (innerKind d == [119, 104, 105, 108, 101]) := by
      show (N.turns (N.kinds d) [N.wWhile] none).isSome = _
      rw [turns_isSome d [N.wWhile] none rfl]
      simp [N.wWhile]
    rw [show ([114, 101, 112, 101, 97, 116] : List UInt8) = N.wRepeat from rfl, this]
    exact fits_repeat w dd (innerKind d) _ (hide hin)
  · exact (fits_do w dd).mono fun r w' hh => same hh
  · have : (N.stands (N.kinds d) N.wLoop).isSome = (innerKind d == [100, 111]) := by
      show (N.turns (N.kinds d) [N.wDo] none).isSome = _
      rw [turns_isSome d [N.wDo] none rfl]
      simp [N.wDo]
    rw [show ([108, 111, 111, 112] : List UInt8) = N.wLoop from rfl, this]
    exact fits_loop w dd (innerKind d) _ (hide hin)
  · have : (N.stands (N.kinds d) N.wI).isSome = decide ((N.kinds d).any (fun b => b == N.wDo) = true) := by
      show (if (N.kinds d).any (fun b => b == N.wDo) = true then some (N.kinds d) else none).isSome = _
      split
      · rename_i h; rw [decide_eq_true h]; rfl
      · rename_i h; rw [decide_eq_false h]; rfl
    rw [show ([105] : List UInt8) = N.wI from rfl, this]
    exact (fits_i w dd _ (hide hlo)).mono fun r w' hh => same hh
  · have : (N.stands (N.kinds d) N.wLeave).isSome = decide ((N.kinds d).any (fun b => b == N.wDo) = true) := by
      show (if (N.kinds d).any (fun b => b == N.wDo) = true then some (N.kinds d) else none).isSome = _
      split
      · rename_i h; rw [decide_eq_true h]; rfl
      · rename_i h; rw [decide_eq_false h]; rfl
    rw [show ([108, 101, 97, 118, 101] : List UInt8) = N.wLeave from rfl, this]
    exact (fits_leave w dd _ (hide hlo)).mono fun r w' hh => same hh
  · exact (fits_exit w dd).mono fun r w' hh => same hh

/-- A word of the line is read into the body: an error, the body behind it, where the line stands. -/
def readOne (m : N.Mach) (ws : List (List UInt8)) (pos : Nat) (d : N.Draft) (s : List UInt8) : Int × N.Draft × Nat :=
  if L.isBold s = false then
    match N.meaning m s with
    | none => (2, d, pos)
    | some c => if 60 ≤ d.body.length then (5, d, pos) else (0, N.add d c, pos)
  else match N.stands (N.kinds d) s with
    | none => (3, d, pos)
    | some _ =>
      if s == [39] then
        (if N.nameErr m ws[pos + 1]? false ≠ 0 then (4, d, pos)
         else match N.newest m ((ws[pos + 1]?).getD []) with
          | none => (2, d, pos)
          | some k => if 60 ≤ d.body.length then (5, d, pos) else (0, N.add d ⟨1, 1000 + k, []⟩, pos + 1))
      else if 60 ≤ d.body.length then (5, d, pos) else (0, N.add d ⟨4, 0, s⟩, pos)
end Go.Proofs.YtgnlokmeohffaaaGreatDoor
