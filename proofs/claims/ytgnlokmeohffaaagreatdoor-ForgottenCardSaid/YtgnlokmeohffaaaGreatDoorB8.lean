/- Parts of the proof: see the last text. -/
import Derived.Test.YtgnlokmeohffaaaGreatDoorB7
/- shut; inner, innerLoop: at whatever body that is read. -/
namespace Go.Proofs.YtgnlokmeohffaaaGreatDoor
open Go.RowKit
attribute [local go_sem ↓] Go.wp_at_zero Go.wp_at_succ

/-- The innermost part, as it lies. -/
theorem DraftAt.last {B : Nat} {w : World} {dd : Nat} {vD vP : Value} {pv : List Value} {wv : List Own} {b : List (N.Cell × Nat)} {o : N.Part} {t : List N.Part} (h : DraftAt B w dd vD vP pv wv ⟨b, o :: t⟩) :
    ∃ pv' v gP cP, pv = pv' ++ [v] ∧ pv'.length = t.reverse.length ∧ vP = .slice (some ⟨gP, 0, none⟩) (t.length + 1) cP ∧ t.length + 1 ≤ cP ∧ B ≤ gP ∧ w.cell? ⟨gP, t.length * 3, none⟩ = some (.string ⟨o.kind.toArray⟩) ∧ w.cell? ⟨gP, t.length * 3 + 1, none⟩ = some (.int .i64 (o.start : Int)) ∧ w.cell? ⟨gP, t.length * 3 + 2, none⟩ = some v ∧
      w.ownsRow B 3 1 v o.waits.length (o.waits.map natCell) := by
  have hpl : pv.length = t.length + 1 := by have := h.plen; simpa using this
  obtain ⟨pv', v, rfl⟩ : ∃ pv' v, pv = pv' ++ [v] := by
    rcases List.eq_nil_or_concat pv with rfl | ⟨a, x, rfl⟩
    · simp at hpl
    · exact ⟨a, x, by simp⟩
  have hpl' : pv'.length = t.reverse.length := by simpa using hpl
  have hop := h.opens
  have hrev : (o :: t).reverse = t.reverse ++ [o] := by simp
  simp only [List.length_cons, hrev] at hop
  rw [partCells_snoc hpl'] at hop
  obtain ⟨gP, cP, hvP, hBP, _⟩ := hop.form (by omega)
  have hle : t.length + 1 ≤ cP := by
    rcases hop.2 with ⟨_, h2⟩ | ⟨g', c', _, h1, _, _, h2, _⟩
    · omega
    · rw [hvP] at h1
      injection h1 with _ _ h1
      omega
  have hlen := partCells_len hpl'
  rw [List.length_reverse] at hlen
  have hc : ∀ j u, (partCells t.reverse pv' ++ [.string ⟨o.kind.toArray⟩, .int .i64 (o.start : Int), v])[j]? = some u → w.cell? ⟨gP, j, none⟩ = some u := fun j u hu => by
    have := hop.cells (g := gP) (by rw [hvP]; rfl) j u hu
    rwa [add_lit, Nat.zero_add] at this
  refine ⟨pv', v, gP, cP, rfl, hpl', hvP, hle, hBP, hc _ _ ?_, hc _ _ ?_, hc _ _ ?_, ?_⟩
  · rw [List.getElem?_append_right (by omega), hlen, Nat.sub_self]; rfl
  · rw [List.getElem?_append_right (by omega), hlen, show t.length * 3 + 1 - t.length * 3 = 1 by omega]; rfl
  · rw [List.getElem?_append_right (by omega), hlen, show t.length * 3 + 2 - t.length * 3 = 2 by omega]; rfl
  · refine h.waits t.length o v ?_ ?_
    · show (o :: t).reverse[t.length]? = some o
      rw [hrev, List.getElem?_append_right (by simp), List.length_reverse, Nat.sub_self]; rfl
    · rw [List.getElem?_append_right (by rw [hpl', List.length_reverse]; exact Nat.le_refl _), hpl', List.length_reverse, Nat.sub_self]; rfl

/-- The innermost part is no more. -/
theorem DraftAt.pop {B : Nat} {w : World} {dd gP cP : Nat} {vD v : Value} {pv : List Value} {wv : List Own} {b : List (N.Cell × Nat)} {o : N.Part} {t : List N.Part} (h : DraftAt B w dd vD (.slice (some ⟨gP, 0, none⟩) (t.length + 1) cP) (pv ++ [v]) wv ⟨b, o :: t⟩) (hpl : pv.length = t.reverse.length) :
    DraftAt B (w.setCell ⟨dd, 1, none⟩ (.slice (some ⟨gP, 0, none⟩) t.length cP)) dd vD (.slice (some ⟨gP, 0, none⟩) t.length cP) pv wv ⟨b, t⟩ := by
  obtain ⟨n1, n2, n3, n4⟩ := h.ne_blocks
  have hoth : ∀ k, k ≠ dd → (w.setCell ⟨dd, 1, none⟩ (.slice (some ⟨gP, 0, none⟩) t.length cP)).heap[k]? = w.heap[k]? := fun k hk => Below.heap_setCell _ _ _ _ hk
  have hrev : (o :: t).reverse = t.reverse ++ [o] := by simp
  have hop := h.opens
  simp only [List.length_cons, hrev] at hop
  rw [partCells_snoc hpl] at hop
  have hlen := partCells_len hpl
  rw [List.length_reverse] at hlen
  have htk := ownsz_take hop t.length (by omega)
  rw [← hlen, List.take_left] at htk
  have hlt : ∀ i x, t.reverse[i]? = some x → (o :: t).reverse[i]? = some x := fun i x hx => by
    rw [hrev, List.getElem?_append_left (List.getElem?_eq_some_iff.1 hx).1]; exact hx
  have hpv : ∀ i x, pv[i]? = some x → (pv ++ [v])[i]? = some x := fun i x hx => by
    rw [List.getElem?_append_left (List.getElem?_eq_some_iff.1 hx).1]; exact hx
  refine ⟨h.hB, set_block h.blk 1 _, ownsz_kept h.body fun k e => hoth k fun e2 => n1 (e2 ▸ e), ownsz_kept htk fun k e => hoth k fun e2 => n2 (e2 ▸ e), hpl, fun i x u h1 h2 => ownsz_kept (h.waits i x u (hlt i x h1) (hpv i u h2)) fun k e => hoth k fun e2 => (n4 u (List.mem_append_left _ (List.mem_of_getElem? h2))).1 (e2 ▸ e), fun i j x u k h1 h2 => h.apart i j x u k (hpv i x h1) (hpv j u h2), h.small, ?_, fun x hx => h.low x (List.mem_cons_of_mem _ hx)⟩
  have := h.few
  simp only [List.length_cons] at this
  show t.length ≤ 60
  omega

theorem goOns_take (b : List (N.Cell × Nat)) (ps : List Nat) (g k : Nat) (p : Nat) (hp : ps[k]? = some p) : N.goOns b (ps.take (k + 1)) g = N.goOn (N.goOns b (ps.take k) g) p g := by
  have hlt := (List.getElem?_eq_some_iff.1 hp).1
  have he := (List.getElem?_eq_some_iff.1 hp).2
  rw [List.take_succ_eq_append_getElem hlt, he]
  unfold N.goOns
  rw [List.foldl_append]
  rfl
theorem goOns_len (b : List (N.Cell × Nat)) (ps : List Nat) (g : Nat) : (N.goOns b ps g).length = b.length := by
  have := congrArg List.length (N.cells_goOns ps g b)
  simpa using this
theorem goOns_kind {b : List (N.Cell × Nat)} (ps : List Nat) (g : Nat) {p : Nat} {c : N.Cell} {g0 : Nat} (h : b[p]? = some (c, g0)) : ∃ g1, (N.goOns b ps g)[p]? = some (c, g1) := by
  have := congrArg (fun l => l[p]?) (N.cells_goOns ps g b)
  simp only [List.getElem?_map, h] at this
  cases hx : (N.goOns b ps g)[p]? with
  | none => rw [hx] at this; cases this
  | some x =>
    rw [hx] at this
    injection this with this
    have h2 : x.1 = c := this
    exact ⟨x.2, by rw [← h2]⟩

theorem shut_any (B : Nat) (w : World) (dd : Nat) (vD vP : Value) (pv : List Value) (wv : List Own) (b : List (N.Cell × Nat)) (o : N.Part) (t : List N.Part) (h : DraftAt B w dd vD vP pv wv ⟨b, o :: t⟩) (hw : ∀ p ∈ o.waits, ∃ c g, b[p]? = some (c, g) ∧ c.kind = 4) :
    Calls Tryz.prog 145 #[.pointer (some ⟨dd, 0, none⟩)] w fun r w' => r = .returned (.tuple #[]) ∧ ∃ vP' pv', DraftAt B w' dd vD vP' pv' wv (N.shut ⟨b, o :: t⟩) ∧ Below B w w' := by
  obtain ⟨pv', v, gP, cP, rfl, hpl, rfl, hcP, hBP, _, _, c2, hwr⟩ := h.last
  have hlow := h.low o List.mem_cons_self
  obtain ⟨aD, cD, hvD, _, _⟩ := owns_slice h.body
  obtain ⟨aw, cw, hv, _, hnil⟩ := owns_slice hwr
  obtain ⟨gw, hgw⟩ : ∃ gw, aw = some ⟨gw, 0, none⟩ ∨ o.waits.length = 0 := by
    rcases owns_cases (w := w) (e := 3) (n := o.waits.length) (v := v) (xs := o.waits.map natCell) ⟨hwr.1, by
      rcases hwr.2 with x | ⟨g, c, cur, x1, _, x2⟩
      · exact .inl x
      · exact .inr ⟨g, c, cur, x1, Nat.zero_le _, x2⟩⟩ with ⟨_, h2, _⟩ | ⟨g, c, h1, _⟩
    · exact ⟨0, .inr h2⟩
    · rw [hv] at h1
      injection h1 with h1
      exact ⟨g, .inl h1⟩
  subst hv hvD
  have hfew := h.few
  simp only [List.length_cons] at hfew
  refine (shut_walk w dd gP (t.length + 1) t.length cP gw o.waits.length cw b.length cD aD aw (fun k wr => DraftAt B wr dd (.slice aD b.length cD) (.slice (some ⟨gP, 0, none⟩) (t.length + 1) cP) (pv' ++ [.slice aw o.waits.length cw]) wv ⟨N.goOns b (o.waits.take k) b.length, o :: t⟩ ∧ Below B w wr) rfl hfew hcP hlow.2.1 hgw ⟨by simpa [N.goOns] using h, Below.refl _ _⟩ (cell_of_block h.blk rfl) c2 (hide fun k wr hI hk => ?_)).mono ?_
  · obtain ⟨hd, hb⟩ := hI
    refine ⟨cell_of_block hd.blk rfl, cell_of_block hd.blk rfl, frozen_of_block 1 hd.blk, fun hlt => ?_⟩
    obtain ⟨p, hp⟩ : ∃ p, o.waits[k]? = some p := ⟨_, List.getElem?_eq_getElem hlt⟩
    obtain ⟨c, g0, hc, hk4⟩ := hw p (List.mem_of_getElem? hp)
    obtain ⟨g1, hg1⟩ := goOns_kind (o.waits.take k) b.length hc
    have hgw' : aw = some ⟨gw, 0, none⟩ := by rcases hgw with x | x; exact x; omega
    subst hgw'
    refine ⟨p, ?_, (goOn_any B wr dd _ _ _ wv _ p b.length c g1 hd hg1 hk4).mono fun r w' hh => ⟨hh.1, ?_, hb.trans hh.2.2⟩⟩
    · obtain ⟨_, v2, _, _, hpe, hpl2, _, _, _, _, _, _, hwr2⟩ := hd.last
      have hv2 : v2 = .slice (some ⟨gw, 0, none⟩) o.waits.length cw := by
        have := congrArg List.getLast? hpe
        simpa using this.symm
      subst hv2
      have := hwr2.cells (g := gw) rfl k (natCell p) (by rw [List.getElem?_map, hp]; rfl)
      rwa [add_lit, Nat.zero_add] at this
    · rw [goOns_take b o.waits b.length k p hp]
      exact hh.2.1
  · rintro r w' ⟨rfl, W, ⟨hd, hb⟩, rfl⟩
    refine ⟨rfl, .slice (some ⟨gP, 0, none⟩) t.length cP, pv', ?_, hb.setCell h.hB _⟩
    rw [List.take_length] at hd
    exact hd.pop hpl
end Go.Proofs.YtgnlokmeohffaaaGreatDoor
/- inner, innerLoop: the walks; and settle's words that open and turn. -/
namespace Go.Proofs.YtgnlokmeohffaaaGreatDoor
open Go.RowKit
attribute [local go_sem ↓] Go.wp_at_zero Go.wp_at_succ

set_option maxRecDepth 100000 in
theorem inner_none (w : World) (dd cP : Nat) (a : Option Addr) (e1 : w.cell? ⟨dd, 1, none⟩ = some (.slice a 0 cP)) :
    Calls Tryz.prog 138 #[.pointer (some ⟨dd, 0, none⟩)] w fun r w' => r = .returned (.string ⟨#[]⟩) ∧ w' = w := by
  go_enter Tryz.func138, Tryz.ntmps138
  go_wp2
  go_ret
  exact ⟨rfl, rfl⟩
set_option maxRecDepth 100000 in
set_option maxHeartbeats 800000 in
theorem inner_some (w : World) (dd gP n m cP : Nat) (kd : ByteArray) (hn : n = m + 1) (h60 : n ≤ 60) (e1 : w.cell? ⟨dd, 1, none⟩ = some (.slice (some ⟨gP, 0, none⟩) n cP)) (e2 : w.cell? ⟨gP, m * 3, none⟩ = some (.string kd)) :
    Calls Tryz.prog 138 #[.pointer (some ⟨dd, 0, none⟩)] w fun r w' => r = .returned (.string kd) ∧ w' = w.drew := by
  have i0 : IntKind.i64.wrap ((n : Int) - 1) = (m : Int) := by rw [IntKind.wrap_i64]; omega
  have i1 : (0 : Int) ≤ (m : Int) := by omega
  have i2 : (m : Int) < (n : Int) := by omega
  have i3 : ((n : Int) == 0) = false := by rw [beq_eq_false_iff_ne]; omega
  clear hn h60
  go_enter Tryz.func138, Tryz.ntmps138
  go_wp2
  go_region_held3 (fun w' => w'.cell? ⟨dd, 1, none⟩ = some (.slice (some ⟨gP, 0, none⟩) n cP) ∧ w'.cell? ⟨gP, m * 3, none⟩ = some (.string kd)) (first | exact ⟨e1, e2⟩ | go_keep) (fail)
  go_wp2
  go_ret
  exact ⟨rfl, rfl⟩

/-- Where the innermost do lies, of the first k. -/
def doAt (ks : List (List UInt8)) : Nat → Option Nat
  | 0 => none
  | k + 1 => if ks[k]? = some N.wDo then some k else doAt ks k
def doPtr (g : Nat) : Option Nat → Value
  | none => .pointer none
  | some k => .pointer (some ⟨g, k * 3, none⟩)

set_option maxRecDepth 100000 in
set_option maxHeartbeats 800000 in
theorem innerLoop_walk (w : World) (dd gP cP : Nat) (ks : List (List UInt8)) (h60 : ks.length ≤ 60) (e1 : w.cell? ⟨dd, 1, none⟩ = some (.slice (some ⟨gP, 0, none⟩) ks.length cP)) (e2 : ∀ j k, ks[j]? = some k → w.cell? ⟨gP, j * 3, none⟩ = some (.string ⟨k.toArray⟩)) :
    Calls Tryz.prog 139 #[.pointer (some ⟨dd, 0, none⟩)] w fun r w' => r = .returned (doPtr gP (doAt ks ks.length)) ∧ w' = w := by
  have E2 := hide e2
  clear e2
  generalize hn0 : ks.length = n at *
  go_enter Tryz.func139, Tryz.ntmps139
  go_wp2
  go_loop [3] (fun i => ∃ k : Nat, k ≤ n ∧ i = .int .i64 ((k : Int) - 1) ∧ doAt ks k = doAt ks n) (fun i => match i with | .int _ k => (k + 1).toNat | _ => 0)
  case atStart => exact ⟨n, Nat.le_refl _, rfl, rfl⟩
  case round =>
    obtain ⟨k, hk, rfl, hl⟩ := hrel
    cases k with
    | zero =>
      have HL := hide hl
      clear hl
      go_wp2
      go_ret
      refine ⟨retv ?_, rfl⟩
      rw [← unhide HL]
      rfl
    | succ k =>
      have hlt : k < ks.length := by omega
      obtain ⟨kd, hkd⟩ : ∃ kd, ks[k]? = some kd := ⟨_, List.getElem?_eq_getElem hlt⟩
      have c2 := unhide E2 k kd hkd
      have k1 : (k : Int) < (n : Int) := by omega
      have e0 : ((k + 1 : Nat) : Int) - 1 = (k : Int) := by omega
      have hstep : doAt ks (k + 1) = if kd = N.wDo then some k else doAt ks k := by
        show (if ks[k]? = some N.wDo then some k else doAt ks k) = _
        rw [hkd]
        simp
      rw [hstep] at hl
      rw [e0]
      have HL := hide hl
      clear hl hstep hkd hlt
      by_cases hq : kd = N.wDo
      · have hq' : (kd == [100, 111]) = true := by rw [beq_iff_eq]; exact hq
        have HL2 := hide ((if_pos hq).symm.trans (unhide HL))
        clear hq HL
        go_wp2
        go_ret
        refine ⟨retv ?_, rfl⟩
        rw [← unhide HL2]
        rfl
      · have hq' : (kd == [100, 111]) = false := by rw [beq_eq_false_iff_ne]; exact hq
        have HL2 := hide ((if_neg hq).symm.trans (unhide HL))
        clear hq HL
        go_wp2
        refine ⟨⟨k, by omega, rfl, unhide HL2⟩, ?_⟩
        show ((k : Int) - 1 + 1).toNat < ((k : Int) + 1).toNat
        omega
set_option maxRecDepth 100000 in
theorem innerLoop_none (w : World) (dd : Nat) (e1 : w.cell? ⟨dd, 1, none⟩ = some (.slice none 0 0)) :
    Calls Tryz.prog 139 #[.pointer (some ⟨dd, 0, none⟩)] w fun r w' => r = .returned (.pointer none) ∧ w' = w := by
  go_enter Tryz.func139, Tryz.ntmps139
  go_wp2
  go_loop [3] (fun i => i = .int .i64 (-1)) (fun _ => 0)
  case atStart => rfl
  case round =>
    obtain rfl := hrel
    go_wp2
    go_ret
    exact ⟨rfl, rfl⟩
end Go.Proofs.YtgnlokmeohffaaaGreatDoor
/- settle: words that open a part. (Written by tools/mksettle.py.) -/
namespace Go.Proofs.YtgnlokmeohffaaaGreatDoor
open Go.RowKit
attribute [local go_sem ↓] Go.wp_at_zero Go.wp_at_succ

theorem infoOpening : ∃ i, (Tryz.prog).info? 223 = some i ∧ i.zero = some (.agg #[.string ⟨#[]⟩, .int .i64 0, .slice none 0 0]) ∧ i.size = 3 ∧ i.bytes = 48 := info_of (by kernel_rfl)

/-- A part is opened: the new row, and all else as it was. -/
theorem DraftAt.push {B : Nat} {w W w3 : World} {dd : Nat} {vD vP v v' : Value} {pv : List Value} {wv : List Own} {d : N.Draft} (h : DraftAt B w dd vD vP pv wv d) (hb : Below w.heap.size w W) (o : N.Part)
    (hv : W.ownsRow w.heap.size 3 1 v o.waits.length (o.waits.map natCell)) (hg : W.grownBy w3 vP.ownBlock) (ho : w3.ownsRow B 223 3 v' (d.opens.length + 1) (partCells d.opens.reverse pv ++ [.string ⟨o.kind.toArray⟩, .int .i64 (o.start : Int), v]))
    (hfew : d.opens.length + 1 ≤ 60) (hlow : o.start ≤ 60 ∧ o.waits.length ≤ 60 ∧ ∀ p ∈ o.waits, p < d.body.length) :
    DraftAt B (w3.setCell ⟨dd, 1, none⟩ v') dd vD v' (pv ++ [v]) wv ⟨d.body, o :: d.opens⟩ ∧ Below B w (w3.setCell ⟨dd, 1, none⟩ v') := by
  obtain ⟨n1, n2, n3, n4⟩ := h.ne_blocks
  have hltd := heap_lt h.blk
  have hBw : B ≤ w.heap.size := Nat.le_trans h.hB (Nat.le_of_lt hltd)
  -- a block of w that is not the old row
  have hkeep : ∀ k, k < w.heap.size → vP.ownBlock ≠ some k → k ≠ dd → (w3.setCell ⟨dd, 1, none⟩ v').heap[k]? = w.heap[k]? := fun k hk hne hd =>
    (Below.heap_setCell _ _ _ _ hd).trans ((hg.block k (Nat.lt_of_lt_of_le hk hb.size) fun e => hne e.symm).trans (hb.block k hk))
  have hdd3 : w3.heap[dd]? = some (.cells #[vD, vP] 201) := (hg.block dd (Nat.lt_of_lt_of_le hltd hb.size) fun e => n2 e.symm).trans ((hb.block dd hltd).trans h.blk)
  have hv'dd : v'.ownBlock ≠ some dd := ownz_ne ho hdd3 (by decide)
  have hrev : (o :: d.opens).reverse = d.opens.reverse ++ [o] := by simp
  have hnew : ∀ k, v.ownBlock = some k → w.heap.size ≤ k ∧ (w3.setCell ⟨dd, 1, none⟩ v').heap[k]? = W.heap[k]? := fun k hk => by
    obtain ⟨h1, h2⟩ := hv.lt k hk
    refine ⟨h1, (Below.heap_setCell _ _ _ _ (show k ≠ dd by omega)).trans (hg.block k h2 fun e => ?_)⟩
    have := (h.opens.lt k e.symm).2
    omega
  refine ⟨⟨h.hB, set_block hdd3 1 _, ?_, ?_, ?_, ?_, ?_, h.small, by show (o :: d.opens).length ≤ 60; simpa using hfew, ?_⟩, ?_⟩
  · exact ownsz_kept h.body fun k e => hkeep k (h.body.lt k e).2 (n3 k e) fun e2 => n1 (e2 ▸ e)
  · show World.ownsRow _ _ _ _ _ (o :: d.opens).length (partCells (o :: d.opens).reverse (pv ++ [v]))
    rw [hrev, partCells_snoc h.plen]
    exact ownsz_kept ho fun k e => Below.heap_setCell _ _ _ _ (show k ≠ dd from fun e2 => hv'dd (e2 ▸ e))
  · rw [hrev, List.length_append, List.length_append, h.plen]
    rfl
  · intro i x u h1 h2
    rw [hrev] at h1
    by_cases hi : i < d.opens.reverse.length
    · rw [List.getElem?_append_left hi] at h1
      rw [List.getElem?_append_left (by rw [h.plen]; exact hi)] at h2
      have hw := h.waits i x u h1 h2
      exact ownsz_kept hw fun k e => hkeep k (hw.lt k e).2 (fun e3 => (n4 u (List.mem_of_getElem? h2)).2.2 k e3 e) fun e2 => (n4 u (List.mem_of_getElem? h2)).1 (e2 ▸ e)
    · rw [List.getElem?_append_right (by omega)] at h1
      rw [List.getElem?_append_right (by rw [h.plen]; omega), h.plen] at h2
      obtain ⟨j, hj⟩ : ∃ j, i - d.opens.reverse.length = j := ⟨_, rfl⟩
      rw [hj] at h1 h2
      cases j with
      | succ j => simp at h1
      | zero =>
        simp only [List.getElem?_cons_zero, Option.some.injEq] at h1 h2
        subst h1 h2
        have hk := ownsz_kept hv fun k e => (hnew k e).2
        refine ⟨hk.1, ?_⟩
        rcases hk.2 with x | ⟨g, c, cur, x1, x2, x3⟩
        · exact .inl x
        · exact .inr ⟨g, c, cur, x1, by omega, x3⟩
  · intro i j x u k h1 h2 h3 h4
    have pick : ∀ i x, (pv ++ [v])[i]? = some x → (i < pv.length ∧ pv[i]? = some x) ∨ (i = pv.length ∧ x = v) := fun i x hx => by
      rcases N.snoc_get hx with hh | hh
      · exact .inl ⟨(List.getElem?_eq_some_iff.1 hh).1, hh⟩
      · exact .inr hh
    have old : ∀ i x, i < pv.length → pv[i]? = some x → x.ownBlock = some k → k < w.heap.size := fun i x hi hx hk => by
      have hlt : i < d.opens.reverse.length := by rw [← h.plen]; exact hi
      exact ((h.waits i _ x (List.getElem?_eq_getElem hlt) hx).lt k hk).2
    rcases pick i x h1 with ⟨a1, a2⟩ | ⟨a1, rfl⟩ <;> rcases pick j u h2 with ⟨b1, b2⟩ | ⟨b1, rfl⟩
    · exact h.apart i j x u k a2 b2 h3 h4
    · have := old i x a1 a2 h3
      have := (hnew k h4).1
      omega
    · have := old j u b1 b2 h4
      have := (hnew k h3).1
      omega
    · omega
  · intro x hx
    rcases List.mem_cons.1 hx with rfl | hx
    · exact hlow
    · exact h.low x hx
  · have h1 : Below B w W := hb.mono hBw
    have hBv : ∀ k, vP.ownBlock = some k → B ≤ k := fun k hk => (h.opens.lt k hk).1
    have h2 : Below B W w3 := ⟨hg.os, hg.tape, hg.output, hg.size, fun k hk => hg.block k (by have := h1.size; omega) fun e => by have := hBv k e.symm; omega⟩
    exact (h1.trans h2).setCell h.hB _

set_option maxRecDepth 100000 in
set_option maxHeartbeats 1600000 in
theorem settle_if (B : Nat) (w : World) (dd p : Nat) (vD vP : Value) (pv : List Value) (wv : List Own) (d : N.Draft) (h : DraftAt B w dd vD vP pv wv d) (hp60 : p ≤ 60) (hpl : p < d.body.length) (hfew : d.opens.length + 1 ≤ 60) :
    Calls Tryz.prog 140 #[.pointer (some ⟨dd, 0, none⟩), .string ⟨#[105, 102]⟩, .int .i64 p] w fun r w' => r = .returned (.tuple #[]) ∧ ∃ vP' pv', DraftAt B w' dd vD vP' pv' wv ⟨d.body, ⟨N.wIf, p, [p]⟩ :: d.opens⟩ ∧ Below B w w' := by
  obtain ⟨i3, hi, hz, hs, hby⟩ := infoOpening
  obtain ⟨aP, cP, hvP⟩ : ∃ a c, vP = .slice a d.opens.length c := by
    rcases h.opens.2 with ⟨h1, h2⟩ | ⟨g, cap, cur, h1, _⟩
    · exact ⟨none, 0, by rw [h1, h2]⟩
    · exact ⟨_, _, h1⟩
  subst hvP
  have hcell : w.cell? ⟨dd, 1, none⟩ = some (.slice aP d.opens.length cP) := cell_of_block h.blk rfl
  have hfz : w.frozen? ⟨dd, 1, none⟩ = false := frozen_of_block 1 h.blk
  have hne : some dd ≠ (Value.slice aP d.opens.length cP).ownBlock := fun e => h.ne_blocks.2.1 e.symm
  have hBw : B ≤ w.heap.size := Nat.le_trans h.hB (Nat.le_of_lt (heap_lt h.blk))
  have hbW : Below w.heap.size w ((w.alloc (Obj.cells #[Value.int .i64 (p : Int)] 3)).alloc (Obj.cells #[Value.string ⟨#[105, 102]⟩, Value.int .i64 (p : Int), Value.slice (some ⟨w.heap.size, 0, none⟩) 1 1] 223)) := ((Below.refl _ _).alloc (Nat.le_refl _) _).alloc (by simp) _
  have hnew : ((w.alloc (Obj.cells #[Value.int .i64 (p : Int)] 3)).alloc (Obj.cells #[Value.string ⟨#[105, 102]⟩, Value.int .i64 (p : Int), Value.slice (some ⟨w.heap.size, 0, none⟩) 1 1] 223)).heap[(w.heap.size + 1)]? = some (.cells #[Value.string ⟨#[105, 102]⟩, Value.int .i64 (p : Int), Value.slice (some ⟨w.heap.size, 0, none⟩) 1 1] 223) := heap_two w _ _
  have hown : ((w.alloc (Obj.cells #[Value.int .i64 (p : Int)] 3)).alloc (Obj.cells #[Value.string ⟨#[105, 102]⟩, Value.int .i64 (p : Int), Value.slice (some ⟨w.heap.size, 0, none⟩) 1 1] 223)).ownsRow B 223 3 (.slice aP d.opens.length cP) d.opens.length (partCells d.opens.reverse pv) := (h.opens.alloc _).alloc _
  have hwts : ((w.alloc (Obj.cells #[Value.int .i64 (p : Int)] 3)).alloc (Obj.cells #[Value.string ⟨#[105, 102]⟩, Value.int .i64 (p : Int), Value.slice (some ⟨w.heap.size, 0, none⟩) 1 1] 223)).ownsRow w.heap.size 3 1 (.slice (some ⟨w.heap.size, 0, none⟩) 1 1) ([p] : List Nat).length (([p] : List Nat).map natCell) := by
    have h1 : (w.alloc (Obj.cells #[Value.int .i64 (p : Int)] 3)).ownsRow w.heap.size 3 1 (.slice (some ⟨w.heap.size, 0, none⟩) 1 1) 1 [natCell p] := ⟨rfl, .inr ⟨w.heap.size, 1, #[Value.int .i64 (p : Int)], rfl, Nat.le_refl _, heap_alloc_new w _, Nat.le_refl _, by decide, rfl, rfl⟩⟩
    exact h1.alloc _
  have e1 : ((w.alloc (Obj.cells #[Value.int .i64 (p : Int)] 3)).alloc (Obj.cells #[Value.string ⟨#[105, 102]⟩, Value.int .i64 (p : Int), Value.slice (some ⟨w.heap.size, 0, none⟩) 1 1] 223)).cell? ⟨dd, 1, none⟩ = some (.slice aP d.opens.length cP) := cell_alloc (cell_alloc hcell _) _
  have f1 : ((w.alloc (Obj.cells #[Value.int .i64 (p : Int)] 3)).alloc (Obj.cells #[Value.string ⟨#[105, 102]⟩, Value.int .i64 (p : Int), Value.slice (some ⟨w.heap.size, 0, none⟩) 1 1] 223)).frozen? ⟨dd, 1, none⟩ = false := grown_fz (World.grownBy_alloc _ _ none) (cell_alloc hcell _) (grown_fz (World.grownBy_alloc _ _ none) hcell hfz (by simp)) (by simp)
  have H := hide h
  have HW := hide hwts
  have HO := hide hown
  have HN := hide hnew
  have HB := hide hbW
  have hlen := partCells_len h.plen
  rw [List.length_reverse] at hlen
  have hfew2 := hfew
  clear h hwts hown hnew hbW hfz
  go_enter Tryz.func140, Tryz.ntmps140
  go_wp2_with (
    at_builtin
    refine wpList_append_lies _ (by rfl) (.tmp 16) (.tmp 22) 199 (by rfl) B 223 i3 (.agg #[.string ⟨#[]⟩, .int .i64 0, .slice none 0 0]) 3 48 Tryz.underlying199 hi hz hs hby rfl (by decide) (.slice aP d.opens.length cP) d.opens.length (partCells d.opens.reverse pv) (by rfl) (by exact unhide HO) ⟨(w.heap.size + 1), 0, none⟩ 1 1 [.string ⟨#[105, 102]⟩, .int .i64 (p : Int), .slice (some ⟨w.heap.size, 0, none⟩) 1 1] (by rfl) rfl (World.news_of_block (unhide HN)) (fun u hu => by simp at hu; rcases hu with rfl | rfl | rfl <;> rfl) (by decide) (by unfold maxLen; omega) (by omega) (by have := (unhide HB).size; omega) _ rfl ?_
    intro g3 cap3 w3 hown3 hgrow3 hat3 hlt3
    have e5 := hgrow3.cell e1 hne
    have f5 := grown_fz hgrow3 e1 f1 hne
    have G3 := hide hgrow3
    have O3 := hide hown3
    clear hgrow3 hown3 hat3)
  go_end0
  have hpush := (unhide H).push (unhide HB) ⟨N.wIf, p, [p]⟩ (unhide HW) (unhide G3) (unhide O3) hfew2 ⟨hp60, by simp, fun q hq => by rw [List.mem_singleton] at hq; subst hq; exact hpl⟩
  exact ⟨rfl, _, _, hpush.1, hpush.2⟩

set_option maxRecDepth 100000 in
set_option maxHeartbeats 1600000 in
theorem settle_do (B : Nat) (w : World) (dd p : Nat) (vD vP : Value) (pv : List Value) (wv : List Own) (d : N.Draft) (h : DraftAt B w dd vD vP pv wv d) (hp60 : p ≤ 60) (hpl : p < d.body.length) (hfew : d.opens.length + 1 ≤ 60) :
    Calls Tryz.prog 140 #[.pointer (some ⟨dd, 0, none⟩), .string ⟨#[100, 111]⟩, .int .i64 p] w fun r w' => r = .returned (.tuple #[]) ∧ ∃ vP' pv', DraftAt B w' dd vD vP' pv' wv ⟨d.body, ⟨N.wDo, p, [p]⟩ :: d.opens⟩ ∧ Below B w w' := by
  obtain ⟨i3, hi, hz, hs, hby⟩ := infoOpening
  obtain ⟨aP, cP, hvP⟩ : ∃ a c, vP = .slice a d.opens.length c := by
    rcases h.opens.2 with ⟨h1, h2⟩ | ⟨g, cap, cur, h1, _⟩
    · exact ⟨none, 0, by rw [h1, h2]⟩
    · exact ⟨_, _, h1⟩
  subst hvP
  have hcell : w.cell? ⟨dd, 1, none⟩ = some (.slice aP d.opens.length cP) := cell_of_block h.blk rfl
  have hfz : w.frozen? ⟨dd, 1, none⟩ = false := frozen_of_block 1 h.blk
  have hne : some dd ≠ (Value.slice aP d.opens.length cP).ownBlock := fun e => h.ne_blocks.2.1 e.symm
  have hBw : B ≤ w.heap.size := Nat.le_trans h.hB (Nat.le_of_lt (heap_lt h.blk))
  have hbW : Below w.heap.size w ((w.alloc (Obj.cells #[Value.int .i64 (p : Int)] 3)).alloc (Obj.cells #[Value.string ⟨#[100, 111]⟩, Value.int .i64 (p : Int), Value.slice (some ⟨w.heap.size, 0, none⟩) 1 1] 223)) := ((Below.refl _ _).alloc (Nat.le_refl _) _).alloc (by simp) _
  have hnew : ((w.alloc (Obj.cells #[Value.int .i64 (p : Int)] 3)).alloc (Obj.cells #[Value.string ⟨#[100, 111]⟩, Value.int .i64 (p : Int), Value.slice (some ⟨w.heap.size, 0, none⟩) 1 1] 223)).heap[(w.heap.size + 1)]? = some (.cells #[Value.string ⟨#[100, 111]⟩, Value.int .i64 (p : Int), Value.slice (some ⟨w.heap.size, 0, none⟩) 1 1] 223) := heap_two w _ _
  have hown : ((w.alloc (Obj.cells #[Value.int .i64 (p : Int)] 3)).alloc (Obj.cells #[Value.string ⟨#[100, 111]⟩, Value.int .i64 (p : Int), Value.slice (some ⟨w.heap.size, 0, none⟩) 1 1] 223)).ownsRow B 223 3 (.slice aP d.opens.length cP) d.opens.length (partCells d.opens.reverse pv) := (h.opens.alloc _).alloc _
  have hwts : ((w.alloc (Obj.cells #[Value.int .i64 (p : Int)] 3)).alloc (Obj.cells #[Value.string ⟨#[100, 111]⟩, Value.int .i64 (p : Int), Value.slice (some ⟨w.heap.size, 0, none⟩) 1 1] 223)).ownsRow w.heap.size 3 1 (.slice (some ⟨w.heap.size, 0, none⟩) 1 1) ([p] : List Nat).length (([p] : List Nat).map natCell) := by
    have h1 : (w.alloc (Obj.cells #[Value.int .i64 (p : Int)] 3)).ownsRow w.heap.size 3 1 (.slice (some ⟨w.heap.size, 0, none⟩) 1 1) 1 [natCell p] := ⟨rfl, .inr ⟨w.heap.size, 1, #[Value.int .i64 (p : Int)], rfl, Nat.le_refl _, heap_alloc_new w _, Nat.le_refl _, by decide, rfl, rfl⟩⟩
    exact h1.alloc _
  have e1 : ((w.alloc (Obj.cells #[Value.int .i64 (p : Int)] 3)).alloc (Obj.cells #[Value.string ⟨#[100, 111]⟩, Value.int .i64 (p : Int), Value.slice (some ⟨w.heap.size, 0, none⟩) 1 1] 223)).cell? ⟨dd, 1, none⟩ = some (.slice aP d.opens.length cP) := cell_alloc (cell_alloc hcell _) _
  have f1 : ((w.alloc (Obj.cells #[Value.int .i64 (p : Int)] 3)).alloc (Obj.cells #[Value.string ⟨#[100, 111]⟩, Value.int .i64 (p : Int), Value.slice (some ⟨w.heap.size, 0, none⟩) 1 1] 223)).frozen? ⟨dd, 1, none⟩ = false := grown_fz (World.grownBy_alloc _ _ none) (cell_alloc hcell _) (grown_fz (World.grownBy_alloc _ _ none) hcell hfz (by simp)) (by simp)
  have H := hide h
  have HW := hide hwts
  have HO := hide hown
  have HN := hide hnew
  have HB := hide hbW
  have hlen := partCells_len h.plen
  rw [List.length_reverse] at hlen
  have hfew2 := hfew
  clear h hwts hown hnew hbW hfz
  go_enter Tryz.func140, Tryz.ntmps140
  go_wp2_with (
    at_builtin
    refine wpList_append_lies _ (by rfl) (.tmp 16) (.tmp 22) 199 (by rfl) B 223 i3 (.agg #[.string ⟨#[]⟩, .int .i64 0, .slice none 0 0]) 3 48 Tryz.underlying199 hi hz hs hby rfl (by decide) (.slice aP d.opens.length cP) d.opens.length (partCells d.opens.reverse pv) (by rfl) (by exact unhide HO) ⟨(w.heap.size + 1), 0, none⟩ 1 1 [.string ⟨#[100, 111]⟩, .int .i64 (p : Int), .slice (some ⟨w.heap.size, 0, none⟩) 1 1] (by rfl) rfl (World.news_of_block (unhide HN)) (fun u hu => by simp at hu; rcases hu with rfl | rfl | rfl <;> rfl) (by decide) (by unfold maxLen; omega) (by omega) (by have := (unhide HB).size; omega) _ rfl ?_
    intro g3 cap3 w3 hown3 hgrow3 hat3 hlt3
    have e5 := hgrow3.cell e1 hne
    have f5 := grown_fz hgrow3 e1 f1 hne
    have G3 := hide hgrow3
    have O3 := hide hown3
    clear hgrow3 hown3 hat3)
  go_end0
  have hpush := (unhide H).push (unhide HB) ⟨N.wDo, p, [p]⟩ (unhide HW) (unhide G3) (unhide O3) hfew2 ⟨hp60, by simp, fun q hq => by rw [List.mem_singleton] at hq; subst hq; exact hpl⟩
  exact ⟨rfl, _, _, hpush.1, hpush.2⟩

set_option maxRecDepth 100000 in
set_option maxHeartbeats 1600000 in
theorem settle_begin (B : Nat) (w : World) (dd p : Nat) (vD vP : Value) (pv : List Value) (wv : List Own) (d : N.Draft) (h : DraftAt B w dd vD vP pv wv d) (hp60 : p ≤ 60) (hfew : d.opens.length + 1 ≤ 60) :
    Calls Tryz.prog 140 #[.pointer (some ⟨dd, 0, none⟩), .string ⟨#[98, 101, 103, 105, 110]⟩, .int .i64 p] w fun r w' => r = .returned (.tuple #[]) ∧ ∃ vP' pv', DraftAt B w' dd vD vP' pv' wv ⟨d.body, ⟨N.wBegin, p, []⟩ :: d.opens⟩ ∧ Below B w w' := by
  obtain ⟨i3, hi, hz, hs, hby⟩ := infoOpening
  obtain ⟨aP, cP, hvP⟩ : ∃ a c, vP = .slice a d.opens.length c := by
    rcases h.opens.2 with ⟨h1, h2⟩ | ⟨g, cap, cur, h1, _⟩
    · exact ⟨none, 0, by rw [h1, h2]⟩
    · exact ⟨_, _, h1⟩
  subst hvP
  have hcell : w.cell? ⟨dd, 1, none⟩ = some (.slice aP d.opens.length cP) := cell_of_block h.blk rfl
  have hfz : w.frozen? ⟨dd, 1, none⟩ = false := frozen_of_block 1 h.blk
  have hne : some dd ≠ (Value.slice aP d.opens.length cP).ownBlock := fun e => h.ne_blocks.2.1 e.symm
  have hBw : B ≤ w.heap.size := Nat.le_trans h.hB (Nat.le_of_lt (heap_lt h.blk))
  have hbW : Below w.heap.size w (w.alloc (Obj.cells #[Value.string ⟨#[98, 101, 103, 105, 110]⟩, Value.int .i64 (p : Int), Value.slice none 0 0] 223)) := (Below.refl _ _).alloc (Nat.le_refl _) _
  have hnew : (w.alloc (Obj.cells #[Value.string ⟨#[98, 101, 103, 105, 110]⟩, Value.int .i64 (p : Int), Value.slice none 0 0] 223)).heap[w.heap.size]? = some (.cells #[Value.string ⟨#[98, 101, 103, 105, 110]⟩, Value.int .i64 (p : Int), Value.slice none 0 0] 223) := heap_alloc_new w _
  have hown : (w.alloc (Obj.cells #[Value.string ⟨#[98, 101, 103, 105, 110]⟩, Value.int .i64 (p : Int), Value.slice none 0 0] 223)).ownsRow B 223 3 (.slice aP d.opens.length cP) d.opens.length (partCells d.opens.reverse pv) := h.opens.alloc _
  have hwts : (w.alloc (Obj.cells #[Value.string ⟨#[98, 101, 103, 105, 110]⟩, Value.int .i64 (p : Int), Value.slice none 0 0] 223)).ownsRow w.heap.size 3 1 (.slice none 0 0) ([] : List Nat).length (([] : List Nat).map natCell) := World.ownsRow_nil _ _ _ _
  have e1 : (w.alloc (Obj.cells #[Value.string ⟨#[98, 101, 103, 105, 110]⟩, Value.int .i64 (p : Int), Value.slice none 0 0] 223)).cell? ⟨dd, 1, none⟩ = some (.slice aP d.opens.length cP) := cell_alloc hcell _
  have f1 : (w.alloc (Obj.cells #[Value.string ⟨#[98, 101, 103, 105, 110]⟩, Value.int .i64 (p : Int), Value.slice none 0 0] 223)).frozen? ⟨dd, 1, none⟩ = false := grown_fz (World.grownBy_alloc _ _ none) hcell hfz (by simp)
  have H := hide h
  have HW := hide hwts
  have HO := hide hown
  have HN := hide hnew
  have HB := hide hbW
  have hlen := partCells_len h.plen
  rw [List.length_reverse] at hlen
  have hfew2 := hfew
  clear h hwts hown hnew hbW hfz
  go_enter Tryz.func140, Tryz.ntmps140
  go_wp2_with (
    at_builtin
    refine wpList_append_lies _ (by rfl) (.tmp 32) (.tmp 36) 199 (by rfl) B 223 i3 (.agg #[.string ⟨#[]⟩, .int .i64 0, .slice none 0 0]) 3 48 Tryz.underlying199 hi hz hs hby rfl (by decide) (.slice aP d.opens.length cP) d.opens.length (partCells d.opens.reverse pv) (by rfl) (by exact unhide HO) ⟨w.heap.size, 0, none⟩ 1 1 [.string ⟨#[98, 101, 103, 105, 110]⟩, .int .i64 (p : Int), .slice none 0 0] (by rfl) rfl (World.news_of_block (unhide HN)) (fun u hu => by simp at hu; rcases hu with rfl | rfl | rfl <;> rfl) (by decide) (by unfold maxLen; omega) (by omega) (by have := (unhide HB).size; omega) _ rfl ?_
    intro g3 cap3 w3 hown3 hgrow3 hat3 hlt3
    have e5 := hgrow3.cell e1 hne
    have f5 := grown_fz hgrow3 e1 f1 hne
    have G3 := hide hgrow3
    have O3 := hide hown3
    clear hgrow3 hown3 hat3)
  go_end0
  have hpush := (unhide H).push (unhide HB) ⟨N.wBegin, p, []⟩ (unhide HW) (unhide G3) (unhide O3) hfew2 ⟨hp60, by simp, fun q hq => by simp at hq⟩
  exact ⟨rfl, _, _, hpush.1, hpush.2⟩

end Go.Proofs.YtgnlokmeohffaaaGreatDoor
/- settle: words that end a part, and such that do neither. (Written by tools/mksettle.py.) -/
namespace Go.Proofs.YtgnlokmeohffaaaGreatDoor
open Go.RowKit
attribute [local go_sem ↓] Go.wp_at_zero Go.wp_at_succ

set_option maxRecDepth 100000 in
set_option maxHeartbeats 1600000 in
theorem settle_else (B : Nat) (w : World) (dd p : Nat) (vD vP : Value) (pv : List Value) (wv : List Own) (b : List (N.Cell × Nat)) (o : N.Part) (t : List N.Part) (h : DraftAt B w dd vD vP pv wv ⟨b, o :: t⟩) (hw : ∀ p ∈ o.waits, ∃ c g, b[p]? = some (c, g) ∧ c.kind = 4) (hp60 : p ≤ 60) (hpl : p < b.length) :
    Calls Tryz.prog 140 #[.pointer (some ⟨dd, 0, none⟩), .string ⟨#[101, 108, 115, 101]⟩, .int .i64 p] w fun r w' => r = .returned (.tuple #[]) ∧ ∃ vP' pv', DraftAt B w' dd vD vP' pv' wv ⟨(N.shut ⟨b, o :: t⟩).body, ⟨N.wElse, p, [p]⟩ :: (N.shut ⟨b, o :: t⟩).opens⟩ ∧ Below B w w' := by
  have hsh := shut_any B w dd vD vP pv wv b o t h hw
  have hfew0 := h.few
  have hlenb : (N.shut ⟨b, o :: t⟩).body.length = b.length := goOns_len _ _ _
  have hfew : (N.shut ⟨b, o :: t⟩).opens.length + 1 ≤ 60 := by
    simp only [List.length_cons] at hfew0
    exact hfew0
  generalize N.shut ⟨b, o :: t⟩ = d at *
  have HS := hide hsh
  clear hsh h hfew0
  obtain ⟨i3, hi, hz, hs, hby⟩ := infoOpening
  go_enter Tryz.func140, Tryz.ntmps140
  go_wp2_with fail
  refine (unhide HS).mono ?_
  rintro e w2 ⟨rfl, vP2, pv2, h, hbw⟩
  obtain ⟨aP, cP, hvP⟩ : ∃ a c, vP2 = .slice a d.opens.length c := by
    rcases h.opens.2 with ⟨h1, h2⟩ | ⟨g, cap, cur, h1, _⟩
    · exact ⟨none, 0, by rw [h1, h2]⟩
    · exact ⟨_, _, h1⟩
  subst hvP
  have hcell : w2.cell? ⟨dd, 1, none⟩ = some (.slice aP d.opens.length cP) := cell_of_block h.blk rfl
  have hfz : w2.frozen? ⟨dd, 1, none⟩ = false := frozen_of_block 1 h.blk
  have hne : some dd ≠ (Value.slice aP d.opens.length cP).ownBlock := fun e => h.ne_blocks.2.1 e.symm
  have hBw : B ≤ w2.heap.size := Nat.le_trans h.hB (Nat.le_of_lt (heap_lt h.blk))
  have hbW : Below w2.heap.size w2 ((w2.alloc (Obj.cells #[Value.int .i64 (p : Int)] 3)).alloc (Obj.cells #[Value.string ⟨#[101, 108, 115, 101]⟩, Value.int .i64 (p : Int), Value.slice (some ⟨w2.heap.size, 0, none⟩) 1 1] 223)) := ((Below.refl _ _).alloc (Nat.le_refl _) _).alloc (by simp) _
  have hnew : ((w2.alloc (Obj.cells #[Value.int .i64 (p : Int)] 3)).alloc (Obj.cells #[Value.string ⟨#[101, 108, 115, 101]⟩, Value.int .i64 (p : Int), Value.slice (some ⟨w2.heap.size, 0, none⟩) 1 1] 223)).heap[(w2.heap.size + 1)]? = some (.cells #[Value.string ⟨#[101, 108, 115, 101]⟩, Value.int .i64 (p : Int), Value.slice (some ⟨w2.heap.size, 0, none⟩) 1 1] 223) := heap_two w2 _ _
  have hown : ((w2.alloc (Obj.cells #[Value.int .i64 (p : Int)] 3)).alloc (Obj.cells #[Value.string ⟨#[101, 108, 115, 101]⟩, Value.int .i64 (p : Int), Value.slice (some ⟨w2.heap.size, 0, none⟩) 1 1] 223)).ownsRow B 223 3 (.slice aP d.opens.length cP) d.opens.length (partCells d.opens.reverse pv2) := (h.opens.alloc _).alloc _
  have hwts : ((w2.alloc (Obj.cells #[Value.int .i64 (p : Int)] 3)).alloc (Obj.cells #[Value.string ⟨#[101, 108, 115, 101]⟩, Value.int .i64 (p : Int), Value.slice (some ⟨w2.heap.size, 0, none⟩) 1 1] 223)).ownsRow w2.heap.size 3 1 (.slice (some ⟨w2.heap.size, 0, none⟩) 1 1) ([p] : List Nat).length (([p] : List Nat).map natCell) := by
    have h1 : (w2.alloc (Obj.cells #[Value.int .i64 (p : Int)] 3)).ownsRow w2.heap.size 3 1 (.slice (some ⟨w2.heap.size, 0, none⟩) 1 1) 1 [natCell p] := ⟨rfl, .inr ⟨w2.heap.size, 1, #[Value.int .i64 (p : Int)], rfl, Nat.le_refl _, heap_alloc_new w2 _, Nat.le_refl _, by decide, rfl, rfl⟩⟩
    exact h1.alloc _
  have e1 : ((w2.alloc (Obj.cells #[Value.int .i64 (p : Int)] 3)).alloc (Obj.cells #[Value.string ⟨#[101, 108, 115, 101]⟩, Value.int .i64 (p : Int), Value.slice (some ⟨w2.heap.size, 0, none⟩) 1 1] 223)).cell? ⟨dd, 1, none⟩ = some (.slice aP d.opens.length cP) := cell_alloc (cell_alloc hcell _) _
  have f1 : ((w2.alloc (Obj.cells #[Value.int .i64 (p : Int)] 3)).alloc (Obj.cells #[Value.string ⟨#[101, 108, 115, 101]⟩, Value.int .i64 (p : Int), Value.slice (some ⟨w2.heap.size, 0, none⟩) 1 1] 223)).frozen? ⟨dd, 1, none⟩ = false := grown_fz (World.grownBy_alloc _ _ none) (cell_alloc hcell _) (grown_fz (World.grownBy_alloc _ _ none) hcell hfz (by simp)) (by simp)
  have H := hide h
  have HW := hide hwts
  have HO := hide hown
  have HN := hide hnew
  have HB := hide hbW
  have HBw := hide hbw
  have hlen := partCells_len h.plen
  rw [List.length_reverse] at hlen
  clear h hwts hown hnew hbW hfz hbw
  go_wp2_with (
    at_builtin
    refine wpList_append_lies _ (by rfl) (.tmp 48) (.tmp 54) 199 (by rfl) B 223 i3 (.agg #[.string ⟨#[]⟩, .int .i64 0, .slice none 0 0]) 3 48 Tryz.underlying199 hi hz hs hby rfl (by decide) (.slice aP d.opens.length cP) d.opens.length (partCells d.opens.reverse pv2) (by rfl) (by exact unhide HO) ⟨(w2.heap.size + 1), 0, none⟩ 1 1 [.string ⟨#[101, 108, 115, 101]⟩, .int .i64 (p : Int), .slice (some ⟨w2.heap.size, 0, none⟩) 1 1] (by rfl) rfl (World.news_of_block (unhide HN)) (fun u hu => by simp at hu; rcases hu with rfl | rfl | rfl <;> rfl) (by decide) (by unfold maxLen; omega) (by omega) (by have := (unhide HB).size; omega) _ rfl ?_
    intro g3 cap3 w3 hown3 hgrow3 hat3 hlt3
    have e5 := hgrow3.cell e1 hne
    have f5 := grown_fz hgrow3 e1 f1 hne
    have G3 := hide hgrow3
    have O3 := hide hown3
    clear hgrow3 hown3 hat3)
  go_end0
  have hpush := (unhide H).push (unhide HB) ⟨N.wElse, p, [p]⟩ (unhide HW) (unhide G3) (unhide O3) hfew ⟨hp60, by simp, fun q hq => by rw [List.mem_singleton] at hq; subst hq; omega⟩
  exact ⟨rfl, _, _, hpush.1, (unhide HBw).trans hpush.2⟩

set_option maxRecDepth 100000 in
set_option maxHeartbeats 1600000 in
theorem settle_then (B : Nat) (w : World) (dd p : Nat) (vD vP : Value) (pv : List Value) (wv : List Own) (b : List (N.Cell × Nat)) (o : N.Part) (t : List N.Part) (h : DraftAt B w dd vD vP pv wv ⟨b, o :: t⟩) (hw : ∀ p ∈ o.waits, ∃ c g, b[p]? = some (c, g) ∧ c.kind = 4) :
    Calls Tryz.prog 140 #[.pointer (some ⟨dd, 0, none⟩), .string ⟨#[116, 104, 101, 110]⟩, .int .i64 p] w fun r w' => r = .returned (.tuple #[]) ∧ ∃ vP' pv', DraftAt B w' dd vD vP' pv' wv (N.shut ⟨b, o :: t⟩) ∧ Below B w w' := by
  have HS := hide (shut_any B w dd vD vP pv wv b o t h hw)
  clear h hw
  go_enter Tryz.func140, Tryz.ntmps140
  go_wp2_with fail
  refine (unhide HS).mono ?_
  rintro e w2 ⟨rfl, hh⟩
  have HH := hide hh
  clear hh
  go_wp2
  go_end0
  exact ⟨rfl, unhide HH⟩

set_option maxRecDepth 100000 in
set_option maxHeartbeats 1600000 in
theorem settle_until (B : Nat) (w : World) (dd p : Nat) (vD vP : Value) (pv : List Value) (wv : List Own) (b : List (N.Cell × Nat)) (o : N.Part) (t : List N.Part) (c : N.Cell) (g0 : Nat) (h : DraftAt B w dd vD vP pv wv ⟨b, o :: t⟩) (hw : ∀ p ∈ o.waits, ∃ c g, b[p]? = some (c, g) ∧ c.kind = 4) (hc : b[p]? = some (c, g0)) (hk : c.kind = 4) :
    Calls Tryz.prog 140 #[.pointer (some ⟨dd, 0, none⟩), .string ⟨#[117, 110, 116, 105, 108]⟩, .int .i64 p] w fun r w' => r = .returned (.tuple #[]) ∧ ∃ vP' pv', DraftAt B w' dd vD vP' pv' wv (N.shut ⟨N.goOn b p (o.start + 1), o :: t⟩) ∧ Below B w w' := by
  have hgo : ∀ W, Below w.heap.size w W → Calls Tryz.prog 146 #[.pointer (some ⟨dd, 0, none⟩), .int .i64 p, .int .i64 ((o.start : Int) + 1)] W fun r w' => r = .returned (.tuple #[]) ∧ DraftAt B w' dd vD vP pv wv ⟨N.goOn b p (o.start + 1), o :: t⟩ ∧ Below B w w' := fun W hb => by
    have := goOn_any B W dd vD vP pv wv ⟨b, o :: t⟩ p (o.start + 1) c g0 (h.below hb) hc hk
    have hBw : B ≤ w.heap.size := Nat.le_trans h.hB (Nat.le_of_lt (heap_lt h.blk))
    refine this.mono fun r w' hh => ⟨hh.1, hh.2.1, (hb.mono hBw).trans hh.2.2⟩
  have hsh : ∀ w2, DraftAt B w2 dd vD vP pv wv ⟨N.goOn b p (o.start + 1), o :: t⟩ → Calls Tryz.prog 145 #[.pointer (some ⟨dd, 0, none⟩)] w2 fun r w' => r = .returned (.tuple #[]) ∧ ∃ vP' pv', DraftAt B w' dd vD vP' pv' wv (N.shut ⟨N.goOn b p (o.start + 1), o :: t⟩) ∧ Below B w2 w' := fun w2 h2 =>
    shut_any B w2 dd vD vP pv wv _ o t h2 fun q hq => by
      obtain ⟨c', g', h1, h2⟩ := hw q hq
      obtain ⟨g1, h3⟩ := goOns_kind [p] (o.start + 1) h1
      exact ⟨c', g1, h3, h2⟩
  obtain ⟨pv', v, gP, cP, hpv, hpl, hvP, hcP, hBP, _, c1, _, _⟩ := h.last
  subst hvP
  have hfew := h.few
  have hlow := (h.low o List.mem_cons_self).1
  simp only [List.length_cons] at hfew
  have e1 : w.cell? ⟨dd, 1, none⟩ = some (.slice (some ⟨gP, 0, none⟩) (t.length + 1) cP) := cell_of_block h.blk rfl
  have HG := hide hgo
  have HS := hide hsh
  clear hgo hsh h hw hc
  generalize hm : t.length = m at *
  generalize hn : m + 1 = n at *
  have i0 : IntKind.i64.wrap ((n : Int) - 1) = (m : Int) := by rw [IntKind.wrap_i64]; omega
  have i1 : (0 : Int) ≤ (m : Int) := by omega
  have i2 : (m : Int) < (n : Int) := by omega
  have i3 : IntKind.i64.wrap ((o.start : Int) + 1) = (o.start : Int) + 1 := by rw [IntKind.wrap_i64]; omega
  have Hn := hide hn
  clear hn hm
  go_enter Tryz.func140, Tryz.ntmps140
  go_wp2
  go_region_held3 (fun w' => w'.cell? ⟨dd, 1, none⟩ = some (.slice (some ⟨gP, 0, none⟩) n cP) ∧ w'.cell? ⟨gP, m * 3 + 1, none⟩ = some (.int .i64 (o.start : Int))) (first | exact ⟨e1, c1⟩ | exact (by assumption) | go_keep)
    ((go_at_call 146; refine (unhide HG _ (Below.refl _ _).drew).mono ?_
      rintro e w2 ⟨rfl, hd2, hb2⟩
      have hlast := hd2.last
      have e1 : w2.cell? ⟨dd, 1, none⟩ = some (.slice (some ⟨gP, 0, none⟩) n cP) := cell_of_block hd2.blk rfl
      have c1 : w2.cell? ⟨gP, m * 3 + 1, none⟩ = some (.int .i64 (o.start : Int)) := by
        obtain ⟨_, _, g', c', _, _, hv', _, _, _, hc1, _⟩ := hlast
        have ht : t.length = m := by
          have := congrArg (fun v => match v with | Value.slice _ k _ => k | _ => 0) hv'
          simp only at this
          have := unhide Hn
          omega
        injection hv' with hv1
        injection hv1 with hv1
        injection hv1 with hv1
        rw [hv1, ← ht]
        exact hc1
      have HD2 := hide (And.intro hd2 hb2)
      clear hd2 hb2 hlast))
  go_wp2_with fail
  refine (unhide HS _ (unhide HD2).1).mono ?_
  rintro e w3 ⟨rfl, vP', pv2, hd3, hb3⟩
  have H3 := hide (And.intro hd3 ((unhide HD2).2.trans hb3))
  clear hd3 hb3
  go_wp2
  go_end0
  exact ⟨rfl, vP', pv2, (unhide H3).1, (unhide H3).2⟩

set_option maxRecDepth 100000 in
set_option maxHeartbeats 1600000 in
theorem settle_again (B : Nat) (w : World) (dd p : Nat) (vD vP : Value) (pv : List Value) (wv : List Own) (b : List (N.Cell × Nat)) (o : N.Part) (t : List N.Part) (c : N.Cell) (g0 : Nat) (h : DraftAt B w dd vD vP pv wv ⟨b, o :: t⟩) (hw : ∀ p ∈ o.waits, ∃ c g, b[p]? = some (c, g) ∧ c.kind = 4) (hc : b[p]? = some (c, g0)) (hk : c.kind = 4) :
    Calls Tryz.prog 140 #[.pointer (some ⟨dd, 0, none⟩), .string ⟨#[97, 103, 97, 105, 110]⟩, .int .i64 p] w fun r w' => r = .returned (.tuple #[]) ∧ ∃ vP' pv', DraftAt B w' dd vD vP' pv' wv (N.shut ⟨N.goOn b p (o.start + 1), o :: t⟩) ∧ Below B w w' := by
  have hgo : ∀ W, Below w.heap.size w W → Calls Tryz.prog 146 #[.pointer (some ⟨dd, 0, none⟩), .int .i64 p, .int .i64 ((o.start : Int) + 1)] W fun r w' => r = .returned (.tuple #[]) ∧ DraftAt B w' dd vD vP pv wv ⟨N.goOn b p (o.start + 1), o :: t⟩ ∧ Below B w w' := fun W hb => by
    have := goOn_any B W dd vD vP pv wv ⟨b, o :: t⟩ p (o.start + 1) c g0 (h.below hb) hc hk
    have hBw : B ≤ w.heap.size := Nat.le_trans h.hB (Nat.le_of_lt (heap_lt h.blk))
    refine this.mono fun r w' hh => ⟨hh.1, hh.2.1, (hb.mono hBw).trans hh.2.2⟩
  have hsh : ∀ w2, DraftAt B w2 dd vD vP pv wv ⟨N.goOn b p (o.start + 1), o :: t⟩ → Calls Tryz.prog 145 #[.pointer (some ⟨dd, 0, none⟩)] w2 fun r w' => r = .returned (.tuple #[]) ∧ ∃ vP' pv', DraftAt B w' dd vD vP' pv' wv (N.shut ⟨N.goOn b p (o.start + 1), o :: t⟩) ∧ Below B w2 w' := fun w2 h2 =>
    shut_any B w2 dd vD vP pv wv _ o t h2 fun q hq => by
      obtain ⟨c', g', h1, h2⟩ := hw q hq
      obtain ⟨g1, h3⟩ := goOns_kind [p] (o.start + 1) h1
      exact ⟨c', g1, h3, h2⟩
  obtain ⟨pv', v, gP, cP, hpv, hpl, hvP, hcP, hBP, _, c1, _, _⟩ := h.last
  subst hvP
  have hfew := h.few
  have hlow := (h.low o List.mem_cons_self).1
  simp only [List.length_cons] at hfew
  have e1 : w.cell? ⟨dd, 1, none⟩ = some (.slice (some ⟨gP, 0, none⟩) (t.length + 1) cP) := cell_of_block h.blk rfl
  have HG := hide hgo
  have HS := hide hsh
  clear hgo hsh h hw hc
  generalize hm : t.length = m at *
  generalize hn : m + 1 = n at *
  have i0 : IntKind.i64.wrap ((n : Int) - 1) = (m : Int) := by rw [IntKind.wrap_i64]; omega
  have i1 : (0 : Int) ≤ (m : Int) := by omega
  have i2 : (m : Int) < (n : Int) := by omega
  have i3 : IntKind.i64.wrap ((o.start : Int) + 1) = (o.start : Int) + 1 := by rw [IntKind.wrap_i64]; omega
  have Hn := hide hn
  clear hn hm
  go_enter Tryz.func140, Tryz.ntmps140
  go_wp2
  go_region_held3 (fun w' => w'.cell? ⟨dd, 1, none⟩ = some (.slice (some ⟨gP, 0, none⟩) n cP) ∧ w'.cell? ⟨gP, m * 3 + 1, none⟩ = some (.int .i64 (o.start : Int))) (first | exact ⟨e1, c1⟩ | exact (by assumption) | go_keep)
    ((go_at_call 146; refine (unhide HG _ (Below.refl _ _).drew).mono ?_
      rintro e w2 ⟨rfl, hd2, hb2⟩
      have hlast := hd2.last
      have e1 : w2.cell? ⟨dd, 1, none⟩ = some (.slice (some ⟨gP, 0, none⟩) n cP) := cell_of_block hd2.blk rfl
      have c1 : w2.cell? ⟨gP, m * 3 + 1, none⟩ = some (.int .i64 (o.start : Int)) := by
        obtain ⟨_, _, g', c', _, _, hv', _, _, _, hc1, _⟩ := hlast
        have ht : t.length = m := by
          have := congrArg (fun v => match v with | Value.slice _ k _ => k | _ => 0) hv'
          simp only at this
          have := unhide Hn
          omega
        injection hv' with hv1
        injection hv1 with hv1
        injection hv1 with hv1
        rw [hv1, ← ht]
        exact hc1
      have HD2 := hide (And.intro hd2 hb2)
      clear hd2 hb2 hlast))
  go_wp2_with fail
  refine (unhide HS _ (unhide HD2).1).mono ?_
  rintro e w3 ⟨rfl, vP', pv2, hd3, hb3⟩
  have H3 := hide (And.intro hd3 ((unhide HD2).2.trans hb3))
  clear hd3 hb3
  go_wp2
  go_end0
  exact ⟨rfl, vP', pv2, (unhide H3).1, (unhide H3).2⟩

set_option maxRecDepth 100000 in
set_option maxHeartbeats 1600000 in
theorem settle_repeat (B : Nat) (w : World) (dd p : Nat) (vD vP : Value) (pv : List Value) (wv : List Own) (b : List (N.Cell × Nat)) (o : N.Part) (t : List N.Part) (c : N.Cell) (g0 : Nat) (h : DraftAt B w dd vD vP pv wv ⟨b, o :: t⟩) (hw : ∀ p ∈ o.waits, ∃ c g, b[p]? = some (c, g) ∧ c.kind = 4) (hc : b[p]? = some (c, g0)) (hk : c.kind = 4) :
    Calls Tryz.prog 140 #[.pointer (some ⟨dd, 0, none⟩), .string ⟨#[114, 101, 112, 101, 97, 116]⟩, .int .i64 p] w fun r w' => r = .returned (.tuple #[]) ∧ ∃ vP' pv', DraftAt B w' dd vD vP' pv' wv (N.shut ⟨N.goOn b p (o.start + 1), o :: t⟩) ∧ Below B w w' := by
  have hgo : ∀ W, Below w.heap.size w W → Calls Tryz.prog 146 #[.pointer (some ⟨dd, 0, none⟩), .int .i64 p, .int .i64 ((o.start : Int) + 1)] W fun r w' => r = .returned (.tuple #[]) ∧ DraftAt B w' dd vD vP pv wv ⟨N.goOn b p (o.start + 1), o :: t⟩ ∧ Below B w w' := fun W hb => by
    have := goOn_any B W dd vD vP pv wv ⟨b, o :: t⟩ p (o.start + 1) c g0 (h.below hb) hc hk
    have hBw : B ≤ w.heap.size := Nat.le_trans h.hB (Nat.le_of_lt (heap_lt h.blk))
    refine this.mono fun r w' hh => ⟨hh.1, hh.2.1, (hb.mono hBw).trans hh.2.2⟩
  have hsh : ∀ w2, DraftAt B w2 dd vD vP pv wv ⟨N.goOn b p (o.start + 1), o :: t⟩ → Calls Tryz.prog 145 #[.pointer (some ⟨dd, 0, none⟩)] w2 fun r w' => r = .returned (.tuple #[]) ∧ ∃ vP' pv', DraftAt B w' dd vD vP' pv' wv (N.shut ⟨N.goOn b p (o.start + 1), o :: t⟩) ∧ Below B w2 w' := fun w2 h2 =>
    shut_any B w2 dd vD vP pv wv _ o t h2 fun q hq => by
      obtain ⟨c', g', h1, h2⟩ := hw q hq
      obtain ⟨g1, h3⟩ := goOns_kind [p] (o.start + 1) h1
      exact ⟨c', g1, h3, h2⟩
  obtain ⟨pv', v, gP, cP, hpv, hpl, hvP, hcP, hBP, _, c1, _, _⟩ := h.last
  subst hvP
  have hfew := h.few
  have hlow := (h.low o List.mem_cons_self).1
  simp only [List.length_cons] at hfew
  have e1 : w.cell? ⟨dd, 1, none⟩ = some (.slice (some ⟨gP, 0, none⟩) (t.length + 1) cP) := cell_of_block h.blk rfl
  have HG := hide hgo
  have HS := hide hsh
  clear hgo hsh h hw hc
  generalize hm : t.length = m at *
  generalize hn : m + 1 = n at *
  have i0 : IntKind.i64.wrap ((n : Int) - 1) = (m : Int) := by rw [IntKind.wrap_i64]; omega
  have i1 : (0 : Int) ≤ (m : Int) := by omega
  have i2 : (m : Int) < (n : Int) := by omega
  have i3 : IntKind.i64.wrap ((o.start : Int) + 1) = (o.start : Int) + 1 := by rw [IntKind.wrap_i64]; omega
  have Hn := hide hn
  clear hn hm
  go_enter Tryz.func140, Tryz.ntmps140
  go_wp2
  go_region_held3 (fun w' => w'.cell? ⟨dd, 1, none⟩ = some (.slice (some ⟨gP, 0, none⟩) n cP) ∧ w'.cell? ⟨gP, m * 3 + 1, none⟩ = some (.int .i64 (o.start : Int))) (first | exact ⟨e1, c1⟩ | exact (by assumption) | go_keep)
    ((go_at_call 146; refine (unhide HG _ (Below.refl _ _).drew).mono ?_
      rintro e w2 ⟨rfl, hd2, hb2⟩
      have hlast := hd2.last
      have e1 : w2.cell? ⟨dd, 1, none⟩ = some (.slice (some ⟨gP, 0, none⟩) n cP) := cell_of_block hd2.blk rfl
      have c1 : w2.cell? ⟨gP, m * 3 + 1, none⟩ = some (.int .i64 (o.start : Int)) := by
        obtain ⟨_, _, g', c', _, _, hv', _, _, _, hc1, _⟩ := hlast
        have ht : t.length = m := by
          have := congrArg (fun v => match v with | Value.slice _ k _ => k | _ => 0) hv'
          simp only at this
          have := unhide Hn
          omega
        injection hv' with hv1
        injection hv1 with hv1
        injection hv1 with hv1
        rw [hv1, ← ht]
        exact hc1
      have HD2 := hide (And.intro hd2 hb2)
      clear hd2 hb2 hlast))
  go_wp2_with fail
  refine (unhide HS _ (unhide HD2).1).mono ?_
  rintro e w3 ⟨rfl, vP', pv2, hd3, hb3⟩
  have H3 := hide (And.intro hd3 ((unhide HD2).2.trans hb3))
  clear hd3 hb3
  go_wp2
  go_end0
  exact ⟨rfl, vP', pv2, (unhide H3).1, (unhide H3).2⟩

set_option maxRecDepth 100000 in
set_option maxHeartbeats 1600000 in
theorem settle_loop (B : Nat) (w : World) (dd p : Nat) (vD vP : Value) (pv : List Value) (wv : List Own) (b : List (N.Cell × Nat)) (o : N.Part) (t : List N.Part) (c : N.Cell) (g0 : Nat) (h : DraftAt B w dd vD vP pv wv ⟨b, o :: t⟩) (hw : ∀ p ∈ o.waits, ∃ c g, b[p]? = some (c, g) ∧ c.kind = 4) (hc : b[p]? = some (c, g0)) (hk : c.kind = 4) :
    Calls Tryz.prog 140 #[.pointer (some ⟨dd, 0, none⟩), .string ⟨#[108, 111, 111, 112]⟩, .int .i64 p] w fun r w' => r = .returned (.tuple #[]) ∧ ∃ vP' pv', DraftAt B w' dd vD vP' pv' wv (N.shut ⟨N.goOn b p (o.start + 1), o :: t⟩) ∧ Below B w w' := by
  have hgo : ∀ W, Below w.heap.size w W → Calls Tryz.prog 146 #[.pointer (some ⟨dd, 0, none⟩), .int .i64 p, .int .i64 ((o.start : Int) + 1)] W fun r w' => r = .returned (.tuple #[]) ∧ DraftAt B w' dd vD vP pv wv ⟨N.goOn b p (o.start + 1), o :: t⟩ ∧ Below B w w' := fun W hb => by
    have := goOn_any B W dd vD vP pv wv ⟨b, o :: t⟩ p (o.start + 1) c g0 (h.below hb) hc hk
    have hBw : B ≤ w.heap.size := Nat.le_trans h.hB (Nat.le_of_lt (heap_lt h.blk))
    refine this.mono fun r w' hh => ⟨hh.1, hh.2.1, (hb.mono hBw).trans hh.2.2⟩
  have hsh : ∀ w2, DraftAt B w2 dd vD vP pv wv ⟨N.goOn b p (o.start + 1), o :: t⟩ → Calls Tryz.prog 145 #[.pointer (some ⟨dd, 0, none⟩)] w2 fun r w' => r = .returned (.tuple #[]) ∧ ∃ vP' pv', DraftAt B w' dd vD vP' pv' wv (N.shut ⟨N.goOn b p (o.start + 1), o :: t⟩) ∧ Below B w2 w' := fun w2 h2 =>
    shut_any B w2 dd vD vP pv wv _ o t h2 fun q hq => by
      obtain ⟨c', g', h1, h2⟩ := hw q hq
      obtain ⟨g1, h3⟩ := goOns_kind [p] (o.start + 1) h1
      exact ⟨c', g1, h3, h2⟩
  obtain ⟨pv', v, gP, cP, hpv, hpl, hvP, hcP, hBP, _, c1, _, _⟩ := h.last
  subst hvP
  have hfew := h.few
  have hlow := (h.low o List.mem_cons_self).1
  simp only [List.length_cons] at hfew
  have e1 : w.cell? ⟨dd, 1, none⟩ = some (.slice (some ⟨gP, 0, none⟩) (t.length + 1) cP) := cell_of_block h.blk rfl
  have HG := hide hgo
  have HS := hide hsh
  clear hgo hsh h hw hc
  generalize hm : t.length = m at *
  generalize hn : m + 1 = n at *
  have i0 : IntKind.i64.wrap ((n : Int) - 1) = (m : Int) := by rw [IntKind.wrap_i64]; omega
  have i1 : (0 : Int) ≤ (m : Int) := by omega
  have i2 : (m : Int) < (n : Int) := by omega
  have i3 : IntKind.i64.wrap ((o.start : Int) + 1) = (o.start : Int) + 1 := by rw [IntKind.wrap_i64]; omega
  have Hn := hide hn
  clear hn hm
  go_enter Tryz.func140, Tryz.ntmps140
  go_wp2
  go_region_held3 (fun w' => w'.cell? ⟨dd, 1, none⟩ = some (.slice (some ⟨gP, 0, none⟩) n cP) ∧ w'.cell? ⟨gP, m * 3 + 1, none⟩ = some (.int .i64 (o.start : Int))) (first | exact ⟨e1, c1⟩ | exact (by assumption) | go_keep)
    ((go_at_call 146; refine (unhide HG _ (Below.refl _ _).drew).mono ?_
      rintro e w2 ⟨rfl, hd2, hb2⟩
      have hlast := hd2.last
      have e1 : w2.cell? ⟨dd, 1, none⟩ = some (.slice (some ⟨gP, 0, none⟩) n cP) := cell_of_block hd2.blk rfl
      have c1 : w2.cell? ⟨gP, m * 3 + 1, none⟩ = some (.int .i64 (o.start : Int)) := by
        obtain ⟨_, _, g', c', _, _, hv', _, _, _, hc1, _⟩ := hlast
        have ht : t.length = m := by
          have := congrArg (fun v => match v with | Value.slice _ k _ => k | _ => 0) hv'
          simp only at this
          have := unhide Hn
          omega
        injection hv' with hv1
        injection hv1 with hv1
        injection hv1 with hv1
        rw [hv1, ← ht]
        exact hc1
      have HD2 := hide (And.intro hd2 hb2)
      clear hd2 hb2 hlast))
  go_wp2_with fail
  refine (unhide HS _ (unhide HD2).1).mono ?_
  rintro e w3 ⟨rfl, vP', pv2, hd3, hb3⟩
  have H3 := hide (And.intro hd3 ((unhide HD2).2.trans hb3))
  clear hd3 hb3
  go_wp2
  go_end0
  exact ⟨rfl, vP', pv2, (unhide H3).1, (unhide H3).2⟩

set_option maxRecDepth 100000 in
set_option maxHeartbeats 1600000 in
theorem settle_i (w : World) (dd p : Nat) :
    Calls Tryz.prog 140 #[.pointer (some ⟨dd, 0, none⟩), .string ⟨#[105]⟩, .int .i64 p] w fun r w' => r = .returned (.tuple #[]) ∧ w' = w := by
  go_enter Tryz.func140, Tryz.ntmps140
  go_wp2
  go_end0
  exact ⟨rfl, rfl⟩

set_option maxRecDepth 100000 in
set_option maxHeartbeats 1600000 in
theorem settle_exit (w : World) (dd p : Nat) :
    Calls Tryz.prog 140 #[.pointer (some ⟨dd, 0, none⟩), .string ⟨#[101, 120, 105, 116]⟩, .int .i64 p] w fun r w' => r = .returned (.tuple #[]) ∧ w' = w := by
  go_enter Tryz.func140, Tryz.ntmps140
  go_wp2
  go_end0
  exact ⟨rfl, rfl⟩

set_option maxRecDepth 100000 in
set_option maxHeartbeats 1600000 in
theorem settle_recurse (w : World) (dd p : Nat) :
    Calls Tryz.prog 140 #[.pointer (some ⟨dd, 0, none⟩), .string ⟨#[114, 101, 99, 117, 114, 115, 101]⟩, .int .i64 p] w fun r w' => r = .returned (.tuple #[]) ∧ w' = w := by
  go_enter Tryz.func140, Tryz.ntmps140
  go_wp2
  go_end0
  exact ⟨rfl, rfl⟩

end Go.Proofs.YtgnlokmeohffaaaGreatDoor
/- settle: while, leave. -/
namespace Go.Proofs.YtgnlokmeohffaaaGreatDoor
open Go.RowKit
attribute [local go_sem ↓] Go.wp_at_zero Go.wp_at_succ

theorem set_end3 {xs : List Value} {a b c a' c' : Value} (n : Nat) (hn : xs.length = n) : ((xs ++ [a, b, c]).set n a').set (n + 2) c' = xs ++ [a', b, c'] := by
  subst hn
  rw [List.set_append_right _ _ (Nat.le_refl _), Nat.sub_self, List.set_append_right _ _ (by omega), show xs.length + 2 - xs.length = 2 by omega]
  rfl

/-- The innermost part becomes another one. -/
theorem DraftAt.turn {B : Nat} {w W : World} {dd gP cP : Nat} {vD v v' : Value} {pv : List Value} {wv : List Own} {b : List (N.Cell × Nat)} {o : N.Part} {t : List N.Part} (h : DraftAt B w dd vD (.slice (some ⟨gP, 0, none⟩) (t.length + 1) cP) (pv ++ [v]) wv ⟨b, o :: t⟩) (hpl : pv.length = t.reverse.length) (hb : Below w.heap.size w W) (o' : N.Part) (hst : o'.start = o.start)
    (hv : W.ownsRow w.heap.size 3 1 v' o'.waits.length (o'.waits.map natCell)) (hlow : o'.waits.length ≤ 60 ∧ ∀ p ∈ o'.waits, p < b.length) :
    DraftAt B ((W.setCell ⟨gP, t.length * 3, none⟩ (.string ⟨o'.kind.toArray⟩)).setCell ⟨gP, t.length * 3 + 2, none⟩ v') dd vD (.slice (some ⟨gP, 0, none⟩) (t.length + 1) cP) (pv ++ [v']) wv ⟨b, o' :: t⟩ ∧ Below B w ((W.setCell ⟨gP, t.length * 3, none⟩ (.string ⟨o'.kind.toArray⟩)).setCell ⟨gP, t.length * 3 + 2, none⟩ v') := by
  have hW := h.below hb
  obtain ⟨n1, n2, n3, n4⟩ := hW.ne_blocks
  have hBg : B ≤ gP := own_ge h.opens rfl
  have hBw : B ≤ w.heap.size := Nat.le_trans h.hB (Nat.le_of_lt (heap_lt h.blk))
  have hgP : gP < w.heap.size := (h.opens.lt gP rfl).2
  have hoth : ∀ k, k ≠ gP → ((W.setCell ⟨gP, t.length * 3, none⟩ (.string ⟨o'.kind.toArray⟩)).setCell ⟨gP, t.length * 3 + 2, none⟩ v').heap[k]? = W.heap[k]? := fun k hk => (Below.heap_setCell _ _ _ _ hk).trans (Below.heap_setCell _ _ _ _ hk)
  have hrev : ∀ x : N.Part, (x :: t).reverse = t.reverse ++ [x] := fun x => by simp
  have hlen := partCells_len hpl
  rw [List.length_reverse] at hlen
  have hop := hW.opens
  simp only [List.length_cons, hrev] at hop
  rw [partCells_snoc hpl] at hop
  have hs1 := ownsz_set hop (t.length * 3) (by omega) (.string ⟨o'.kind.toArray⟩)
  have hs2 := ownsz_set hs1 (t.length * 3 + 2) (by omega) v'
  rw [set_end3 (t.length * 3) hlen] at hs2
  refine ⟨⟨h.hB, (hoth dd fun e => n2 (by rw [e]; rfl)).trans hW.blk, ownsz_kept hW.body fun k e => hoth k fun e2 => n3 k e (by rw [e2]; rfl), ?_, ?_, ?_, ?_, h.small, h.few, ?_⟩, ((hb.mono hBw).setCell hBg _).setCell hBg _⟩
  · show World.ownsRow _ _ _ _ _ (t.length + 1) (partCells (o' :: t).reverse (pv ++ [v']))
    rw [hrev, partCells_snoc hpl, hst]
    exact hs2
  · rw [hrev, List.length_append, List.length_append, hpl]
    rfl
  · intro i x u h1 h2
    rw [hrev] at h1
    rcases N.snoc_get h1 with h1 | ⟨h1, rfl⟩
    · have hi := (List.getElem?_eq_some_iff.1 h1).1
      rcases N.snoc_get h2 with h2 | ⟨h2, rfl⟩
      · have hw := hW.waits i x u (by rw [hrev, List.getElem?_append_left hi]; exact h1) (by rw [List.getElem?_append_left (by rw [hpl]; exact hi)]; exact h2)
        exact ownsz_kept hw fun k e => hoth k fun e2 => (n4 u (List.mem_append_left _ (List.mem_of_getElem? h2))).2.2 gP rfl (e2 ▸ e)
      · omega
    · rcases N.snoc_get h2 with h2 | ⟨h2, rfl⟩
      · have := (List.getElem?_eq_some_iff.1 h2).1
        omega
      · have hk := ownsz_kept hv (w' := (W.setCell ⟨gP, t.length * 3, none⟩ (.string ⟨x.kind.toArray⟩)).setCell ⟨gP, t.length * 3 + 2, none⟩ u) fun k e => hoth k fun e2 => by
          have := (hv.lt k e).1
          omega
        refine ⟨hk.1, ?_⟩
        rcases hk.2 with y | ⟨g, c, cur, x1, x2, x3⟩
        · exact .inl y
        · exact .inr ⟨g, c, cur, x1, by omega, x3⟩
  · intro i j x u k h1 h2 h3 h4
    have old : ∀ (i : Nat) (x : Value), pv[i]? = some x → x.ownBlock = some k → k < w.heap.size := fun i x hx hk => by
      have hi := (List.getElem?_eq_some_iff.1 hx).1
      have hlt : i < (o :: t).reverse.length := by rw [hrev, List.length_append, ← hpl]; omega
      exact ((h.waits i _ x (List.getElem?_eq_getElem hlt) (by rw [List.getElem?_append_left hi]; exact hx)).lt k hk).2
    rcases N.snoc_get h1 with a2 | ⟨a1, rfl⟩ <;> rcases N.snoc_get h2 with b2 | ⟨b1, rfl⟩
    · refine h.apart i j x u k ?_ ?_ h3 h4
      · rw [List.getElem?_append_left (List.getElem?_eq_some_iff.1 a2).1]; exact a2
      · rw [List.getElem?_append_left (List.getElem?_eq_some_iff.1 b2).1]; exact b2
    · have := old i x a2 h3
      have := (hv.lt k h4).1
      omega
    · have := old j u b2 h4
      have := (hv.lt k h3).1
      omega
    · omega
  · intro x hx
    rcases List.mem_cons.1 hx with rfl | hx
    · exact ⟨by rw [hst]; exact (h.low o List.mem_cons_self).1, hlow⟩
    · exact h.low x (List.mem_cons_of_mem _ hx)

set_option maxRecDepth 100000 in
set_option maxHeartbeats 1600000 in
theorem settle_while (B : Nat) (w : World) (dd p : Nat) (vD vP : Value) (pv : List Value) (wv : List Own) (b : List (N.Cell × Nat)) (o : N.Part) (t : List N.Part) (h : DraftAt B w dd vD vP pv wv ⟨b, o :: t⟩) (hpl0 : p < b.length) :
    Calls Tryz.prog 140 #[.pointer (some ⟨dd, 0, none⟩), .string ⟨#[119, 104, 105, 108, 101]⟩, .int .i64 p] w fun r w' => r = .returned (.tuple #[]) ∧ ∃ vP' pv', DraftAt B w' dd vD vP' pv' wv ⟨b, ⟨N.wWhile, o.start, [p]⟩ :: t⟩ ∧ Below B w w' := by
  obtain ⟨pv', v, gP, cP, rfl, hpl, rfl, hcP, hBP, c0, c1, c2, _⟩ := h.last
  have hfew := h.few
  simp only [List.length_cons] at hfew
  have e1 : w.cell? ⟨dd, 1, none⟩ = some (.slice (some ⟨gP, 0, none⟩) (t.length + 1) cP) := cell_of_block h.blk rfl
  obtain ⟨cur, hcur⟩ := ownsz_block h.opens (k := gP) rfl
  have f0 : w.frozen? ⟨gP, t.length * 3, none⟩ = false := frozen_of_block _ hcur
  have f2 : w.frozen? ⟨gP, t.length * 3 + 2, none⟩ = false := frozen_of_block _ hcur
  have hb : Below w.heap.size w (w.alloc (Obj.cells #[Value.int .i64 (p : Int)] 3)).drew := ((Below.refl _ _).alloc (Nat.le_refl _) _).drew
  have hturn := h.turn hpl hb ⟨N.wWhile, o.start, [p]⟩ rfl (v' := .slice (some ⟨w.heap.size, 0, none⟩) 1 1) ⟨rfl, .inr ⟨w.heap.size, 1, #[Value.int .i64 (p : Int)], rfl, Nat.le_refl _, heap_alloc_new w _, Nat.le_refl _, by decide, rfl, rfl⟩⟩ ⟨by simp, fun q hq => by rw [List.mem_singleton] at hq; subst hq; exact hpl0⟩
  have HT := hide hturn
  clear hturn h hb
  generalize hm : t.length = m at *
  generalize hn : m + 1 = n at *
  have i0 : IntKind.i64.wrap ((n : Int) - 1) = (m : Int) := by rw [IntKind.wrap_i64]; omega
  have i1 : (0 : Int) ≤ (m : Int) := by omega
  have i2 : (m : Int) < (n : Int) := by omega
  have d0 : (w.alloc (Obj.cells #[Value.int .i64 (p : Int)] 3)).cell? ⟨gP, m * 3, none⟩ = some (.string ⟨o.kind.toArray⟩) := cell_alloc c0 _
  have d2 : (w.alloc (Obj.cells #[Value.int .i64 (p : Int)] 3)).cell? ⟨gP, m * 3 + 2, none⟩ = some v := cell_alloc c2 _
  have g0 : (w.alloc (Obj.cells #[Value.int .i64 (p : Int)] 3)).frozen? ⟨gP, m * 3, none⟩ = false := grown_fz (World.grownBy_alloc _ _ none) c0 f0 (by simp)
  have g2 : (w.alloc (Obj.cells #[Value.int .i64 (p : Int)] 3)).frozen? ⟨gP, m * 3 + 2, none⟩ = false := grown_fz (World.grownBy_alloc _ _ none) c2 f2 (by simp)
  clear hn hm
  go_enter Tryz.func140, Tryz.ntmps140
  go_wp2
  go_region_held3 (fun w' => w'.cell? ⟨dd, 1, none⟩ = some (.slice (some ⟨gP, 0, none⟩) n cP)) (first | exact e1 | go_keep) (fail)
  go_wp2
  go_end0
  exact ⟨rfl, _, _, (unhide HT).1, (unhide HT).2⟩
end Go.Proofs.YtgnlokmeohffaaaGreatDoor
/- settle: leave. -/
namespace Go.Proofs.YtgnlokmeohffaaaGreatDoor
open Go.RowKit
attribute [local go_sem ↓] Go.wp_at_zero Go.wp_at_succ

def waitsOn (p : Nat) (o : N.Part) : N.Part := { o with waits := o.waits ++ [p] }

theorem doAt_app (ks : List (List UInt8)) (x : List UInt8) : ∀ n, n ≤ ks.length → doAt (ks ++ [x]) n = doAt ks n
  | 0, _ => rfl
  | n + 1, h => by
    unfold doAt
    rw [List.getElem?_append_left (by omega), doAt_app ks x n (by omega)]
theorem doAt_lt (ks : List (List UInt8)) : ∀ n k, doAt ks n = some k → k < n
  | 0, _, h => by cases h
  | n + 1, k, h => by
    unfold doAt at h
    split at h
    · injection h with h
      omega
    · have := doAt_lt ks n k h
      omega
theorem modify_app {α : Type} (l m : List α) (f : α → α) : ∀ k, k < l.length → (l ++ m).modify k f = l.modify k f ++ m := by
  intro k hk
  apply List.ext_getElem?
  intro i
  rw [List.getElem?_modify]
  by_cases hi : i < l.length
  · rw [List.getElem?_append_left hi, List.getElem?_append_left (by rw [List.length_modify]; exact hi), List.getElem?_modify]
  · rw [List.getElem?_append_right (by omega), List.getElem?_append_right (by rw [List.length_modify]; omega), List.length_modify]
    cases m[i - l.length]? with
    | none => rfl
    | some x =>
      show some (if k = i then f x else x) = some x
      rw [if_neg (by omega)]
theorem modify_last {α : Type} (l : List α) (x : α) (f : α → α) : (l ++ [x]).modify l.length f = l ++ [f x] := by
  apply List.ext_getElem?
  intro i
  rw [List.getElem?_modify]
  rcases Nat.lt_trichotomy i l.length with h | h | h
  · rw [List.getElem?_append_left h, List.getElem?_append_left h]
    cases l[i]? with
    | none => rfl
    | some y =>
      show some (if l.length = i then f y else y) = some y
      rw [if_neg (by omega)]
  · subst h
    rw [List.getElem?_append_right (Nat.le_refl _), List.getElem?_append_right (Nat.le_refl _), Nat.sub_self]
    show some (if l.length = l.length then f x else x) = some (f x)
    rw [if_pos rfl]
  · rw [List.getElem?_eq_none (by simp; omega), List.getElem?_eq_none (by simp; omega)]
    rfl

/-- Which part a leave waits in. -/
theorem addWait_rev (p : Nat) : ∀ t : List N.Part, (∃ o ∈ t, o.kind = N.wDo) → ∃ k o, doAt (t.reverse.map (·.kind)) (t.reverse.map (·.kind)).length = some k ∧ t.reverse[k]? = some o ∧ (N.addWait t p).reverse = t.reverse.modify k (waitsOn p)
  | [], ⟨_, h, _⟩ => by simp at h
  | o :: t, hex => by
    have hrev : (o :: t).reverse = t.reverse ++ [o] := by simp
    have hks : ((o :: t).reverse.map (·.kind)) = t.reverse.map (·.kind) ++ [o.kind] := by simp
    have hstep : doAt ((o :: t).reverse.map (·.kind)) ((o :: t).reverse.map (·.kind)).length = if o.kind = N.wDo then some t.reverse.length else doAt (t.reverse.map (·.kind)) (t.reverse.map (·.kind)).length := by
      rw [hks, List.length_append, List.length_singleton]
      show (if (t.reverse.map (·.kind) ++ [o.kind])[(t.reverse.map (·.kind)).length]? = some N.wDo then _ else _) = _
      rw [List.getElem?_append_right (Nat.le_refl _), Nat.sub_self, doAt_app _ _ _ (Nat.le_refl _)]
      simp
    rw [hstep]
    by_cases ho : o.kind = N.wDo
    · rw [if_pos ho]
      refine ⟨t.reverse.length, o, rfl, ?_, ?_⟩
      · rw [hrev, List.getElem?_append_right (Nat.le_refl _), Nat.sub_self]; rfl
      · have hadd : N.addWait (o :: t) p = waitsOn p o :: t := by
          unfold N.addWait
          rw [if_pos (by rw [ho]; rfl)]
          rfl
        rw [hadd, hrev, modify_last]
        simp
    · rw [if_neg ho]
      obtain ⟨x, hx, hk⟩ := hex
      have hx' : x ∈ t := by
        rcases List.mem_cons.1 hx with rfl | h
        · exact (ho hk).elim
        · exact h
      obtain ⟨k, o', h1, h2, h3⟩ := addWait_rev p t ⟨x, hx', hk⟩
      have hlt := (List.getElem?_eq_some_iff.1 h2).1
      refine ⟨k, o', h1, by rw [hrev, List.getElem?_append_left hlt]; exact h2, ?_⟩
      have hadd : N.addWait (o :: t) p = o :: N.addWait t p := by
        rw [N.addWait, if_neg (by rw [beq_iff_eq]; exact ho)]
      rw [hadd, List.reverse_cons, h3, hrev, modify_app _ _ _ k hlt]

theorem partCells_set (p : Nat) (v' : Value) : ∀ (ps : List N.Part) (pv : List Value) (k : Nat), pv.length = ps.length → k < ps.length → partCells (ps.modify k (waitsOn p)) (pv.set k v') = (partCells ps pv).set (k * 3 + 2) v'
  | [], _, _, _, h => by simp at h
  | _ :: _, [], _, h, _ => by simp at h
  | o :: t, v :: u, 0, _, _ => by simp [partCells, waitsOn]
  | o :: t, v :: u, k + 1, h, hk => by
    have ih := partCells_set p v' t u k (by simpa using h) (by simpa using hk)
    unfold partCells at ih ⊢
    rw [List.modify_succ_cons, List.set_cons_succ, List.zip_cons_cons, List.zip_cons_cons, List.flatMap_cons, List.flatMap_cons, ih, show (k + 1) * 3 + 2 = k * 3 + 2 + 3 by omega, List.set_append_right _ _ (by simp)]
    simp

theorem DraftAt.addWait {B : Nat} {w W w3 : World} {dd gP cP p k : Nat} {vD v v' : Value} {pv : List Value} {wv : List Own} {d : N.Draft} {o : N.Part} (h : DraftAt B w dd vD (.slice (some ⟨gP, 0, none⟩) d.opens.length cP) pv wv d) (hb : Below w.heap.size w W) (ho : d.opens.reverse[k]? = some o) (hv : pv[k]? = some v) (hrev : (N.addWait d.opens p).reverse = d.opens.reverse.modify k (waitsOn p))
    (hg : W.grownBy w3 v.ownBlock) (hown : w3.ownsRow B 3 1 v' (o.waits.length + 1) ((o.waits ++ [p]).map natCell)) (hat : v.ownBlock = v'.ownBlock ∨ ∀ j, v'.ownBlock = some j → w.heap.size ≤ j) (hlw : o.waits.length + 1 ≤ 60) (hp : p < d.body.length) :
    DraftAt B (w3.setCell ⟨gP, k * 3 + 2, none⟩ v') dd vD (.slice (some ⟨gP, 0, none⟩) d.opens.length cP) (pv.set k v') wv ⟨d.body, N.addWait d.opens p⟩ ∧ Below B w (w3.setCell ⟨gP, k * 3 + 2, none⟩ v') := by
  obtain ⟨n1, n2, n3, n4⟩ := h.ne_blocks
  have hBw : B ≤ w.heap.size := Nat.le_trans h.hB (Nat.le_of_lt (heap_lt h.blk))
  have hBg : B ≤ gP := own_ge h.opens rfl
  have hk : k < d.opens.reverse.length := (List.getElem?_eq_some_iff.1 ho).1
  have hwv := h.waits k o v ho hv
  have hvm : v ∈ pv := List.mem_of_getElem? hv
  have hlen : (N.addWait d.opens p).length = d.opens.length := by
    have := congrArg List.length hrev
    simpa using this
  have hkeep3 : ∀ j, j < w.heap.size → v.ownBlock ≠ some j → w3.heap[j]? = w.heap[j]? := fun j hj hne => (hg.block j (Nat.lt_of_lt_of_le hj hb.size) fun e => hne e.symm).trans (hb.block j hj)
  have hkeep : ∀ j, j < w.heap.size → v.ownBlock ≠ some j → j ≠ gP → (w3.setCell ⟨gP, k * 3 + 2, none⟩ v').heap[j]? = w.heap[j]? := fun j hj hne hne2 => (Below.heap_setCell _ _ _ _ hne2).trans (hkeep3 j hj hne)
  have hvP : v.ownBlock ≠ some gP := (n4 v hvm).2.2 gP rfl
  have hop3 : w3.ownsRow B 223 3 (.slice (some ⟨gP, 0, none⟩) d.opens.length cP) d.opens.length (partCells d.opens.reverse pv) := ownsz_kept h.opens fun j e => hkeep3 j (h.opens.lt j e).2 fun e2 => (n4 v hvm).2.2 j e e2
  have hgc : ∃ cur, w3.heap[gP]? = some (.cells cur 223) := ownsz_block hop3 rfl
  obtain ⟨cur, hcur⟩ := hgc
  have hv'g : v'.ownBlock ≠ some gP := ownz_ne hown hcur (by decide)
  have hset := ownsz_set hop3 (k * 3 + 2) (by rw [List.length_reverse] at hk; omega) v'
  have hlr : pv.length = d.opens.reverse.length := h.plen
  refine ⟨⟨h.hB, (hkeep dd (heap_lt h.blk) (n4 v hvm).1 fun e => n2 (by rw [e]; rfl)).trans h.blk, ownsz_kept h.body fun j e => hkeep j (h.body.lt j e).2 (fun e2 => (n4 v hvm).2.1 j e e2) fun e2 => n3 j e (by rw [e2]; rfl), ?_, ?_, ?_, ?_, h.small, ?_, ?_⟩, ?_⟩
  · show World.ownsRow _ _ _ _ _ (N.addWait d.opens p).length (partCells (N.addWait d.opens p).reverse (pv.set k v'))
    rw [hlen, hrev, partCells_set p v' _ _ k hlr hk]
    exact hset
  · rw [List.length_set, hrev, List.length_modify]
    exact hlr
  · intro i x u h1 h2
    rw [hrev] at h1
    obtain ⟨y, hy, rfl⟩ := modify_get h1
    rw [List.getElem?_set] at h2
    by_cases hi : k = i
    · subst hi
      rw [if_pos rfl, if_pos (by rw [hlr]; exact hk)] at h2
      injection h2 with h2
      subst h2
      rw [ho] at hy
      injection hy with hy
      subst hy
      rw [if_pos rfl]
      show World.ownsRow _ _ _ _ _ (o.waits ++ [p]).length ((o.waits ++ [p]).map natCell)
      rw [List.length_append]
      exact ownsz_kept hown fun j e => Below.heap_setCell _ _ _ _ (show j ≠ gP from fun e2 => hv'g (e2 ▸ e))
    · rw [if_neg hi] at h2 ⊢
      have hw := h.waits i y u hy h2
      refine ownsz_kept hw fun j e => hkeep j (hw.lt j e).2 (fun e2 => hi (h.apart k i v u j hv h2 e2 e)) fun e2 => (n4 u (List.mem_of_getElem? h2)).2.2 gP rfl (e2 ▸ e)
  · intro i j x u q h1 h2 h3 h4
    rw [List.getElem?_set] at h1 h2
    have old : ∀ (i : Nat) (x : Value), pv[i]? = some x → x.ownBlock = some q → q < w.heap.size := fun i x hx hq => by
      have hi := (List.getElem?_eq_some_iff.1 hx).1
      have hlt : i < d.opens.reverse.length := by rw [← hlr]; exact hi
      exact ((h.waits i _ x (List.getElem?_eq_getElem hlt) hx).lt q hq).2
    by_cases hi : k = i <;> by_cases hj : k = j
    · omega
    · rw [if_pos hi] at h1
      rw [if_neg hj] at h2
      rw [if_pos (by rw [hlr]; exact hk)] at h1
      injection h1 with h1
      subst h1
      rcases hat with e | e
      · rw [← e] at h3
        have := h.apart k j v u q hv h2 h3 h4
        omega
      · have := e q h3
        have := old j u h2 h4
        omega
    · rw [if_neg hi] at h1
      rw [if_pos hj] at h2
      rw [if_pos (by rw [hlr]; exact hk)] at h2
      injection h2 with h2
      subst h2
      rcases hat with e | e
      · rw [← e] at h4
        have := h.apart i k x v q h1 hv h3 h4
        omega
      · have := e q h4
        have := old i x h1 h3
        omega
    · rw [if_neg hi] at h1
      rw [if_neg hj] at h2
      exact h.apart i j x u q h1 h2 h3 h4
  · show (N.addWait d.opens p).length ≤ 60
    rw [hlen]; exact h.few
  · intro x hx
    have hx : x ∈ (N.addWait d.opens p).reverse := List.mem_reverse.2 hx
    rw [hrev] at hx
    obtain ⟨i, hi⟩ := List.getElem?_of_mem hx
    obtain ⟨y, hy, rfl⟩ := modify_get hi
    have hly := h.low y (List.mem_reverse.1 (List.mem_of_getElem? hy))
    by_cases hki : k = i
    · subst hki
      rw [if_pos rfl]
      rw [ho] at hy
      injection hy with hy
      subst hy
      refine ⟨hly.1, ?_, fun q hq => ?_⟩
      · show (o.waits ++ [p]).length ≤ 60
        simpa using hlw
      · rcases List.mem_append.1 hq with hq | hq
        · exact hly.2.2 q hq
        · rw [List.mem_singleton] at hq
          subst hq
          exact hp
    · rw [if_neg hki]
      exact hly
  · have h1 : Below B w W := hb.mono hBw
    have h2 : Below B W w3 := ⟨hg.os, hg.tape, hg.output, hg.size, fun j hj => hg.block j (by have := h1.size; omega) fun e => by have := own_ge hwv e.symm; omega⟩
    exact (h1.trans h2).setCell hBg _

set_option maxRecDepth 100000 in
set_option maxHeartbeats 1600000 in
theorem settle_leave (B : Nat) (w : World) (dd p : Nat) (vD vP : Value) (pv : List Value) (wv : List Own) (d : N.Draft) (h : DraftAt B w dd vD vP pv wv d) (hdo : ∃ o ∈ d.opens, o.kind = N.wDo) (hp : p < d.body.length) (hw60 : ∀ o ∈ d.opens, o.waits.length + 1 ≤ 60) :
    Calls Tryz.prog 140 #[.pointer (some ⟨dd, 0, none⟩), .string ⟨#[108, 101, 97, 118, 101]⟩, .int .i64 p] w fun r w' => r = .returned (.tuple #[]) ∧ ∃ vP' pv', DraftAt B w' dd vD vP' pv' wv ⟨d.body, N.addWait d.opens p⟩ ∧ Below B w w' := by
  obtain ⟨k, o, hk, ho, hrev⟩ := addWait_rev p d.opens hdo
  have hklt : k < d.opens.reverse.length := (List.getElem?_eq_some_iff.1 ho).1
  obtain ⟨v, hv⟩ : ∃ v, pv[k]? = some v := ⟨_, List.getElem?_eq_getElem (by rw [h.plen]; exact hklt)⟩
  have hlen : (d.opens.reverse.map (·.kind)).length = d.opens.length := by simp
  have hne0 : 0 < d.opens.length := by rw [List.length_reverse] at hklt; omega
  obtain ⟨gP, cP, hvP, hBP, _⟩ := h.opens.form hne0
  subst hvP
  have hpc : ∀ (i : Nat) (x : N.Part) (u : Value), d.opens.reverse[i]? = some x → pv[i]? = some u → w.cell? ⟨gP, i * 3, none⟩ = some (.string ⟨x.kind.toArray⟩) ∧ w.cell? ⟨gP, i * 3 + 2, none⟩ = some u := by
    intro i x u hx hu
    have key : ∀ (ps : List N.Part) (vs : List Value) (i : Nat), ps[i]? = some x → vs[i]? = some u → (partCells ps vs)[i * 3]? = some (.string ⟨x.kind.toArray⟩) ∧ (partCells ps vs)[i * 3 + 2]? = some u := by
      intro ps
      induction ps with
      | nil => intro vs i h1; simp at h1
      | cons a t ih =>
        intro vs i h1 h2
        cases vs with
        | nil => simp at h2
        | cons b u' =>
          cases i with
          | zero =>
            simp only [List.getElem?_cons_zero, Option.some.injEq] at h1 h2
            subst h1 h2
            exact ⟨rfl, rfl⟩
          | succ i =>
            have := ih u' i (by simpa using h1) (by simpa using h2)
            unfold partCells at this ⊢
            rw [List.zip_cons_cons, List.flatMap_cons, show (i + 1) * 3 = i * 3 + 3 by omega, show i * 3 + 3 + 2 = i * 3 + 2 + 3 by omega, List.getElem?_append_right (by simp), List.getElem?_append_right (by simp)]
            simpa using this
    obtain ⟨h1, h2⟩ := key _ _ i hx hu
    have c1 := h.opens.cells (g := gP) rfl _ _ h1
    have c2 := h.opens.cells (g := gP) rfl _ _ h2
    rw [add_lit, Nat.zero_add] at c1 c2
    exact ⟨c1, c2⟩
  have hloop := innerLoop_walk w dd gP cP (d.opens.reverse.map (·.kind)) (by rw [hlen]; exact h.few) (by rw [hlen]; exact cell_of_block h.blk rfl) fun j kd hj => by
    rw [List.getElem?_map] at hj
    obtain ⟨x, hx, he⟩ := Option.map_eq_some_iff.1 hj
    have hjl := (List.getElem?_eq_some_iff.1 hx).1
    obtain ⟨u, hu⟩ : ∃ u, pv[j]? = some u := ⟨_, List.getElem?_eq_getElem (by rw [h.plen]; exact hjl)⟩
    rw [← he]
    exact (hpc j x u hx hu).1
  rw [hk] at hloop
  have hwr := h.waits k o v ho hv
  have hmem : o ∈ d.opens := List.mem_reverse.1 (List.mem_of_getElem? ho)
  have hlw := hw60 o hmem
  obtain ⟨aw, cw, hvv, _, _⟩ := owns_slice hwr
  subst hvv
  have c2 := (hpc k o _ ho hv).2
  obtain ⟨cur, hcur⟩ := ownsz_block h.opens (k := gP) rfl
  have f2 : w.frozen? ⟨gP, k * 3 + 2, none⟩ = false := frozen_of_block _ hcur
  have hBw : B ≤ w.heap.size := Nat.le_trans h.hB (Nat.le_of_lt (heap_lt h.blk))
  have hne : some gP ≠ (Value.slice aw o.waits.length cw).ownBlock := fun e => (h.ne_blocks.2.2.2 _ (List.mem_of_getElem? hv)).2.2 gP rfl e.symm
  have hb : Below w.heap.size w (w.alloc (Obj.cells #[Value.int .i64 (p : Int)] 3)) := (Below.refl _ _).alloc (Nat.le_refl _) _
  have e2 := cell_alloc c2 (Obj.cells #[Value.int .i64 (p : Int)] 3)
  have g2 : (w.alloc (Obj.cells #[Value.int .i64 (p : Int)] 3)).frozen? ⟨gP, k * 3 + 2, none⟩ = false := grown_fz (World.grownBy_alloc _ _ none) c2 f2 (by simp)
  have hnew : (w.alloc (Obj.cells #[Value.int .i64 (p : Int)] 3)).heap[w.heap.size]? = some (.cells #[Value.int .i64 (p : Int)] 3) := heap_alloc_new w _
  obtain ⟨i3, hi, hz, hs, hby⟩ := info3
  have H := hide h
  have HL := hide hloop
  have HR := hide hwr
  have HN := hide hnew
  have HB := hide hb
  have Ho := hide ho
  have Hv := hide hv
  have Hr := hide hrev
  clear h hloop hwr hnew hb hpc hcur hk ho hv hrev f2
  go_enter Tryz.func140, Tryz.ntmps140
  go_wp2_with fail
  refine (unhide HL).mono ?_
  rintro e w2 ⟨rfl, rfl⟩
  simp only [doPtr]
  go_wp2_with (
    at_builtin
    refine wpList_append_lies _ (by rfl) (.tmp 88) (.tmp 90) 26 (by rfl) B 3 i3 (.int .i64 0) 1 8 Tryz.underlying26 hi hz hs hby rfl (by decide) (.slice aw o.waits.length cw) o.waits.length (o.waits.map natCell) (by rfl) (by exact (unhide HR).alloc _) ⟨w2.heap.size, 0, none⟩ 1 1 [.int .i64 (p : Int)] (by rfl) rfl (World.news_of_block (unhide HN)) (fun u hu => by simp at hu; subst hu; rfl) (by decide) (by unfold maxLen; omega) (by omega) (by have := (unhide HB).size; omega) _ rfl ?_
    intro g3 cap3 w3 hown3 hgrow3 hat3 hlt3
    have e5 := hgrow3.cell e2 hne
    have f5 := grown_fz hgrow3 e2 g2 hne
    have G3 := hide hgrow3
    have O3 := hide hown3
    have A3 := hide hat3
    clear hgrow3 hown3 hat3)
  go_end0
  have hadd := (unhide H).addWait (unhide HB) (unhide Ho) (unhide Hv) (unhide Hr) (unhide G3) (v' := .slice (some ⟨g3, 0, none⟩) (o.waits.length + 1) cap3) (by rw [List.map_append]; exact unhide O3) ?_ hlw hp
  · exact ⟨rfl, _, _, hadd.1, hadd.2⟩
  · rcases unhide A3 with e | e
    · exact .inl e
    · refine .inr fun j hj => ?_
      have : g3 = j := Option.some.inj hj
      rw [← this, e]
      simp
end Go.Proofs.YtgnlokmeohffaaaGreatDoor
/- How many parts are open, and how many words wait, in a body that is read: at most as many as it has words. Of no program. -/
namespace Go.Proofs.YtgnlokmeohffaaaGreatDoor
namespace N
open Go.RowKit

def waitSum : List Part → Nat
  | [] => 0
  | o :: t => o.waits.length + waitSum t
structure Bulk (d : Draft) : Prop where
  ol : d.opens.length ≤ d.body.length
  ws : waitSum d.opens ≤ d.body.length
theorem bulk_nil : Bulk ⟨[], []⟩ := ⟨Nat.le_refl _, Nat.le_refl _⟩
theorem waitSum_mem : ∀ {t : List Part} {o : Part}, o ∈ t → o.waits.length ≤ waitSum t
  | [], _, h => by simp at h
  | a :: t, o, h => by
    unfold waitSum
    rcases List.mem_cons.1 h with rfl | h
    · omega
    · have := waitSum_mem h
      omega
theorem goOns_length (b : List (Cell × Nat)) (ps : List Nat) (g : Nat) : (goOns b ps g).length = b.length := by
  have := congrArg List.length (cells_goOns ps g b)
  simpa using this
theorem goOn_length (b : List (Cell × Nat)) (p g : Nat) : (goOn b p g).length = b.length := by unfold goOn; rw [List.length_modify]
theorem shut_len (d : Draft) : (shut d).body.length = d.body.length := by
  unfold shut
  split
  · rfl
  · exact goOns_length _ _ _
theorem shut_opens (d : Draft) : (shut d).opens.length ≤ d.opens.length ∧ waitSum (shut d).opens ≤ waitSum d.opens := by
  obtain ⟨b, os⟩ := d
  cases os with
  | nil => exact ⟨Nat.le_refl _, Nat.le_refl _⟩
  | cons o t =>
    refine ⟨?_, ?_⟩
    · show t.length ≤ (o :: t).length
      simp
    · show waitSum t ≤ o.waits.length + waitSum t
      omega
theorem addWait_sum (p : Nat) : ∀ t, waitSum (addWait t p) ≤ waitSum t + 1 ∧ (addWait t p).length = t.length
  | [] => ⟨Nat.zero_le _, rfl⟩
  | o :: t => by
    obtain ⟨h1, h2⟩ := addWait_sum p t
    unfold addWait
    split
    · refine ⟨?_, rfl⟩
      show (o.waits ++ [p]).length + waitSum t ≤ o.waits.length + waitSum t + 1
      simp
      omega
    · refine ⟨?_, by simp [h2]⟩
      show o.waits.length + waitSum (addWait t p) ≤ o.waits.length + waitSum t + 1
      omega
theorem settle_body_len (d : Draft) (s : Txt) (p : Nat) : (settle d s p).body.length = d.body.length := by
  unfold settle
  repeat' split
  all_goals first
    | rfl
    | exact shut_len _
    | (rw [shut_len]; exact goOn_length _ _ _)
theorem bulk_add {d : Draft} (h : Bulk d) (c : Cell) : Bulk (add d c) ∧ (add d c).body.length = d.body.length + 1 := by
  have hol := h.ol
  have hws := h.ws
  have hlen : (d.body ++ [(c, 0)]).length = d.body.length + 1 := by simp
  by_cases hc : c.kind = 4
  · have hadd : add d c = settle ⟨d.body ++ [(c, 0)], d.opens⟩ c.name d.body.length := if_pos hc
    rw [hadd]
    have hbl : (settle ⟨d.body ++ [(c, 0)], d.opens⟩ c.name d.body.length).body.length = d.body.length + 1 := (settle_body_len _ _ _).trans hlen
    refine ⟨?_, hbl⟩
    have key : (settle ⟨d.body ++ [(c, 0)], d.opens⟩ c.name d.body.length).opens.length ≤ d.opens.length + 1 ∧ waitSum (settle ⟨d.body ++ [(c, 0)], d.opens⟩ c.name d.body.length).opens ≤ waitSum d.opens + 1 := by
      have hs := shut_opens ⟨d.body ++ [(c, 0)], d.opens⟩
      unfold settle
      split
      · exact ⟨by simp, by show 1 + waitSum d.opens ≤ _; omega⟩
      · split
        · exact ⟨by simp, by show 0 + waitSum d.opens ≤ _; omega⟩
        · split
          · refine ⟨?_, ?_⟩
            · show (shut _).opens.length + 1 ≤ _
              have := hs.1
              simp only at this
              omega
            · show 1 + waitSum (shut _).opens ≤ _
              have := hs.2
              simp only at this
              omega
          · split
            · cases hd : d.opens with
              | nil => exact ⟨by simp, by show 0 ≤ _; omega⟩
              | cons o t => exact ⟨by simp, by show 1 + waitSum t ≤ o.waits.length + waitSum t + 1; omega⟩
            · split
              · have := addWait_sum d.body.length d.opens
                exact ⟨by show (addWait d.opens d.body.length).length ≤ _; omega, this.1⟩
              · split
                · cases hd : d.opens with
                  | nil => exact ⟨by simp, by show 0 ≤ _; omega⟩
                  | cons o t =>
                    refine ⟨?_, ?_⟩
                    · show t.length ≤ _
                      simp
                      omega
                    · show waitSum t ≤ o.waits.length + waitSum t + 1
                      omega
                · split
                  · refine ⟨?_, ?_⟩
                    · have := hs.1
                      simp only at this
                      omega
                    · have := hs.2
                      simp only at this
                      omega
                  · exact ⟨by show d.opens.length ≤ _; omega, by show waitSum d.opens ≤ _; omega⟩
    exact ⟨by rw [hbl]; omega, by rw [hbl]; omega⟩
  · have hadd : add d c = ⟨d.body ++ [(c, 0)], d.opens⟩ := if_neg hc
    rw [hadd]
    exact ⟨⟨by show d.opens.length ≤ (d.body ++ [(c, 0)]).length; omega, by show waitSum d.opens ≤ (d.body ++ [(c, 0)]).length; omega⟩, hlen⟩
end N
end Go.Proofs.YtgnlokmeohffaaaGreatDoor
