/- Parts of the proof: see the last text. -/
import Derived.Test.YtgnlokmeohffaaaDoorProg
import Derived.WalkKit
import Derived.ChangeSlices
import Derived.Test.YtgnlokmeohffaaaDoorCards
import Derived.Test.YtgnlokmeohffaaaDoorTie
import Derived.ProofKit
import Derived.LaidMore
import Derived.OpenShut
import Derived.Stop.Joined
import Derived.SevenTiedAt
import Derived.LaidSub
import Derived.Lib.LaidTab
import Derived.Lib.ItoaNum
import Derived.Test.YtgnlokmeohffaaaDoorB13
/- A slice of numbers that came in: what a walk knows of it. -/
namespace Go.Proofs.YtgnlokmeohffaaaDoor
open Go.RowKit Go.ChangeShapes Go.WideShapes

/-- A slice of ints, and its elements. -/
def Ints (W : World) (a : Option Addr) (len : Nat) (zs : List Int) : Prop :=
  zs.length = len ∧ (len : Int) ≤ 9223372036854775807 ∧ (∀ i, i < len → ∃ b, a = some b ∧ b.block < W.heap.size ∧ W.cell? (b.add i) = some (.int .i64 (zs.getD i 0))) ∧ ∀ z ∈ zs, inI64 z

theorem cellsInt : Tryd.prog.cellsOf 3 = 1 := by kernel_rfl
theorem wf_in {a : Int} (h : (Lit.int .i64 a).wf = true) : inI64 a := by
  simp only [Lit.wf, IntKind.min, IntKind.max, IntKind.signed, IntKind.bits, Bool.and_eq_true, decide_eq_true_eq, if_true] at h
  unfold inI64
  omega
theorem ints_of {H : Type} {enc : TypeId × Value → H} {W : World} {base : Nat} {sp : Nat → Bool} {held : Bool} {a : Option Addr} {len cap : Nat} {d : DataW H} {ps : List MemPlace} (h : DataW.Trod enc Tryd.prog W base sp held 27 (.slice a len cap) d ps) : ∃ zs, Ints W a len zs := by
  obtain ⟨fuel, hf⟩ := h
  rcases open_ints Tryd.underlying27 Tryd.underlying3 cellsInt hf with ⟨hcs, hx⟩ | ⟨b, len', cap', zs, hcs, _, hl, hm, hz, hx, hcell, hwz⟩
  · simp [Value.cells] at hcs
    obtain ⟨rfl, rfl, rfl⟩ := hcs
    exact ⟨[], rfl, by omega, fun i hi => by omega, fun z hz => by simp at hz⟩
  · simp [Value.cells] at hcs
    obtain ⟨rfl, rfl, rfl⟩ := hcs
    unfold maxLen at hm
    have hzl : len ≤ zs.length := by rw [hz]; split <;> omega
    refine ⟨zs.take len, by simp; omega, by omega, fun i hi => ⟨b, rfl, ?_, ?_⟩, fun z hz => wf_in (hwz z (List.mem_of_mem_take hz))⟩
    · have hc := hcell i (by omega)
      have := World.block_lt_of_cell? _ _ hc
      rwa [Go.ChangeShapes.block_add] at this
    · rw [hcell i (by omega)]
      simp [List.getD_eq_getElem?_getD, hi]
theorem Ints.below {W W' : World} {a : Option Addr} {len : Nat} {zs : List Int} (h : Ints W a len zs) (hb : Below W.heap.size W W') : Ints W' a len zs := by
  refine ⟨h.1, h.2.1, fun i hi => ?_, h.2.2.2⟩
  obtain ⟨b, hab, hlt, hc⟩ := h.2.2.1 i hi
  refine ⟨b, hab, Nat.lt_of_lt_of_le hlt hb.size, ?_⟩
  rw [hb.cell (by rw [Go.ChangeShapes.block_add]; exact hlt)]
  exact hc
end Go.Proofs.YtgnlokmeohffaaaDoor
/- Counted answers true, if the walk does: from the walk to the row and to the card that ties the three tables of the library to their text. (Written by tools/mkframe.py.) -/
namespace Go.Proofs.YtgnlokmeohffaaaDoor
namespace Counted
open Go.ChangeShapes Go.WideShapes Go.ChangeAt Go.WideMaps Go.WideElems Go.RowKit

theorem own : ownKnob Tryd.prog.godebug = none := by kernel_rfl
theorem laidOut : laidOutB Tryd.prog = true := by kernel_rfl

/-- What is still to be shown: the walk. -/
def Walk : Prop := ∀ (a0 : Int) (a1 : Int) (a2 : Int) (W : World), inI64 a0 → inI64 a1 → inI64 a2 →
    Lib.TabIs Tryd.prog W "internal/strconv.uint64pow10" .u64 Lib.pow10Tab →
    Calls Tryd.prog 4 #[.int .i64 a0, .int .i64 a1, .int .i64 a2] W fun e w' => e = .returned (.bool true) ∧ Below W.heap.size W w'

theorem door_met (os : Os) (args : Array Value) : laidMetH Tryd.prog Rows.countedRow.laid ((World.doorLaid Tryd.prog 400 os).forCall (fun _ _ => 0) ⟨#[], args, []⟩).memory :=
  laidMetH_of_parts3 (fuel := 8) (laidMet_of_run' 8 (by kernel_rfl) (by kernel_rfl)) (by kernel_rfl) (by kernel_rfl)

theorem tab_of {W : World} (h : laidMetH Tryd.prog Rows.countedRow.laid W) : Lib.TabIs Tryd.prog W "internal/strconv.uint64pow10" .u64 Lib.pow10Tab := by
  rw [MakeChecks.laidMetH_plain _ _ _ (by kernel_rfl)] at h
  have h2 := laidMet.filter (fun x => x.1 == "internal/strconv.uint64pow10") h
  have e : (Rows.countedRow.laid.filter fun x => x.1 == "internal/strconv.uint64pow10") = [("internal/strconv.uint64pow10", Lib.tabData .u64 Lib.pow10Tab)] := by kernel_rfl
  rw [e] at h2
  exact Lib.tabIs_of_head (g := 0) (n := 20) (t := 157) (e := 147) (by kernel_rfl) (by kernel_rfl) Tryd.underlying157 Tryd.underlying147 (by kernel_rfl) (by kernel_rfl) h2

set_option maxRecDepth 100000 in
theorem lifted (walk : Walk) (os : Os) (started : os.Started) (H : Type) (enc : TypeId × Value → H) :
    ReturnsInHanded {} Tryd.checked os 4 .any (fun w args => (Rows.countedSpec.pre enc Tryd.prog Tryd.f4 [] false w args ∧ laidMetH Tryd.prog Rows.countedRow.laid w) ∧ sizedMet enc Tryd.prog Tryd.f4 (OpenSpec.ofChange Rows.countedSpec) false w args)
      (Rows.countedSpec.post enc Tryd.prog Tryd.f4 false true false false) := by
  refine returnsInHanded_of_change_and (C := Tryd.checked) (X := fun w _ => laidMetH Tryd.prog Rows.countedRow.laid w) (fun _ _ _ hh h => h.of_heap hh) own started (by kernel_rfl) Tryd.func4
    (ChangeSpec.witness_shaped (enc := enc) (C := Tryd.checked) (os := os) (X := fun w _ => laidMetH Tryd.prog Rows.countedRow.laid w) false (World.doorLaid Tryd.prog 400 os) #[.int .i64 0, .int .i64 0, .int .i64 0] 8 rfl (World.shaped_of_RefB (by kernel_rfl) (by kernel_rfl)) (by kernel_rfl) (by kernel_rfl) (by kernel_rfl) (door_met os _)) ?_
  intro W base args ds gs before hval0 hW _ _ hL _
  have hval : ∀ (j : Nat) t v, Tryd.f4.params[j]? = some t → args[j]? = some v → Value.okWide Tryd.prog W .any base t v := hval0
  have hW' := hW
  obtain ⟨p, q, hA0, hV, rfl, hfz, hnd⟩ := hW
  have hA : DataW.TrodAll enc Tryd.prog W 0 (fun _ => true) true Tryd.f4.params.toList args.toList ds p := hA0
  rw [Tryd.params4] at hA hval
  obtain ⟨v0, v1, v2, d0, d1, d2, p0, p1, p2, rfl, rfl, rfl, h0, h1, h2⟩ := trodAll_three hA
  obtain ⟨rfl, rfl⟩ := trodVars_none hV
  obtain ⟨a0, rfl, rfl, rfl, w0⟩ := open_int Tryd.underlying3 (hval 0 3 v0 rfl rfl) h0
  obtain ⟨a1, rfl, rfl, rfl, w1⟩ := open_int Tryd.underlying3 (hval 1 3 v1 rfl rfl) h1
  obtain ⟨a2, rfl, rfl, rfl, w2⟩ := open_int Tryd.underlying3 (hval 2 3 v2 rfl rfl) h2
  have htab := tab_of hL
  clear hA0 hval0
  refine (walk a0 a1 a2 W (wf_in w0) (wf_in w1) (wf_in w2) htab).mono fun e W' ⟨he, bel⟩ => ?_
  subst he
  exact ⟨_, rfl, _, _, _, [], _, [], hW', trodAll_mk1 (shut_bool Tryd.underlying4 _), (trodAll_cons_mk (shut_int Tryd.underlying3 w0) (trodAll_cons_mk (shut_int Tryd.underlying3 w1) (trodAll_cons_mk (shut_int Tryd.underlying3 w2) trodAll_mk0))), rfl, bel.frame _, fun h => by cases h⟩

theorem row_holds (walk : Walk) : Rows.CountedSaid :=
  OpenClaim.holds_of_wide 4 Tryd.f4 rfl rfl rfl rfl rfl rfl rfl ⟨rfl, rfl, rfl, rfl, rfl⟩ rfl rfl rfl rfl rfl (by kernel_rfl) Tryd.func4 (by kernel_rfl)
    (of_decide_eq_true (by kernel_rfl)) (by unfold Func.isWrapper; first | (rw [if_pos (by decide +kernel)]; kernel_rfl) | (rw [if_neg (by decide +kernel)]; exact ⟨rfl, rfl⟩))
    (fun os started H enc _ => lifted walk os started H enc)

theorem card_holds (walk : Walk) : Rows.CountedCardSaid :=
  Claim7.holds_tied_plain_at .later [] [.data, .data, .data] true Rows.countedCard.stood.harness true
    (row_holds walk) (fun _ h => by cases h) (by kernel_rfl) (fun _ h => by cases h) counted_row_tie rfl ⟨rfl, rfl⟩ (by kernel_rfl) rfl
    (fun f fn hf hfn => by
      obtain rfl : f = 4 := Option.some.inj ((show Tryd.prog.funcNamed Rows.countedRow.func = some 4 by kernel_rfl).symm.trans hf) |>.symm
      obtain rfl : fn = Tryd.f4 := (Option.some.inj (Tryd.func4.symm.trans hfn)).symm
      exact ⟨by kernel_rfl, fun j t ht => by
        rw [Tryd.params4] at ht
        have hm : t ∈ [3, 3, 3] := by simpa using Array.mem_of_getElem? ht
        have hall : ([3, 3, 3].all fun u => !Tryd.prog.wantsStandIn u) = true := by kernel_rfl
        exact (show Tryd.prog.wantsStandIn t = false by simpa using List.all_eq_true.1 hall t hm)⟩)
    (by kernel_rfl)
end Counted
end Go.Proofs.YtgnlokmeohffaaaDoor
/- Counted answers true, whatever the numbers: the walk. -/
namespace Go.Proofs.YtgnlokmeohffaaaDoor
open Go.RowKit

namespace N
theorem counts_snoc : ∀ (k : Nat) (a : Int), counts (k + 1) a = counts k a ++ (Lib.itoa (a + k) ++ [32])
  | 0, a => by simp [counts]
  | k + 1, a => by
    rw [counts, counts_snoc k (a + 1), counts]
    have : a + 1 + (k : Int) = a + ((k + 1 : Nat) : Int) := by omega
    rw [this]
    simp
theorem counts_to (a : Int) (q : Nat) : ∀ (n k : Nat), countsTo (a + k + q) n (a + k) = counts (min n (q + 1)) (a + k) := by
  intro n
  induction n generalizing q with
  | zero => intro k; simp [countsTo, counts]
  | succ n ih =>
    intro k
    rw [countsTo]
    cases q with
    | zero =>
      rw [if_pos (by omega), show min (n + 1) (0 + 1) = 1 by omega]
      simp [counts]
    | succ q =>
      rw [if_neg (by omega), show min (n + 1) (q + 1 + 1) = min n (q + 1) + 1 by omega, counts]
      have h := ih q (k + 1)
      rw [show a + ((k + 1 : Nat) : Int) + (q : Int) = a + (k : Int) + ((q + 1 : Nat) : Int) by omega, show a + ((k + 1 : Nat) : Int) = a + (k : Int) + 1 by omega] at h
      rw [h]
end N

theorem digits_bytes (x : Int) (w : World) (h : inI64 x) : Calls Tryd.prog 10 #[.int .i64 x] w fun e w' => ∃ X : ByteArray, e = .returned (.string X) ∧ X.data.toList = Lib.itoa x ∧ X.size ≤ 20 ∧ w' = w := by
  refine (digits_any x w h.1 h.2).mono ?_
  rintro e w' ⟨rfl, rfl⟩
  refine ⟨itoaStr x, rfl, by simp [itoaStr], ?_, rfl⟩
  have := itoa_len' x h.1 h.2
  simpa [itoaStr, ByteArray.size] using this
theorem bytes_app (a b : ByteArray) : (a ++ b).data.toList = a.data.toList ++ b.data.toList := by simp

set_option maxRecDepth 100000 in
set_option maxHeartbeats 3200000 in
theorem counted_walk (fr n left : Int) (w : World) (htab : TabOk w) (h1 : inI64 fr) (h2 : inI64 n) (h3 : inI64 left) :
    Calls Tryd.prog 4 #[.int .i64 fr, .int .i64 n, .int .i64 left] w fun r w' => r = .returned (.bool true) ∧ Below w.heap.size w w' := by
  have Htab := hide htab
  have HN := hide h2
  have HF := hide h1
  have HL := hide h3
  obtain ⟨pa, hpa, hpa30⟩ : ∃ pa : Nat, (if fr < 0 then -(fr + 1) else fr) % 30 = (pa : Int) ∧ pa < 30 := ⟨((if fr < 0 then -(fr + 1) else fr) % 30).toNat, by omega, by omega⟩
  obtain ⟨pb, hpb, hpb15⟩ : ∃ pb : Nat, (if n < 0 then -(n + 1) else n) % 15 = (pb : Int) ∧ pb < 15 := ⟨((if n < 0 then -(n + 1) else n) % 15).toNat, by omega, by omega⟩
  obtain ⟨pc, hpc, hpc20⟩ : ∃ pc : Nat, (if left < 0 then -(left + 1) else left) % 20 = (pc : Int) ∧ pc < 20 := ⟨((if left < 0 then -(left + 1) else left) % 20).toNat, by omega, by omega⟩
  obtain ⟨pd, hpd, hpd10⟩ : ∃ pd : Nat, (if n < 0 then -(n + 1) else n) % 10 = (pd : Int) ∧ pd < 10 := ⟨((if n < 0 then -(n + 1) else n) % 10).toNat, by omega, by omega⟩
  have Hpa := hide hpa
  have Hpb := hide hpb
  have Hpc := hide hpc
  have Hpd := hide hpd
  clear htab h1 h2 h3 hpa hpb hpc hpd
  go_enter Tryd.func4, Tryd.ntmps4
  go_wp2_with fail
  refine (pick_any fr 30 _ (unhide HF).1 (unhide HF).2 (by omega) (by omega)).mono ?_
  rintro e w1x ⟨rfl, hwx⟩
  subst w1x
  rw [unhide Hpa]
  have a1 : IntKind.i64.wrap ((pa : Int) - 10) = (pa : Int) - 10 := by rw [IntKind.wrap_i64]; omega
  go_wp2_with fail
  refine (pick_any n 15 _ (unhide HN).1 (unhide HN).2 (by omega) (by omega)).mono ?_
  rintro e w1x ⟨rfl, hwx⟩
  subst w1x
  rw [unhide Hpb]
  obtain ⟨a, ha⟩ : ∃ a : Int, (pa : Int) - 10 = a := ⟨_, rfl⟩
  have hab : -10 ≤ a ∧ a < 20 := by omega
  rw [ha] at *
  clear ha
  have a2 : IntKind.i64.wrap (a + (pb : Int)) = a + (pb : Int) := by rw [IntKind.wrap_i64]; omega
  have a3 : IntKind.i64.wrap (a + (pc : Int)) = a + (pc : Int) := by rw [IntKind.wrap_i64]; omega
  go_wp2_with fail
  refine (pick_any left 20 _ (unhide HL).1 (unhide HL).2 (by omega) (by omega)).mono ?_
  rintro e w1x ⟨rfl, hwx⟩
  subst w1x
  rw [unhide Hpc]
  go_wp2_with fail
  refine (Solo.new (B := w.heap.size) _ (Nat.le_refl _) (unhide Htab)).mono ?_
  rintro e w1 ⟨rfl, hw1⟩
  have Hw1 := hide hw1
  clear hw1
  go_wp2_with fail
  go_loop [11, 12, 14] (fun s u i => ∃ (k : Nat) (X Y : ByteArray), k ≤ pb ∧ s = .string X ∧ u = .string Y ∧ i = .int .i64 (a + (k : Int)) ∧ X.data.toList = N.counts k a ∧ Y.data.toList = N.counts (min k (pc + 1)) a) (fun _ _ i => match i with | .int _ k => (a + (pb : Int) - k).toNat | _ => 0)
  case atStart => exact ⟨0, ⟨#[]⟩, ⟨#[]⟩, Nat.zero_le _, rfl, rfl, by simp, rfl, by simp [N.counts]⟩
  case round =>
    obtain ⟨k, X, Y, hk, rfl, rfl, rfl, hX, hY⟩ := hrel
    have hm0 : N.modest a := ⟨by omega, by omega⟩
    have sX : X.size ≤ 60 := by rw [Lib.size_eq, hX]; have := N.counts_len k a hm0 ⟨by omega, by omega⟩; omega
    have sY : Y.size ≤ 60 := by rw [Lib.size_eq, hY]; have := N.counts_len (min k (pc + 1)) a hm0 ⟨by omega, by omega⟩; omega
    have HX := hide hX
    have HY := hide hY
    clear hX hY hm0
    by_cases hlt : k < pb
    · have c1 : a + (k : Int) < a + (pb : Int) := by omega
      have w1 : IntKind.i64.wrap (a + (k : Int) + 1) = a + (k : Int) + 1 := by rw [IntKind.wrap_i64]; omega
      have hin : inI64 (a + (k : Int)) := ⟨by omega, by omega⟩
      have Hin := hide hin
      clear hin
      go_wp2_with fail
      refine (digits_bytes _ _ (unhide Hin)).mono ?_
      rintro e w1x ⟨D, rfl, hD, sD, hwx⟩
      subst w1x
      have HD := hide hD
      clear hD
      by_cases hle : k ≤ pc
      · have c2 : a + (k : Int) ≤ a + (pc : Int) := by omega
        go_wp2_with fail
        refine (digits_bytes _ _ (unhide Hin)).mono ?_
        rintro e w1x ⟨D2, rfl, hD2, sD2, hwx⟩
        subst w1x
        have HD2 := hide hD2
        clear hD2
        go_wp2
        refine ⟨⟨k + 1, _, _, by omega, rfl, rfl, by congr 1; omega, ?_, ?_⟩, ?_⟩
        · rw [bytes_app, bytes_app, unhide HX, unhide HD, N.counts_snoc]
          simp
        · rw [bytes_app, bytes_app, unhide HY, unhide HD2, show min (k + 1) (pc + 1) = k + 1 by omega, show min k (pc + 1) = k by omega, N.counts_snoc]
          simp
        · show (a + (pb : Int) - (a + (k : Int) + 1)).toNat < (a + (pb : Int) - (a + (k : Int))).toNat
          omega
      · have c2 : ¬ a + (k : Int) ≤ a + (pc : Int) := by omega
        go_wp2
        refine ⟨⟨k + 1, _, _, by omega, rfl, rfl, by congr 1; omega, ?_, ?_⟩, ?_⟩
        · rw [bytes_app, bytes_app, unhide HX, unhide HD, N.counts_snoc]
          simp
        · rw [unhide HY, show min (k + 1) (pc + 1) = min k (pc + 1) by omega]
        · show (a + (pb : Int) - (a + (k : Int) + 1)).toNat < (a + (pb : Int) - (a + (k : Int))).toNat
          omega
    · have c1 : ¬ a + (k : Int) < a + (pb : Int) := by omega
      obtain rfl : k = pb := by omega
      clear hk hlt
      go_wp2_with fail
      go_loop [13, 15] (fun s i => ∃ q : Nat, q ≤ pd ∧ s = .int .i64 (N.sumTo q : Int) ∧ i = .int .i64 ((q : Int) + 1)) (fun _ i => match i with | .int _ q => ((pd : Int) + 1 - q).toNat | _ => 0)
      case atStart => exact ⟨0, Nat.zero_le _, rfl, rfl⟩
      case round =>
        obtain ⟨q, hq, rfl, rfl⟩ := hrel
        have hsum : N.sumTo q ≤ 100 := by
          have : ∀ q, q < 10 → N.sumTo q ≤ 100 := by decide
          exact this q (by omega)
        go_wp2_with fail
        refine (pick_any n 10 _ (unhide HN).1 (unhide HN).2 (by omega) (by omega)).mono ?_
        rintro e w1x ⟨rfl, hwx⟩
        subst w1x
        rw [unhide Hpd]
        by_cases hlt : q < pd
        · have c1 : (q : Int) + 1 ≤ (pd : Int) := by omega
          have c2 : IntKind.i64.wrap ((N.sumTo q : Int) + ((q : Int) + 1)) = (N.sumTo q : Int) + ((q : Int) + 1) := by rw [IntKind.wrap_i64]; omega
          have c3 : IntKind.i64.wrap ((q : Int) + 1 + 1) = (q : Int) + 1 + 1 := by rw [IntKind.wrap_i64]; omega
          generalize hS : N.sumTo q = S at *
          have HS := hide hS
          clear hS hsum
          go_wp2
          refine ⟨⟨q + 1, by omega, ?_, ?_⟩, ?_⟩
          · rw [N.sumTo, unhide HS]; congr 1
          · congr 1
          · show ((pd : Int) + 1 - ((q : Int) + 1 + 1)).toNat < ((pd : Int) + 1 - ((q : Int) + 1)).toNat
            omega
        · have c1 : ¬ (q : Int) + 1 ≤ (pd : Int) := by omega
          obtain rfl : q = pd := by omega
          generalize hS : N.sumTo q = S at *
          have HS := hide hS
          clear hS
          have hm1 := (unhide Hw1).2.does (m' := ⟨N.cntAll, [], [], [], 3⟩) ⟨N.cntTxt.toArray⟩ ⟨#[]⟩ (by simp [N.new]) N.cnt_line
          have HM1 := hide hm1
          clear hm1
          have hm0 : N.modest a := ⟨by omega, by omega⟩
          have hmb : N.modest (a + (k : Int)) := ⟨by omega, by omega⟩
          have hmc : N.modest (a + (pc : Int)) := ⟨by omega, by omega⟩
          have Hmod := hide (And.intro hm0 (And.intro hmb hmc))
          have ia : inI64 a := ⟨by omega, by omega⟩
          have ib : inI64 (a + (k : Int)) := ⟨by omega, by omega⟩
          have ic : inI64 (a + (pc : Int)) := ⟨by omega, by omega⟩
          have iq : inI64 (q : Int) := ⟨by omega, by omega⟩
          have is : inI64 (S : Int) := ⟨by omega, by omega⟩
          have HI := hide (And.intro ia (And.intro ib (And.intro ic (And.intro iq is))))
          clear hm0 hmb hmc ia ib ic iq is
          go_wp2_with fail
          refine (unhide HM1).mono ?_
          rintro e w2 ⟨rfl, hs2, hb2⟩
          have HS2 := hide (And.intro hs2 hb2)
          clear hs2 hb2
          go_wp2_with fail
          refine (digits_bytes _ _ (unhide HI).2.1).mono ?_
          rintro e w1x ⟨DB, rfl, hDB, sDB, hwx⟩
          subst w1x
          have HDB := hide hDB
          clear hDB
          go_wp2_with fail
          refine (digits_bytes _ _ (unhide HI).1).mono ?_
          rintro e w1x ⟨DA, rfl, hDA, sDA, hwx⟩
          subst w1x
          have HDA := hide hDA
          clear hDA
          go_wp2_with fail
          obtain ⟨st2, hup⟩ := N.up_line a (a + (k : Int)) [] 3 (unhide Hmod).1 (unhide Hmod).2.1 k rfl (by omega)
          refine ((unhide HS2).1.does (m' := ⟨N.cntAll, [], [], N.counts k a, st2⟩) _ X (by simp [N.cntAll]) ?_).mono ?_
          · rw [unhide HX, bytes_app, bytes_app, bytes_app, unhide HDB, unhide HDA]
            simpa [N.upTxt] using hup
          rintro e w3 ⟨rfl, hs3, hb3⟩
          have HS3 := hide (And.intro hs3 hb3)
          clear hs3 hb3 hup
          go_wp2_with fail
          refine (digits_bytes _ _ (unhide HI).2.2.1).mono ?_
          rintro e w1x ⟨DC, rfl, hDC, sDC, hwx⟩
          subst w1x
          have HDC := hide hDC
          clear hDC
          go_wp2_with fail
          refine (digits_bytes _ _ (unhide HI).2.1).mono ?_
          rintro e w1x ⟨DB2, rfl, hDB, sDB2, hwx⟩
          subst w1x
          have HDB2 := hide hDB
          clear hDB
          go_wp2_with fail
          refine (digits_bytes _ _ (unhide HI).1).mono ?_
          rintro e w1x ⟨DA2, rfl, hDA, sDA2, hwx⟩
          subst w1x
          have HDA2 := hide hDA
          clear hDA
          go_wp2_with fail
          obtain ⟨st3, hso⟩ := N.some_line a (a + (k : Int)) (a + (pc : Int)) (N.counts k a) st2 (unhide Hmod).1 (unhide Hmod).2.1 (unhide Hmod).2.2 k rfl (by omega)
          have hto := N.counts_to a pc k 0
          rw [show a + ((0 : Nat) : Int) = a by omega] at hto
          refine ((unhide HS3).1.does (m' := ⟨N.cntAll, [], [], N.countsTo (a + (pc : Int)) k a, st3⟩) _ Y (by simp [N.cntAll]) ?_).mono ?_
          · rw [unhide HY, ← hto, bytes_app, bytes_app, bytes_app, bytes_app, bytes_app, unhide HDC, unhide HDB2, unhide HDA2]
            simpa [N.someTxt] using hso
          rintro e w4 ⟨rfl, hs4, hb4⟩
          have HS4 := hide (And.intro hs4 hb4)
          clear hs4 hb4 hso hto
          go_wp2_with fail
          refine (pick_any n 10 _ (unhide HN).1 (unhide HN).2 (by omega) (by omega)).mono ?_
          rintro e w1x ⟨rfl, hwx⟩
          subst w1x
          rw [unhide Hpd]
          go_wp2_with fail
          refine (digits_bytes _ _ (unhide HI).2.2.2.1).mono ?_
          rintro e w1x ⟨DQ, rfl, hDQ, sDQ, hwx⟩
          subst w1x
          have HDQ := hide hDQ
          clear hDQ
          go_wp2_with fail
          refine (digits_bytes _ _ (unhide HI).2.2.2.2).mono ?_
          rintro e w1x ⟨DS, rfl, hDS, sDS, hwx⟩
          subst w1x
          have HDS := hide hDS
          clear hDS
          go_wp2_with fail
          obtain ⟨st4, hsu⟩ := N.sum_line q (N.countsTo (a + (pc : Int)) k a) st3 (by omega)
          refine ((unhide HS4).1.does (m' := ⟨N.cntAll, [], [], Lib.itoa (N.sumTo q : Int) ++ [32], st4⟩) _ _ (by simp [N.cntAll]) ?_).mono ?_
          · rw [bytes_app, bytes_app, unhide HDQ, unhide HDS, ← unhide HS]
            simpa [N.sumTxt] using hsu
          rintro e w5 ⟨rfl, hs5, hb5⟩
          have HS5 := hide (And.intro hs5 hb5)
          clear hs5 hb5 hsu
          go_wp2_with fail
          refine (unhide HS5).1.stack.mono ?_
          rintro e w6 ⟨v, rfl, hown, hb6⟩
          obtain ⟨aV, cV, rfl, _, _⟩ := owns_slice hown
          have HB6 := hide hb6
          clear hown hb6
          go_wp2
          go_ret
          have h1 := unhide Hw1
          have h2 := unhide HS2
          have h3 := unhide HS3
          have h4 := unhide HS4
          have h5 := unhide HS5
          exact ⟨rfl, h1.1.trans (h2.2.trans (h3.2.trans (h4.2.trans (h5.2.trans ((unhide HB6).mono h5.1.1)))))⟩
end Go.Proofs.YtgnlokmeohffaaaDoor
