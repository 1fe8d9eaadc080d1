/- Parts of the proof: see the last text. -/
import Derived.Test.YtgnlokmeohffaaaDoorProg
import Derived.WalkKit
import Derived.ChangeSlices
import Derived.Test.YtgnlokmeohffaaaDoorCards
import Derived.Test.YtgnlokmeohffaaaDoorTie
import Derived.ProofKit
import Derived.LaidMore
import Derived.OpenShut
import Derived.Stop.Joined
import Derived.SevenTiedAt
import Derived.LaidSub
import Derived.Lib.LaidTab
import Derived.Lib.ItoaNum
import Derived.WalkSpells
import Derived.WalkLawsBesides
import Derived.Deep.RegionHeld3
import Derived.Deep.DrawnRows
import Derived.Test.YtgnlokmeohffaaaDoorB13
/- A slice of numbers that came in: what a walk knows of it. -/
namespace Go.Proofs.YtgnlokmeohffaaaDoor
open Go.RowKit Go.ChangeShapes Go.WideShapes

/-- A slice of ints, and its elements. -/
def Ints (W : World) (a : Option Addr) (len : Nat) (zs : List Int) : Prop :=
  zs.length = len ∧ (len : Int) ≤ 9223372036854775807 ∧ (∀ i, i < len → ∃ b, a = some b ∧ b.block < W.heap.size ∧ W.cell? (b.add i) = some (.int .i64 (zs.getD i 0))) ∧ ∀ z ∈ zs, inI64 z

theorem cellsInt : Tryd.prog.cellsOf 3 = 1 := by kernel_rfl
theorem wf_in {a : Int} (h : (Lit.int .i64 a).wf = true) : inI64 a := by
  simp only [Lit.wf, IntKind.min, IntKind.max, IntKind.signed, IntKind.bits, Bool.and_eq_true, decide_eq_true_eq, if_true] at h
  unfold inI64
  omega
theorem ints_of {H : Type} {enc : TypeId × Value → H} {W : World} {base : Nat} {sp : Nat → Bool} {held : Bool} {a : Option Addr} {len cap : Nat} {d : DataW H} {ps : List MemPlace} (h : DataW.Trod enc Tryd.prog W base sp held 27 (.slice a len cap) d ps) : ∃ zs, Ints W a len zs := by
  obtain ⟨fuel, hf⟩ := h
  rcases open_ints Tryd.underlying27 Tryd.underlying3 cellsInt hf with ⟨hcs, hx⟩ | ⟨b, len', cap', zs, hcs, _, hl, hm, hz, hx, hcell, hwz⟩
  · simp [Value.cells] at hcs
    obtain ⟨rfl, rfl, rfl⟩ := hcs
    exact ⟨[], rfl, by omega, fun i hi => by omega, fun z hz => by simp at hz⟩
  · simp [Value.cells] at hcs
    obtain ⟨rfl, rfl, rfl⟩ := hcs
    unfold maxLen at hm
    have hzl : len ≤ zs.length := by rw [hz]; split <;> omega
    refine ⟨zs.take len, by simp; omega, by omega, fun i hi => ⟨b, rfl, ?_, ?_⟩, fun z hz => wf_in (hwz z (List.mem_of_mem_take hz))⟩
    · have hc := hcell i (by omega)
      have := World.block_lt_of_cell? _ _ hc
      rwa [Go.ChangeShapes.block_add] at this
    · rw [hcell i (by omega)]
      simp [List.getD_eq_getElem?_getD, hi]
theorem Ints.below {W W' : World} {a : Option Addr} {len : Nat} {zs : List Int} (h : Ints W a len zs) (hb : Below W.heap.size W W') : Ints W' a len zs := by
  refine ⟨h.1, h.2.1, fun i hi => ?_, h.2.2.2⟩
  obtain ⟨b, hab, hlt, hc⟩ := h.2.2.1 i hi
  refine ⟨b, hab, Nat.lt_of_lt_of_le hlt hb.size, ?_⟩
  rw [hb.cell (by rw [Go.ChangeShapes.block_add]; exact hlt)]
  exact hc
end Go.Proofs.YtgnlokmeohffaaaDoor
/- Apart answers true, if the walk does: from the walk to the row and to the card that ties the three tables of the library to their text. (Written by tools/mkframe.py.) -/
namespace Go.Proofs.YtgnlokmeohffaaaDoor
namespace Apart
open Go.ChangeShapes Go.WideShapes Go.ChangeAt Go.WideMaps Go.WideElems Go.RowKit

theorem own : ownKnob Tryd.prog.godebug = none := by kernel_rfl
theorem laidOut : laidOutB Tryd.prog = true := by kernel_rfl

/-- What is still to be shown: the walk. -/
def Walk : Prop := ∀ (a0 : Option Addr) (l0 c0 : Nat) (z0 : List Int) (W : World), Ints W a0 l0 z0 →
    Lib.TabIs Tryd.prog W "internal/strconv.uint64pow10" .u64 Lib.pow10Tab →
    Calls Tryd.prog 5 #[.slice a0 l0 c0] W fun e w' => e = .returned (.bool true) ∧ Below W.heap.size W w'

theorem door_met (os : Os) (args : Array Value) : laidMetH Tryd.prog Rows.apartRow.laid ((World.doorLaid Tryd.prog 400 os).forCall (fun _ _ => 0) ⟨#[], args, []⟩).memory :=
  laidMetH_of_parts3 (fuel := 8) (laidMet_of_run' 8 (by kernel_rfl) (by kernel_rfl)) (by kernel_rfl) (by kernel_rfl)

theorem tab_of {W : World} (h : laidMetH Tryd.prog Rows.apartRow.laid W) : Lib.TabIs Tryd.prog W "internal/strconv.uint64pow10" .u64 Lib.pow10Tab := by
  rw [MakeChecks.laidMetH_plain _ _ _ (by kernel_rfl)] at h
  have h2 := laidMet.filter (fun x => x.1 == "internal/strconv.uint64pow10") h
  have e : (Rows.apartRow.laid.filter fun x => x.1 == "internal/strconv.uint64pow10") = [("internal/strconv.uint64pow10", Lib.tabData .u64 Lib.pow10Tab)] := by kernel_rfl
  rw [e] at h2
  exact Lib.tabIs_of_head (g := 0) (n := 20) (t := 157) (e := 147) (by kernel_rfl) (by kernel_rfl) Tryd.underlying157 Tryd.underlying147 (by kernel_rfl) (by kernel_rfl) h2

set_option maxRecDepth 100000 in
theorem lifted (walk : Walk) (os : Os) (started : os.Started) (H : Type) (enc : TypeId × Value → H) :
    ReturnsInHanded {} Tryd.checked os 5 .any (fun w args => (Rows.apartSpec.pre enc Tryd.prog Tryd.f5 [] false w args ∧ laidMetH Tryd.prog Rows.apartRow.laid w) ∧ sizedMet enc Tryd.prog Tryd.f5 (OpenSpec.ofChange Rows.apartSpec) false w args)
      (Rows.apartSpec.post enc Tryd.prog Tryd.f5 false true false false) := by
  refine returnsInHanded_of_change_and (C := Tryd.checked) (X := fun w _ => laidMetH Tryd.prog Rows.apartRow.laid w) (fun _ _ _ hh h => h.of_heap hh) own started (by kernel_rfl) Tryd.func5
    (ChangeSpec.witness_shaped (enc := enc) (C := Tryd.checked) (os := os) (X := fun w _ => laidMetH Tryd.prog Rows.apartRow.laid w) false (World.doorLaid Tryd.prog 400 os) #[.slice none 0 0] 8 rfl (World.shaped_of_RefB (by kernel_rfl) (by kernel_rfl)) (by kernel_rfl) (by kernel_rfl) (by kernel_rfl) (door_met os _)) ?_
  intro W base args ds gs before hval0 hW _ _ hL _
  have hval : ∀ (j : Nat) t v, Tryd.f5.params[j]? = some t → args[j]? = some v → Value.okWide Tryd.prog W .any base t v := hval0
  have hW' := hW
  obtain ⟨p, q, hA0, hV, rfl, hfz, hnd⟩ := hW
  have hA : DataW.TrodAll enc Tryd.prog W 0 (fun _ => true) true Tryd.f5.params.toList args.toList ds p := hA0
  rw [Tryd.params5] at hA hval
  obtain ⟨v0, d0, rfl, rfl, h0⟩ := trodAll_one hA
  obtain ⟨rfl, rfl⟩ := trodVars_none hV
  obtain ⟨a0, l0, c0, rfl⟩ := okWide_slice Tryd.underlying27 (hval 0 27 v0 rfl rfl)
  obtain ⟨z0, i0⟩ := ints_of h0
  have htab := tab_of hL
  clear hA0 hval0
  refine (walk a0 l0 c0 z0 W i0 htab).mono fun e W' ⟨he, bel⟩ => ?_
  subst he
  exact ⟨_, rfl, _, _, _, [], _, [], hW', trodAll_mk1 (shut_bool Tryd.underlying4 _), (trodAll_cons_mk (Below.trod laidOut (by kernel_rfl) (of_decide_eq_true (by kernel_rfl)) h0 bel (fun x hx => hW'.lt x (by simp [hx]))) trodAll_mk0), rfl, bel.frame _, fun h => by cases h⟩

theorem row_holds (walk : Walk) : Rows.ApartSaid :=
  OpenClaim.holds_of_wide 5 Tryd.f5 rfl rfl rfl rfl rfl rfl rfl ⟨rfl, rfl, rfl, rfl, rfl⟩ rfl rfl rfl rfl rfl (by kernel_rfl) Tryd.func5 (by kernel_rfl)
    (of_decide_eq_true (by kernel_rfl)) (by unfold Func.isWrapper; first | (rw [if_pos (by decide +kernel)]; kernel_rfl) | (rw [if_neg (by decide +kernel)]; exact ⟨rfl, rfl⟩))
    (fun os started H enc _ => lifted walk os started H enc)

theorem card_holds (walk : Walk) : Rows.ApartCardSaid :=
  Claim7.holds_tied_plain_at .later [] [.data, .data, .data] true Rows.apartCard.stood.harness true
    (row_holds walk) (fun _ h => by cases h) (by kernel_rfl) (fun _ h => by cases h) apart_row_tie rfl ⟨rfl, rfl⟩ (by kernel_rfl) rfl
    (fun f fn hf hfn => by
      obtain rfl : f = 5 := Option.some.inj ((show Tryd.prog.funcNamed Rows.apartRow.func = some 5 by kernel_rfl).symm.trans hf) |>.symm
      obtain rfl : fn = Tryd.f5 := (Option.some.inj (Tryd.func5.symm.trans hfn)).symm
      exact ⟨by kernel_rfl, fun j t ht => by
        rw [Tryd.params5] at ht
        have hm : t ∈ [27] := by simpa using Array.mem_of_getElem? ht
        have hall : ([27].all fun u => !Tryd.prog.wantsStandIn u) = true := by kernel_rfl
        exact (show Tryd.prog.wantsStandIn t = false by simpa using List.all_eq_true.1 hall t hm)⟩)
    (by kernel_rfl)
end Apart
end Go.Proofs.YtgnlokmeohffaaaDoor
/- anvilkeep: sameInts, sameTexts: whether two lists hold the same. -/
namespace Go.Proofs.YtgnlokmeohffaaaDoor
open Go.RowKit

theorem take_ne {α : Type} {A B : List α} {k : Nat} (hA : k < A.length) (hB : k < B.length) (h : A[k] ≠ B[k]) : A ≠ B := by
  rintro rfl
  exact h rfl
theorem take_eq {α : Type} {A B : List α} {k : Nat} (hA : k < A.length) (hB : k < B.length) (h : A.take k = B.take k) (he : A[k] = B[k]) : A.take (k + 1) = B.take (k + 1) := by
  rw [List.take_succ_eq_append_getElem hA, List.take_succ_eq_append_getElem hB, h, he]

theorem src_cell {w : World} {b o n c : Nat} {xs : List Value} (h : Src w (.slice (some ⟨b, o, none⟩) n c) xs) : ∀ k (hk : k < xs.length), w.cell? ⟨b, o + k, none⟩ = some xs[k] := by
  rcases h with ⟨h, _⟩ | ⟨b', o', c', h, _, hc⟩
  · cases h
  · injection h with h1 h2 h3
    injection h1 with h1
    injection h1 with h4 h5
    subst h4 h5
    exact fun k hk => hc k _ (List.getElem?_eq_getElem hk)

set_option maxRecDepth 100000 in
set_option maxHeartbeats 1600000 in
/-- sameInts, at lists that are not nil. -/
theorem sameInts_some (b o c b2 o2 c2 : Nat) (A B : List (Int)) (w : World) (hl : A.length ≤ 4294967296) (hAB : A.length = B.length) (hA : ∀ k (hk : k < A.length), w.cell? ⟨b, o + k, none⟩ = some (Value.int .i64 A[k])) (hB : ∀ k (hk : k < B.length), w.cell? ⟨b2, o2 + k, none⟩ = some (Value.int .i64 B[k])) :
    Calls Tryd.prog 14 #[.slice (some ⟨b, o, none⟩) A.length c, .slice (some ⟨b2, o2, none⟩) A.length c2] w fun e w' => e = .returned (.bool (decide (A = B))) ∧ ∃ n, w' = w.drewN n := by
  have HA := hide hA
  have HB := hide hB
  have HL := hide hAB
  clear hA hB hAB
  go_enter Tryd.func14, Tryd.ntmps14
  go_wp2
  go_loopw [5] (fun i wr => ∃ k n : Nat, k ≤ A.length ∧ i = .int .i64 k ∧ A.take k = B.take k ∧ wr = w.drewN n) (fun i _ => A.length - (intOf i).toNat)
  case atStart => exact ⟨0, 0, Nat.zero_le _, rfl, by simp, rfl⟩
  case round =>
    obtain ⟨k, n, hk, rfl, htk, hwr⟩ := hrel
    have Htk := hide htk
    have Hwr := hide hwr
    clear htk
    by_cases hlt : k < A.length
    · have hltB : k < B.length := by rw [← unhide HL]; exact hlt
      have hcA : wr.cell? ⟨b, o + k, none⟩ = some (Value.int .i64 A[k]) := by rw [hwr]; exact unhide HA k hlt
      have hcB : wr.cell? ⟨b2, o2 + k, none⟩ = some (Value.int .i64 B[k]) := by rw [hwr]; exact unhide HB k hltB
      have i0 : (0 : Int) ≤ (k : Int) := by omega
      have i1 : (k : Int) < (A.length : Int) := by omega
      clear hwr
      by_cases he : A[k] = B[k]
      · have hb : ((A[k] : Int) != B[k]) = false := by rw [bne_eq_false_iff_eq]; exact he
        have He := hide he
        clear he
        go_wp2
        go_region_held3 (fun w' => w'.cell? ⟨b, o + k, none⟩ = some (Value.int .i64 A[k]) ∧ w'.cell? ⟨b2, o2 + k, none⟩ = some (Value.int .i64 B[k])) (first | exact ⟨hcA, hcB⟩ | go_keep) (fail)
        go_wp2
        exact ⟨⟨k + 1, n + 1, by omega, by go_num, take_eq hlt hltB (unhide Htk) (unhide He), by rw [unhide Hwr]; rfl⟩, by simp [intOf]; omega⟩
      · have hb : ((A[k] : Int) != B[k]) = true := by rw [bne_iff_ne]; exact he
        have He := hide he
        clear he
        go_wp2
        go_region_held3 (fun w' => w'.cell? ⟨b, o + k, none⟩ = some (Value.int .i64 A[k]) ∧ w'.cell? ⟨b2, o2 + k, none⟩ = some (Value.int .i64 B[k])) (first | exact ⟨hcA, hcB⟩ | go_keep) (fail)
        go_wp2
        go_ret
        exact ⟨ret_bool (decide_eq_false (take_ne hlt hltB (unhide He))).symm, n + 1, by rw [unhide Hwr]; rfl⟩
    · clear hwr
      go_wp2
      go_ret
      refine ⟨ret_bool (decide_eq_true ?_).symm, n, unhide Hwr⟩
      have := unhide Htk
      rwa [List.take_of_length_le (by omega), List.take_of_length_le (by rw [← unhide HL]; omega)] at this

set_option maxRecDepth 100000 in
/-- sameInts, where the lengths are not the same. -/
theorem sameInts_len (a a2 : Option Addr) (n n2 c c2 : Nat) (w : World) (h : ((n : Int) != (n2 : Int)) = true) :
    Calls Tryd.prog 14 #[.slice a n c, .slice a2 n2 c2] w fun e w' => e = .returned (.bool false) ∧ w' = w := by
  go_enter Tryd.func14, Tryd.ntmps14
  go_wp2
  go_ret
  exact ⟨rfl, rfl⟩

set_option maxRecDepth 100000 in
/-- sameInts, at two empty lists. -/
theorem sameInts_nil (a a2 : Option Addr) (c c2 : Nat) (w : World) :
    Calls Tryd.prog 14 #[.slice a 0 c, .slice a2 0 c2] w fun e w' => e = .returned (.bool true) ∧ w' = w := by
  go_enter Tryd.func14, Tryd.ntmps14
  go_wp2
  go_loop [5] (fun i => i = .int .i64 0) (fun _ => 0)
  case atStart => rfl
  case round =>
    obtain rfl := hrel
    go_wp2
    go_ret
    exact ⟨rfl, rfl⟩
end Go.Proofs.YtgnlokmeohffaaaDoor
/- What the laws of anvilkeep call: laid, sameInts at two lists of the same numbers. -/
namespace Go.Proofs.YtgnlokmeohffaaaDoor
open Go.RowKit

/-- An answer lies in none of a machine's blocks. -/
theorem MachN.not_ans {w : World} {mb : Nat} {vO vB vS vR : Value} {wv : List Own} {m : N.Mach} (h : MachN w mb vO vB vS vR wv m) {k : Nat} {c : Array Value} (hc : w.heap[k]? = some (Obj.cells c 34)) : ¬ FootM mb vO vS vR wv k := by
  rintro (rfl | e | e | e | e)
  · exact ne_of_type h.mc hc (by decide) rfl
  · exact own_ne_of_type h.st hc (by decide) e
  · exact own_ne_of_type h.rt hc (by decide) e
  · obtain ⟨j, hj⟩ := e
    obtain ⟨en, he, hen⟩ := h.own.und j k hj
    exact ne_of_type (h.own.ent j en _ he hj hen).2.2 hc (by decide) rfl
  · exact own_ne_of_type h.own.row hc (by decide) e

def laidM : N.Mach := ⟨N.laidAll 3, [], [], [], 8⟩
set_option maxRecDepth 100000 in
theorem laid_any (w : World) (htab : TabOk w) : Calls Tryd.prog 12 #[] w fun r w' => ∃ mb, r = .returned (.pointer (some ⟨mb, 0, none⟩)) ∧ Solo w.heap.size w' mb laidM ∧ Below w.heap.size w w' := by
  have Htab := hide htab
  clear htab
  go_enter Tryd.func12, Tryd.ntmps12
  go_wp2_with fail
  refine (Solo.new (B := w.heap.size) _ (Nat.le_refl _) (unhide Htab)).mono ?_
  rintro e w1 ⟨rfl, hb1, h1⟩
  have HB1 := hide hb1
  have H1 := hide (h1.does (m' := laidM) ⟨N.laidTxt.toArray⟩ ⟨#[]⟩ (by simp [N.new]) N.laid_line)
  clear hb1 h1
  go_wp2_with fail
  refine (unhide H1).mono ?_
  rintro e w2 ⟨rfl, h2, hb2⟩
  have H2 := hide (And.intro h2 hb2)
  clear h2 hb2
  go_wp2
  go_ret
  exact ⟨_, rfl, (unhide H2).1, (unhide HB1).trans (unhide H2).2⟩

/-- A machine that was, and one that is new. -/
theorem Solo.join {B : Nat} {w w' : World} {mb nb : Nat} {m n : N.Mach} (h : Solo B w mb m) (hb : Below w.heap.size w w') (hn : Solo w.heap.size w' nb n) : Duo B w' mb nb m n := by
  obtain ⟨h0, F, h1, hF⟩ := h
  obtain ⟨h2, G, h3, hG⟩ := hn
  exact ⟨Nat.le_trans h0 hb.size, F, G, h1.below hb, h3, fun k hk hg => by have := h1.lt k hk; have := hG k hg; omega, hF, fun k hk => Nat.le_trans h0 (hG k hk)⟩

theorem drewN_below (n : Nat) (w : World) : Below w.heap.size w (w.drewN n) := by
  exact ⟨rfl, rfl, rfl, Nat.le_refl _, fun _ _ => rfl⟩
/-- sameInts, at two lists of the same numbers. -/
theorem same_ints (w : World) (b1 b2 : Nat) (v1 v2 : Value) (S : List Int) (hl : S.length ≤ 4294967296) (h1 : w.ownsRow b1 3 1 v1 S.length (S.map (Value.int .i64))) (h2 : w.ownsRow b2 3 1 v2 S.length (S.map (Value.int .i64))) :
    Calls Tryd.prog 14 #[v1, v2] w fun r w' => r = .returned (.bool true) ∧ Below w.heap.size w w' := by
  by_cases h0 : S.length = 0
  · obtain ⟨a1, c1, rfl, _, _⟩ := owns_slice h1
    obtain ⟨a2, c2, rfl, _, _⟩ := owns_slice h2
    rw [h0]
    refine (sameInts_nil a1 a2 c1 c2 w).mono ?_
    rintro r w' ⟨rfl, hw⟩
    first
      | (obtain ⟨n, rfl⟩ := hw; exact ⟨rfl, drewN_below n w⟩)
      | (subst hw; exact ⟨rfl, Below.refl _ _⟩)
  · obtain ⟨g1, c1, rfl, _, _⟩ := h1.form (by omega)
    obtain ⟨g2, c2, rfl, _, _⟩ := h2.form (by omega)
    have key : ∀ {b g c : Nat}, w.ownsRow b 3 1 (.slice (some ⟨g, 0, none⟩) S.length c) S.length (S.map (Value.int .i64)) → ∀ k (hk : k < S.length), w.cell? ⟨g, 0 + k, none⟩ = some (Value.int .i64 S[k]) := fun h k hk => by
      have := h.cells (g := _) rfl k (.int .i64 S[k]) (by rw [List.getElem?_map, List.getElem?_eq_getElem hk]; rfl)
      rwa [add_lit] at this
    refine (sameInts_some g1 0 c1 g2 0 c2 S S w hl rfl (key h1) (key h2)).mono ?_
    rintro r w' ⟨rfl, n, rfl⟩
    exact ⟨by simp, drewN_below n w⟩
end Go.Proofs.YtgnlokmeohffaaaDoor
/- Apart's pieces: what each does, in whatever line it stands. -/
namespace Go.Proofs.YtgnlokmeohffaaaDoor
namespace N
open Go.RowKit

theorem short_len (n : Nat) (h : n ≤ 16) : (Lib.itoa (n : Int)).length ≤ 20 := by
  have := modest_len (n : Int) ⟨by omega, by omega⟩
  omega
def wCr : Txt := [99, 114]
def wDepth : Txt := [100, 101, 112, 116, 104]
def wDup : Txt := [100, 117, 112]
def wDrop : Txt := [100, 114, 111, 112]
/-- The pieces' words; what each lays and tells (at so many numbers). -/
def pieceWs : Nat → List Txt
  | 0 => [[49]]
  | 1 => [[50]]
  | 2 => [[97]]
  | 3 => [[98]]
  | 4 => [[107], [46]]
  | 5 => [[118], [64], [46]]
  | 6 => [wDepth, [46]]
  | 7 => [[51], [118], [33]]
  | 8 => [[52], [46]]
  | 9 => [[48], wDup, wDrop]
  | _ => [wCr]
def pieceTxt : Nat → Txt
  | 0 => [49]
  | 1 => [50]
  | 2 => [97]
  | 3 => [98]
  | 4 => [107, 32, 46]
  | 5 => [118, 32, 64, 32, 46]
  | 6 => [100, 101, 112, 116, 104, 32, 46]
  | 7 => [51, 32, 118, 32, 33]
  | 8 => [52, 32, 46]
  | 9 => [48, 32, 100, 117, 112, 32, 100, 114, 111, 112]
  | _ => [99, 114]
def pieceLays : Nat → List Int
  | 0 => [1]
  | 1 => [2]
  | 9 => [0]
  | _ => []
def pieceTells (j n : Nat) : Txt := match j with
  | 2 => [97]
  | 3 => [97, 98]
  | 4 => [52, 48, 32]
  | 5 => [51, 32]
  | 6 => Lib.itoa (n : Int) ++ [32]
  | 8 => [52, 32]
  | 0 => []
  | 1 => []
  | 7 => []
  | 9 => []
  | _ => [10]
def pieceSteps : Nat → Nat
  | 2 => 3
  | 3 => 6
  | j => (pieceWs j).length
theorem piece_split : ∀ j, j < 11 → L.split (pieceTxt j) = pieceWs j := by decide +kernel

theorem piece_runs (j : Nat) (hj : j < 11) (f p st : Nat) (S : List Int) (out : Txt) (ws t : List Txt) (hd : ws.drop p = pieceWs j ++ t) (hS : S.length ≤ 13) (ho : out.length + 21 ≤ 300) (hs : st + 6 ≤ 1000) :
    runs (f + (pieceWs j).length) ⟨laidAll 3, S, [], out, st⟩ ws p = runs f ⟨laidAll 3, S ++ pieceLays j, [], out ++ pieceTells j S.length, st + pieceSteps j⟩ ws (p + (pieceWs j).length) := by
  have hl : ∀ a : Txt, a.length ≤ 3 → (out ++ a).length ≤ 300 := fun a ha => by simp only [List.length_append]; omega
  have h : j = 0 ∨ j = 1 ∨ j = 2 ∨ j = 3 ∨ j = 4 ∨ j = 5 ∨ j = 6 ∨ j = 7 ∨ j = 8 ∨ j = 9 ∨ j = 10 := by omega
  rcases h with rfl | rfl | rfl | rfl | rfl | rfl | rfl | rfl | rfl | rfl | rfl
  · refine (runs_word hd (by omega) rfl (c := ⟨1, 1, []⟩) rfl (cell_number (by omega))).trans ?_
    simp [pieceLays, pieceTells, pieceSteps, pieceWs]
  · refine (runs_word hd (by omega) rfl (c := ⟨1, 2, []⟩) rfl (cell_number (by omega))).trans ?_
    simp [pieceLays, pieceTells, pieceSteps, pieceWs]
  · refine (runs_word hd (by omega) rfl (c := ⟨2, 0, []⟩) rfl ((cell_own (j := 0) rfl).trans (a_owns rfl (by decide) (by omega) (by omega) (by omega) (by simp) (by omega)))).trans ?_
    simp [pieceLays, pieceTells, pieceSteps, pieceWs]
  · refine (runs_word hd (by omega) rfl (c := ⟨2, 1, []⟩) rfl ((cell_own (j := 1) rfl).trans (b_owns rfl rfl (by decide) (by omega) (by omega) (by omega) (by simp) (by omega)))).trans ?_
    simp [pieceLays, pieceTells, pieceSteps, pieceWs]
  · refine (runs_word (f := f + 1) hd (by omega) rfl (c := ⟨2, 3, []⟩) rfl ((cell_own (j := 3) rfl).trans (k_owns rfl (by omega)))).trans ?_
    refine (runs_word (drop_next hd) (by omega) rfl (c := ⟨3, 0, [46]⟩) rfl (cell_prim (tell_ok (by decide +kernel) (by omega) (by simp) (by omega)))).trans ?_
    simp [pieceLays, pieceTells, pieceSteps, pieceWs, show Lib.itoa 40 = [52, 48] by decide +kernel]
  · refine (runs_word (f := f + 2) hd (by omega) rfl (c := ⟨2, 2, []⟩) rfl ((cell_own (j := 2) rfl).trans (v_owns (n := 3) rfl (by omega)))).trans ?_
    refine (runs_word (f := f + 1) (drop_next hd) (by omega) rfl (c := ⟨3, 0, [64]⟩) rfl (cell_prim (fetch_ok (n := 3) rfl (by omega) (by simp) (by omega)))).trans ?_
    refine (runs_word (drop_next (drop_next hd)) (by omega) rfl (c := ⟨3, 0, [46]⟩) rfl (cell_prim (tell_ok (by decide +kernel) (by omega) (by simp) (by omega)))).trans ?_
    simp [pieceLays, pieceTells, pieceSteps, pieceWs, show Lib.itoa 3 = [51] by decide +kernel]
  · refine (runs_word (f := f + 1) hd (by omega) rfl (c := ⟨3, 0, wDepth⟩) rfl (cell_prim (depth_ok (by omega) (by simp) (by omega)))).trans ?_
    refine (runs_word (drop_next hd) (by omega) rfl (c := ⟨3, 0, [46]⟩) rfl (cell_prim (tell_ok (short_len _ (by omega)) (by omega) (by simp) (by omega)))).trans ?_
    simp [pieceLays, pieceTells, pieceSteps, pieceWs]
  · refine (runs_word (f := f + 2) hd (by omega) rfl (c := ⟨1, 3, []⟩) rfl (cell_number (by omega))).trans ?_
    refine (runs_word (f := f + 1) (drop_next hd) (by omega) rfl (c := ⟨2, 2, []⟩) rfl ((cell_own (j := 2) rfl).trans (v_owns (n := 3) rfl (by simp; omega)))).trans ?_
    rw [List.append_assoc]
    refine (runs_word (drop_next (drop_next hd)) (by omega) rfl (c := ⟨3, 0, [33]⟩) rfl (cell_prim (store_ok (n := 3) rfl (by omega) (by simp) (by omega)))).trans ?_
    simp [pieceLays, pieceTells, pieceSteps, pieceWs]
    rfl
  · refine (runs_word (f := f + 1) hd (by omega) rfl (c := ⟨1, 4, []⟩) rfl (cell_number (by omega))).trans ?_
    refine (runs_word (drop_next hd) (by omega) rfl (c := ⟨3, 0, [46]⟩) rfl (cell_prim (tell_ok (by decide +kernel) (by omega) (by simp) (by omega)))).trans ?_
    simp [pieceLays, pieceTells, pieceSteps, pieceWs, show Lib.itoa 4 = [52] by decide +kernel]
  · refine (runs_word (f := f + 2) hd (by omega) rfl (c := ⟨1, 0, []⟩) rfl (cell_number (by omega))).trans ?_
    refine (runs_word (f := f + 1) (drop_next hd) (by omega) rfl (c := ⟨3, 0, wDup⟩) rfl (cell_prim (dup_ok (by omega) (by simp) (by omega)))).trans ?_
    rw [show S ++ [0, 0] = (S ++ [0]) ++ [0] by simp]
    refine (runs_word (drop_next (drop_next hd)) (by omega) rfl (c := ⟨3, 0, wDrop⟩) rfl (cell_prim (drop_ok (by simp; omega) (by simp) (by omega)))).trans ?_
    simp [pieceLays, pieceTells, pieceSteps, pieceWs]
  · refine (runs_word hd (by omega) rfl (c := ⟨3, 0, wCr⟩) rfl (cell_prim (cr_ok (by omega) (by simp) (by omega)))).trans ?_
    simp [pieceLays, pieceTells, pieceSteps, pieceWs]

/-- What pieces one behind the other lay and tell. -/
def partLays : List Nat → List Int → List Int
  | [], S => S
  | j :: js, S => partLays js (S ++ pieceLays j)
def partTells : List Nat → List Int → Txt
  | [], _ => []
  | j :: js, S => pieceTells j S.length ++ partTells js (S ++ pieceLays j)
def partTxt : List Nat → Txt
  | [] => []
  | j :: js => pieceTxt j ++ 32 :: partTxt js
def partWs (js : List Nat) : List Txt := js.flatMap pieceWs
theorem part_split : ∀ js : List Nat, (∀ j ∈ js, j < 11) → L.split (partTxt js) = partWs js
  | [], _ => rfl
  | j :: js, h => by
    rw [partTxt, split_blank 32 (by decide), piece_split j (h j (by simp)), part_split js fun x hx => h x (by simp [hx])]
    rfl
theorem lays_len : ∀ j, (pieceLays j).length ≤ 1 := fun j => by unfold pieceLays; split <;> simp
theorem tells_len (j n : Nat) (hn : n ≤ 16) : (pieceTells j n).length ≤ 21 := by
  unfold pieceTells
  have := short_len n hn
  split <;> simp only [List.length_append, List.length_cons, List.length_nil] <;> omega
theorem ws_len : ∀ j, (pieceWs j).length ≤ 3 := fun j => by unfold pieceWs; split <;> simp
theorem txt_len : ∀ j, (pieceTxt j).length ≤ 10 := fun j => by unfold pieceTxt; split <;> simp
theorem steps_len : ∀ j, pieceSteps j ≤ 6 := fun j => by
  unfold pieceSteps
  split
  · omega
  · omega
  · have := ws_len j; omega
theorem part_runs : ∀ (js : List Nat) (f p st : Nat) (S : List Int) (out : Txt) (ws t : List Txt), (∀ j ∈ js, j < 11) → ws.drop p = partWs js ++ t → S.length + js.length ≤ 13 → out.length + 21 * js.length ≤ 300 → st + 6 * js.length ≤ 1000 →
    ∃ st', runs (f + (partWs js).length) ⟨laidAll 3, S, [], out, st⟩ ws p = runs f ⟨laidAll 3, partLays js S, [], out ++ partTells js S, st'⟩ ws (p + (partWs js).length)
  | [], f, p, st, S, out, ws, t, _, _, _, _, _ => ⟨st, by simp [partWs, partLays, partTells]⟩
  | j :: js, f, p, st, S, out, ws, t, hj, hd, hS, ho, hs => by
    have e : partWs (j :: js) = pieceWs j ++ partWs js := rfl
    rw [e, List.append_assoc] at hd
    rw [e, List.length_append]
    simp only [List.length_cons] at hS ho hs
    have h1 := piece_runs j (hj j (by simp)) (f + (partWs js).length) p st S out ws _ hd (by omega) (by omega) (by omega)
    have hl := lays_len j
    have ht := tells_len j S.length (by omega)
    have hst := steps_len j
    have hd2 : ws.drop (p + (pieceWs j).length) = partWs js ++ t := by
      rw [← List.drop_drop, hd, List.drop_left]
    obtain ⟨st', h2⟩ := part_runs js f (p + (pieceWs j).length) (st + pieceSteps j) (S ++ pieceLays j) (out ++ pieceTells j S.length) ws t (fun x hx => hj x (by simp [hx])) hd2 (by simp only [List.length_append]; omega) (by simp only [List.length_append]; omega) (by omega)
    refine ⟨st', ?_⟩
    rw [show f + ((pieceWs j).length + (partWs js).length) = f + (partWs js).length + (pieceWs j).length by omega, h1, h2]
    simp only [partLays, partTells, List.append_assoc, Nat.add_assoc]

/-- The pieces as one line. -/
theorem part_line (js : List Nat) (hj : ∀ j ∈ js, j < 11) (hn : js.length ≤ 8) (o : Txt) (t : Nat) : ∃ st, doLine ⟨laidAll 3, [], [], o, t⟩ (partTxt js) = (⟨laidAll 3, partLays js [], [], partTells js [], st⟩, partTells js [], 0, 0) := by
  have hlen : ∀ js : List Nat, (partTxt js).length ≤ 11 * js.length := by
    intro js
    induction js with
    | nil => exact Nat.le_refl _
    | cons j js ih =>
      have := txt_len j
      simp only [partTxt, List.length_append, List.length_cons]
      omega
  have h1 := hlen js
  obtain ⟨st, h⟩ := part_runs js 1 0 0 [] [] (partWs js) [] hj (by simp) (by simp; omega) (by simp; omega) (by omega)
  refine ⟨st, ?_⟩
  rw [doLine_eq _ _ _ (by omega) (part_split js hj)]
  rw [Nat.add_comm] at h
  show ((runs ((partWs js).length + 1) ⟨laidAll 3, [], [], [], 0⟩ _ 0).1, (runs ((partWs js).length + 1) ⟨laidAll 3, [], [], [], 0⟩ _ 0).1.out, (runs ((partWs js).length + 1) ⟨laidAll 3, [], [], [], 0⟩ _ 0).2) = _
  rw [h, runs_end (f := 0) (List.getElem?_eq_none (by omega))]
  rfl
/-- One of them as a line of its own, a line feed ahead. -/
theorem piece_line (j : Nat) (hj : j < 11) (S : List Int) (hS : S.length ≤ 13) (o : Txt) (t : Nat) : ∃ st, doLine ⟨laidAll 3, S, [], o, t⟩ (10 :: pieceTxt j) = (⟨laidAll 3, S ++ pieceLays j, [], pieceTells j S.length, st⟩, pieceTells j S.length, 0, 0) := by
  have h1 := txt_len j
  refine ⟨0 + pieceSteps j, ?_⟩
  have h := piece_runs j hj 1 0 0 S [] (pieceWs j) [] (by simp) hS (by simp) (by omega)
  rw [doLine_eq _ _ _ (by simp only [List.length_cons]; omega) ((split_lead 10 (by decide) _).trans (piece_split j hj))]
  rw [Nat.add_comm] at h
  show ((runs ((pieceWs j).length + 1) ⟨laidAll 3, S, [], [], 0⟩ _ 0).1, (runs ((pieceWs j).length + 1) ⟨laidAll 3, S, [], [], 0⟩ _ 0).1.out, (runs ((pieceWs j).length + 1) ⟨laidAll 3, S, [], [], 0⟩ _ 0).2) = _
  rw [h, runs_end (f := 0) (List.getElem?_eq_none (by omega))]
  rfl
end N
end Go.Proofs.YtgnlokmeohffaaaDoor
/- Apart answers true, whatever the numbers: the walk. -/
namespace Go.Proofs.YtgnlokmeohffaaaDoor
open Go.RowKit

namespace N
theorem part_snoc : ∀ (js : List Nat) (j : Nat) (S : List Int), partLays (js ++ [j]) S = partLays js S ++ pieceLays j ∧ partTells (js ++ [j]) S = partTells js S ++ pieceTells j (partLays js S).length ∧ partTxt (js ++ [j]) = partTxt js ++ (pieceTxt j ++ [32])
  | [], j, S => by simp [partLays, partTells, partTxt]
  | i :: js, j, S => by
    obtain ⟨h1, h2, h3⟩ := part_snoc js j (S ++ pieceLays i)
    simp [partLays, partTells, partTxt, h1, h2, h3]
theorem partLays_len : ∀ (js : List Nat) (S : List Int), (partLays js S).length ≤ S.length + js.length
  | [], S => Nat.le_refl _
  | j :: js, S => by
    have h1 := partLays_len js (S ++ pieceLays j)
    have h2 := lays_len j
    simp only [partLays, List.length_cons, List.length_append] at h1 ⊢
    omega
theorem partTells_len : ∀ (js : List Nat) (S : List Int), S.length + js.length ≤ 16 → (partTells js S).length ≤ 21 * js.length
  | [], _, _ => Nat.zero_le _
  | j :: js, S, h => by
    simp only [List.length_cons] at h
    have h0 := lays_len j
    have h1 := partTells_len js (S ++ pieceLays j) (by simp only [List.length_append]; omega)
    have h2 := tells_len j S.length (by omega)
    simp only [partTells, List.length_append, List.length_cons]
    omega
theorem partTxt_len : ∀ js : List Nat, (partTxt js).length ≤ 11 * js.length
  | [] => Nat.zero_le _
  | j :: js => by
    have h1 := partTxt_len js
    have h2 := txt_len j
    simp only [partTxt, List.length_append, List.length_cons]
    omega
end N
/-- The eleven texts, as they stand in the law. -/
def rawPiece : Nat → ByteArray
  | 0 => ⟨#[49]⟩
  | 1 => ⟨#[50]⟩
  | 2 => ⟨#[97]⟩
  | 3 => ⟨#[98]⟩
  | 4 => ⟨#[107, 32, 46]⟩
  | 5 => ⟨#[118, 32, 64, 32, 46]⟩
  | 6 => ⟨#[100, 101, 112, 116, 104, 32, 46]⟩
  | 7 => ⟨#[51, 32, 118, 32, 33]⟩
  | 8 => ⟨#[52, 32, 46]⟩
  | 9 => ⟨#[100, 117, 112, 32, 100, 114, 111, 112]⟩
  | _ => ⟨#[99, 114]⟩
theorem laid_hold {n : Int} {S R : List Int} {o : N.Txt} {t : Nat} : (⟨N.laidAll n, S, R, o, t⟩ : N.Mach).all.length + 1000 ≤ 1000000000000 := by
  show 4 + 1000 ≤ 1000000000000
  omega
theorem bytes_app (a b : ByteArray) : (a ++ b).data.toList = a.data.toList ++ b.data.toList := by simp
theorem raw_piece : ∀ j, j < 11 → j ≠ 9 → (rawPiece j).data.toList = N.pieceTxt j := by decide
theorem raw_not (j : Nat) (h : j < 11) (h9 : j ≠ 9) : ((rawPiece j).toList == [100, 117, 112, 32, 100, 114, 111, 112]) = false := by
  have key : ∀ j, j < 11 → j ≠ 9 → ((rawPiece j).data.toList == [100, 117, 112, 32, 100, 114, 111, 112]) = false := by decide
  rw [Go.ByteArray.toList_eq]
  exact key j h h9
theorem raw_nine : ((rawPiece 9).toList == [100, 117, 112, 32, 100, 114, 111, 112]) = true := by
  rw [Go.ByteArray.toList_eq]
  rfl
theorem raw_size : ∀ j, j < 11 → (rawPiece j).size ≤ 8 := by decide

set_option maxRecDepth 100000 in
set_option maxHeartbeats 1200000 in
theorem apart_walk (a0 : Option Addr) (l0 c0 : Nat) (z0 : List Int) (w : World) (hi : Ints w a0 l0 z0) (htab : TabOk w) :
    Calls Tryd.prog 5 #[.slice a0 l0 c0] w fun r w' => r = .returned (.bool true) ∧ Below w.heap.size w w' := by
  have Htab := hide htab
  have HI := hide hi
  have hl0 := hi.2.1
  clear htab hi
  go_enter Tryd.func5, Tryd.ntmps5
  go_wp2_with fail
  refine (laid_any w (unhide Htab)).mono ?_
  rintro e w1 ⟨mb, rfl, h1, hb1⟩
  have H1 := hide (And.intro h1 hb1)
  clear h1 hb1
  go_wp2_with fail
  refine (laid_any w1 (unhide H1).1.tab).mono ?_
  rintro e w2 ⟨nb, rfl, h2, hb2⟩
  have H2 := hide (And.intro ((unhide H1).1.join hb2 h2).swap ((unhide H1).2.trans (hb2.mono (unhide H1).2.size)))
  clear h2 hb2
  go_wp2_with fail
  go_loopw [5, 6, 7, 8] (fun s o f i wr => ∃ (js : List Nat) (X Y : ByteArray) (n : N.Mach), js.length ≤ 8 ∧ js.length ≤ l0 ∧ (∀ j ∈ js, j < 11) ∧ s = .string X ∧ o = .string Y ∧ f = .bool true ∧ i = .int .i64 (js.length : Int) ∧ X.data.toList = N.partTxt js ∧ Y.data.toList = N.partTells js [] ∧
      Duo w.heap.size wr nb mb ⟨N.laidAll 3, N.partLays js [], [], n.out, n.steps⟩ laidM ∧ Below w.heap.size w wr) (fun _ _ _ i _ => match i with | .int _ k => (l0 + 8 - k).toNat | _ => 0)
  case atStart => exact ⟨[], ⟨#[]⟩, ⟨#[]⟩, laidM, Nat.zero_le _, Nat.zero_le _, by simp, rfl, rfl, rfl, rfl, rfl, rfl, (unhide H2).1, (unhide H2).2⟩
  case round =>
    obtain ⟨js, X, Y, n, hj8, hjl, hj, rfl, rfl, rfl, rfl, hX, hY, hD, hB⟩ := hrel
    have hlays := N.partLays_len js []
    have htells := N.partTells_len js [] (by simp; omega)
    have htxt := N.partTxt_len js
    simp only [List.length_nil, Nat.zero_add] at hlays
    have sX : X.size ≤ 100 := by rw [Lib.size_eq, hX]; omega
    have sY : Y.size ≤ 200 := by rw [Lib.size_eq, hY]; omega
    have HX := hide (And.intro hX (And.intro hY (And.intro hD hB)))
    have HL := hide (And.intro hlays hj)
    clear hX hY hD hB hlays htells htxt hj
    by_cases hlt : js.length < l0
    · by_cases h8 : js.length < 8
      · have c1 : (js.length : Int) < (l0 : Int) := by omega
        have c2 : (js.length : Int) < 8 := by omega
        have c3 : (0 : Int) ≤ (js.length : Int) := by omega
        have c4 : IntKind.i64.wrap ((js.length : Int) + 1) = (js.length : Int) + 1 := by rw [IntKind.wrap_i64]; omega
        obtain ⟨b, rfl, hbl, hcell⟩ := ((unhide HI).below (unhide HX).2.2.2).2.2.1 js.length hlt
        have hin : inI64 (z0.getD js.length 0) := by
          have := (unhide HI).2.2.2 (z0.getD js.length 0)
          refine this ?_
          rw [List.getD_eq_getElem?_getD, List.getElem?_eq_getElem (by rw [(unhide HI).1]; exact hlt)]
          exact List.getElem_mem _
        generalize z0.getD js.length 0 = z at *
        have HZ := hide hin
        clear hin
        have hbA : Below wr.heap.size wr (wr.alloc (Obj.cells #[Value.string ⟨#[49]⟩, Value.string ⟨#[50]⟩, Value.string ⟨#[97]⟩, Value.string ⟨#[98]⟩, Value.string ⟨#[107, 32, 46]⟩, Value.string ⟨#[118, 32, 64, 32, 46]⟩, Value.string ⟨#[100, 101, 112, 116, 104, 32, 46]⟩, Value.string ⟨#[51, 32, 118, 32, 33]⟩, Value.string ⟨#[52, 32, 46]⟩, Value.string ⟨#[100, 117, 112, 32, 100, 114, 111, 112]⟩, Value.string ⟨#[99, 114]⟩] 9)) := (Below.refl _ _).alloc (Nat.le_refl _) _
        have hcell2 : (wr.alloc (Obj.cells #[Value.string ⟨#[49]⟩, Value.string ⟨#[50]⟩, Value.string ⟨#[97]⟩, Value.string ⟨#[98]⟩, Value.string ⟨#[107, 32, 46]⟩, Value.string ⟨#[118, 32, 64, 32, 46]⟩, Value.string ⟨#[100, 101, 112, 116, 104, 32, 46]⟩, Value.string ⟨#[51, 32, 118, 32, 33]⟩, Value.string ⟨#[52, 32, 46]⟩, Value.string ⟨#[100, 117, 112, 32, 100, 114, 111, 112]⟩, Value.string ⟨#[99, 114]⟩] 9)).cell? (b.add js.length) = some (.int .i64 z) := (hbA.cell (by rw [Go.ChangeShapes.block_add]; exact hbl)).trans hcell
        have hblk := heap_alloc_new wr (Obj.cells #[Value.string ⟨#[49]⟩, Value.string ⟨#[50]⟩, Value.string ⟨#[97]⟩, Value.string ⟨#[98]⟩, Value.string ⟨#[107, 32, 46]⟩, Value.string ⟨#[118, 32, 64, 32, 46]⟩, Value.string ⟨#[100, 101, 112, 116, 104, 32, 46]⟩, Value.string ⟨#[51, 32, 118, 32, 33]⟩, Value.string ⟨#[52, 32, 46]⟩, Value.string ⟨#[100, 117, 112, 32, 100, 114, 111, 112]⟩, Value.string ⟨#[99, 114]⟩] 9)
        have HA := hide (And.intro hbA hblk)
        clear hbA hblk hcell hbl
        go_wp2_with fail
        refine (pick_any z 11 _ (unhide HZ).1 (unhide HZ).2 (by omega) (by omega)).mono ?_
        rintro e w1x ⟨rfl, hwx⟩
        subst w1x
        obtain ⟨j, hj, hj11⟩ : ∃ j : Nat, (if z < 0 then -(z + 1) else z) % 11 = (j : Int) ∧ j < 11 := ⟨((if z < 0 then -(z + 1) else z) % 11).toNat, by omega, by omega⟩
        rw [hj]
        clear hj hcell2
        have j0 : (0 : Int) ≤ (j : Int) := by omega
        have j1 : (j : Int) < 11 := by omega
        have hcj : (wr.alloc (Obj.cells #[Value.string ⟨#[49]⟩, Value.string ⟨#[50]⟩, Value.string ⟨#[97]⟩, Value.string ⟨#[98]⟩, Value.string ⟨#[107, 32, 46]⟩, Value.string ⟨#[118, 32, 64, 32, 46]⟩, Value.string ⟨#[100, 101, 112, 116, 104, 32, 46]⟩, Value.string ⟨#[51, 32, 118, 32, 33]⟩, Value.string ⟨#[52, 32, 46]⟩, Value.string ⟨#[100, 117, 112, 32, 100, 114, 111, 112]⟩, Value.string ⟨#[99, 114]⟩] 9)).cell? ⟨wr.heap.size, j, none⟩ = some (.string (rawPiece j)) := by
          refine cell_of_block (unhide HA).2 ?_
          have : ∀ j, j < 11 → (#[Value.string ⟨#[49]⟩, Value.string ⟨#[50]⟩, Value.string ⟨#[97]⟩, Value.string ⟨#[98]⟩, Value.string ⟨#[107, 32, 46]⟩, Value.string ⟨#[118, 32, 64, 32, 46]⟩, Value.string ⟨#[100, 101, 112, 116, 104, 32, 46]⟩, Value.string ⟨#[51, 32, 118, 32, 33]⟩, Value.string ⟨#[52, 32, 46]⟩, Value.string ⟨#[100, 117, 112, 32, 100, 114, 111, 112]⟩, Value.string ⟨#[99, 114]⟩] : Array Value)[j]? = some (.string (rawPiece j)) := by
            intro j hj
            have h : j = 0 ∨ j = 1 ∨ j = 2 ∨ j = 3 ∨ j = 4 ∨ j = 5 ∨ j = 6 ∨ j = 7 ∨ j = 8 ∨ j = 9 ∨ j = 10 := by omega
            rcases h with rfl | rfl | rfl | rfl | rfl | rfl | rfl | rfl | rfl | rfl | rfl <;> rfl
          exact this j hj11
        have hd0 := unhide HX
        have hline := N.piece_line j hj11 (N.partLays js []) (by have := (unhide HL).1; omega) n.out n.steps
        obtain ⟨st, hline⟩ := hline
        have hbW := (unhide HA).1
        have hD2 := hd0.2.2.1.below hbW
        have hB2 := hd0.2.2.2.trans (hbW.mono hd0.2.2.1.1)
        generalize (wr.alloc (Obj.cells #[Value.string ⟨#[49]⟩, Value.string ⟨#[50]⟩, Value.string ⟨#[97]⟩, Value.string ⟨#[98]⟩, Value.string ⟨#[107, 32, 46]⟩, Value.string ⟨#[118, 32, 64, 32, 46]⟩, Value.string ⟨#[100, 101, 112, 116, 104, 32, 46]⟩, Value.string ⟨#[51, 32, 118, 32, 33]⟩, Value.string ⟨#[52, 32, 46]⟩, Value.string ⟨#[100, 117, 112, 32, 100, 114, 111, 112]⟩, Value.string ⟨#[99, 114]⟩] 9)) = W at *
        have HW := hide (And.intro hD2 hB2)
        have HLn := hide hline
        clear hd0 hbW hD2 hB2 hline HA
        have hsn := N.part_snoc js j []
        have HSn := hide hsn
        clear hsn
        have hsz := raw_size j hj11
        by_cases h9 : j = 9
        · have hq : ((rawPiece j).toList == [100, 117, 112, 32, 100, 114, 111, 112]) = true := by rw [h9]; exact raw_nine
          have hpc : ((⟨#[48, 32]⟩ ++ rawPiece j : ByteArray)).data.toList = N.pieceTxt j := by rw [h9]; rfl
          generalize rawPiece j = P at *
          have hs2 : (⟨#[48, 32]⟩ ++ P : ByteArray).size ≤ 10 := by simp only [ByteArray.size_append]; have : (⟨#[48, 32]⟩ : ByteArray).size = 2 := rfl; omega
          have HPc := hide hpc
          clear hpc h9
          go_wp2_with fail
          generalize (⟨#[48, 32]⟩ ++ P : ByteArray) = Q at *
          have hD := unhide HW
          have hdo := hD.1.do (⟨#[10]⟩ ++ Q) laid_hold
          have hdat : (⟨#[10]⟩ ++ Q : ByteArray).data.toList = 10 :: N.pieceTxt j := by rw [bytes_app, unhide HPc]; rfl
          rw [hdat, unhide HLn] at hdo
          refine hdo.mono ?_
          rintro e W2 ⟨rfl, hD2, hB2⟩
          have hb0 : Below W2.heap.size W2 (W2.alloc (Obj.cells #[Value.string ⟨(N.pieceTells j (N.partLays js []).length).toArray⟩, Value.int .i64 0, Value.int .i64 0] 34)) := (Below.refl _ _).alloc (Nat.le_refl _) _
          have HD2 := hide (And.intro (hD2.below hb0) ((hD.2.trans hB2).trans (hb0.mono hD2.1)))
          have hT := N.tells_len j (N.partLays js []).length (by have := (unhide HL).1; omega)
          have hts : (⟨(N.pieceTells j (N.partLays js []).length).toArray⟩ : ByteArray).size ≤ 21 := by simpa [ByteArray.size] using hT
          have htd : (⟨(N.pieceTells j (N.partLays js []).length).toArray⟩ : ByteArray).data.toList = N.pieceTells j (N.partLays js []).length := by simp
          clear hD hD2 hB2 hb0 hdat hT
          have hv : ansVal (⟨N.laidAll 3, N.partLays js [] ++ N.pieceLays j, [], N.pieceTells j (N.partLays js []).length, st⟩, N.pieceTells j (N.partLays js []).length, 0, 0) = .agg #[.string ⟨(N.pieceTells j (N.partLays js []).length).toArray⟩, .int .i64 0, .int .i64 0] := rfl
          rw [hv]
          clear hv
          generalize (⟨(N.pieceTells j (N.partLays js []).length).toArray⟩ : ByteArray) = TT at *
          have HTT := hide htd
          clear htd
          go_wp2
          have hx := unhide HX
          have hsn := unhide HSn
          have hd2 := unhide HD2
          refine ⟨⟨js ++ [j], _, _, ⟨[], [], [], N.pieceTells j (N.partLays js []).length, st⟩, by simp; omega, by simp; omega, ?_, rfl, rfl, rfl, by simp, ?_, ?_, ?_, ?_⟩, ?_⟩
          · intro x hxx
            rcases List.mem_append.1 hxx with hxx | hxx
            · exact (unhide HL).2 x hxx
            · have : x = j := by simpa using hxx
              omega
          · rw [hsn.2.2, bytes_app, bytes_app, hx.1, unhide HPc]
            simp
          · rw [hsn.2.1, bytes_app, hx.2.1, unhide HTT]
          · rw [hsn.1]
            exact hd2.1
          · exact hd2.2
          · show ((l0 : Int) + 8 - ((js.length : Int) + 1)).toNat < ((l0 : Int) + 8 - (js.length : Int)).toNat
            omega
        · have hq := raw_not j hj11 h9
          have hpc := raw_piece j hj11 h9
          generalize rawPiece j = P at *
          have HPc := hide hpc
          clear hpc h9
          go_wp2_with fail
          have hD := unhide HW
          have hdo := hD.1.do (⟨#[10]⟩ ++ P) laid_hold
          have hdat : (⟨#[10]⟩ ++ P : ByteArray).data.toList = 10 :: N.pieceTxt j := by rw [bytes_app, unhide HPc]; rfl
          rw [hdat, unhide HLn] at hdo
          refine hdo.mono ?_
          rintro e W2 ⟨rfl, hD2, hB2⟩
          have hb0 : Below W2.heap.size W2 (W2.alloc (Obj.cells #[Value.string ⟨(N.pieceTells j (N.partLays js []).length).toArray⟩, Value.int .i64 0, Value.int .i64 0] 34)) := (Below.refl _ _).alloc (Nat.le_refl _) _
          have HD2 := hide (And.intro (hD2.below hb0) ((hD.2.trans hB2).trans (hb0.mono hD2.1)))
          have hT := N.tells_len j (N.partLays js []).length (by have := (unhide HL).1; omega)
          have hts : (⟨(N.pieceTells j (N.partLays js []).length).toArray⟩ : ByteArray).size ≤ 21 := by simpa [ByteArray.size] using hT
          have htd : (⟨(N.pieceTells j (N.partLays js []).length).toArray⟩ : ByteArray).data.toList = N.pieceTells j (N.partLays js []).length := by simp
          clear hD hD2 hB2 hb0 hdat hT
          have hv : ansVal (⟨N.laidAll 3, N.partLays js [] ++ N.pieceLays j, [], N.pieceTells j (N.partLays js []).length, st⟩, N.pieceTells j (N.partLays js []).length, 0, 0) = .agg #[.string ⟨(N.pieceTells j (N.partLays js []).length).toArray⟩, .int .i64 0, .int .i64 0] := rfl
          rw [hv]
          clear hv
          generalize (⟨(N.pieceTells j (N.partLays js []).length).toArray⟩ : ByteArray) = TT at *
          have HTT := hide htd
          clear htd
          go_wp2
          have hx := unhide HX
          have hsn := unhide HSn
          have hd2 := unhide HD2
          refine ⟨⟨js ++ [j], _, _, ⟨[], [], [], N.pieceTells j (N.partLays js []).length, st⟩, by simp; omega, by simp; omega, ?_, rfl, rfl, rfl, by simp, ?_, ?_, ?_, ?_⟩, ?_⟩
          · intro x hxx
            rcases List.mem_append.1 hxx with hxx | hxx
            · exact (unhide HL).2 x hxx
            · have : x = j := by simpa using hxx
              omega
          · rw [hsn.2.2, bytes_app, bytes_app, hx.1, unhide HPc]
            simp
          · rw [hsn.2.1, bytes_app, hx.2.1, unhide HTT]
          · rw [hsn.1]
            exact hd2.1
          · exact hd2.2
          · show ((l0 : Int) + 8 - ((js.length : Int) + 1)).toNat < ((l0 : Int) + 8 - (js.length : Int)).toNat
            omega
      · have c1 : (js.length : Int) < (l0 : Int) := by omega
        have c2 : ¬ (js.length : Int) < 8 := by omega
        have hcond := c2
        clear hcond
        go_wp2_with fail
        have hx := unhide HX
        have hl := unhide HL
        obtain ⟨st, hone⟩ := N.part_line js hl.2 hj8 [] 8
        have hdo := hx.2.2.1.swap.do X laid_hold
        rw [hx.1, show N.doLine laidM (N.partTxt js) = _ from hone] at hdo
        refine hdo.mono ?_
        rintro e W3 ⟨rfl, hD3, hB3⟩
        have hv : ansVal (⟨N.laidAll 3, N.partLays js [], [], N.partTells js [], st⟩, N.partTells js [], 0, 0) = .agg #[.string ⟨(N.partTells js []).toArray⟩, .int .i64 0, .int .i64 0] := rfl
        rw [hv]
        have hY : (⟨(N.partTells js []).toArray⟩ : ByteArray) = Y := by
          apply ByteArray.ext
          apply Array.ext'
          rw [hx.2.1]
        rw [hY]
        have hb0 : Below W3.heap.size W3 (W3.alloc (Obj.cells #[Value.string Y, Value.int .i64 0, Value.int .i64 0] 34)) := (Below.refl _ _).alloc (Nat.le_refl _) _
        have hblk := heap_alloc_new W3 (Obj.cells #[Value.string Y, Value.int .i64 0, Value.int .i64 0] 34)
        have hD4 := hD3.below hb0
        have hB4 := (hx.2.2.2.trans hB3).trans (hb0.mono hD3.1)
        have H4 := hide (And.intro hD4 (And.intro hB4 hblk))
        clear hdo hone hD3 hB3 hb0 hD4 hB4 hblk hv hY hx
        go_wp2_with fail
        generalize (W3.alloc (Obj.cells #[Value.string Y, Value.int .i64 0, Value.int .i64 0] 34)) = W4 at *
        refine (unhide H4).1.left.stack.mono ?_
        rintro e W5 ⟨v1, rfl, ho5, hb5⟩
        have H5 := hide (And.intro ho5 hb5)
        obtain ⟨x1, y1, rfl, _, _⟩ := owns_slice ho5
        clear ho5 hb5
        go_wp2_with fail
        refine ((unhide H4).1.below (unhide H5).2).swap.left.stack.mono ?_
        rintro e W6 ⟨v2, rfl, ho6, hb6⟩
        have H6 := hide (And.intro ho6 hb6)
        obtain ⟨x2, y2, rfl, _, _⟩ := owns_slice ho6
        clear ho6 hb6
        go_wp2_with fail
        refine (same_ints W6 _ _ _ _ (N.partLays js []) (by have := hl.1; omega) (owns_kept (unhide H5).1 fun k e => (unhide H6).2.block k ((unhide H5).1.lt k e).2) (unhide H6).1).mono ?_
        rintro e W7 ⟨rfl, hb7⟩
        have h46 : Below W4.heap.size W4 W7 := ((unhide H5).2.trans ((unhide H6).2.mono (unhide H5).2.size)).trans (hb7.mono (Nat.le_trans (unhide H5).2.size (unhide H6).2.size))
        have hblk7 := (h46.block _ (heap_lt (unhide H4).2.2)).trans (unhide H4).2.2
        have q0 : W7.cell? ⟨W3.heap.size, 0, none⟩ = some (.string Y) := cell_of_block hblk7 rfl
        have q1 : W7.cell? ⟨W3.heap.size, 1, none⟩ = some (.int .i64 0) := cell_of_block hblk7 rfl
        have H7 := hide h46
        have hYY : (Y.toList == Y.toList) = true := by simp
        clear hb7 h46 hblk7
        go_wp2
        go_ret
        exact ⟨rfl, (unhide H4).2.1.trans ((unhide H7).mono (unhide H4).1.1)⟩
    · have c1 : ¬ (js.length : Int) < (l0 : Int) := by omega
      have hcond := c1
      clear hcond
      go_wp2_with fail
      have hx := unhide HX
      have hl := unhide HL
      obtain ⟨st, hone⟩ := N.part_line js hl.2 hj8 [] 8
      have hdo := hx.2.2.1.swap.do X laid_hold
      rw [hx.1, show N.doLine laidM (N.partTxt js) = _ from hone] at hdo
      refine hdo.mono ?_
      rintro e W3 ⟨rfl, hD3, hB3⟩
      have hv : ansVal (⟨N.laidAll 3, N.partLays js [], [], N.partTells js [], st⟩, N.partTells js [], 0, 0) = .agg #[.string ⟨(N.partTells js []).toArray⟩, .int .i64 0, .int .i64 0] := rfl
      rw [hv]
      have hY : (⟨(N.partTells js []).toArray⟩ : ByteArray) = Y := by
        apply ByteArray.ext
        apply Array.ext'
        rw [hx.2.1]
      rw [hY]
      have hb0 : Below W3.heap.size W3 (W3.alloc (Obj.cells #[Value.string Y, Value.int .i64 0, Value.int .i64 0] 34)) := (Below.refl _ _).alloc (Nat.le_refl _) _
      have hblk := heap_alloc_new W3 (Obj.cells #[Value.string Y, Value.int .i64 0, Value.int .i64 0] 34)
      have hD4 := hD3.below hb0
      have hB4 := (hx.2.2.2.trans hB3).trans (hb0.mono hD3.1)
      have H4 := hide (And.intro hD4 (And.intro hB4 hblk))
      clear hdo hone hD3 hB3 hb0 hD4 hB4 hblk hv hY hx
      go_wp2_with fail
      generalize (W3.alloc (Obj.cells #[Value.string Y, Value.int .i64 0, Value.int .i64 0] 34)) = W4 at *
      refine (unhide H4).1.left.stack.mono ?_
      rintro e W5 ⟨v1, rfl, ho5, hb5⟩
      have H5 := hide (And.intro ho5 hb5)
      obtain ⟨x1, y1, rfl, _, _⟩ := owns_slice ho5
      clear ho5 hb5
      go_wp2_with fail
      refine ((unhide H4).1.below (unhide H5).2).swap.left.stack.mono ?_
      rintro e W6 ⟨v2, rfl, ho6, hb6⟩
      have H6 := hide (And.intro ho6 hb6)
      obtain ⟨x2, y2, rfl, _, _⟩ := owns_slice ho6
      clear ho6 hb6
      go_wp2_with fail
      refine (same_ints W6 _ _ _ _ (N.partLays js []) (by have := hl.1; omega) (owns_kept (unhide H5).1 fun k e => (unhide H6).2.block k ((unhide H5).1.lt k e).2) (unhide H6).1).mono ?_
      rintro e W7 ⟨rfl, hb7⟩
      have h46 : Below W4.heap.size W4 W7 := ((unhide H5).2.trans ((unhide H6).2.mono (unhide H5).2.size)).trans (hb7.mono (Nat.le_trans (unhide H5).2.size (unhide H6).2.size))
      have hblk7 := (h46.block _ (heap_lt (unhide H4).2.2)).trans (unhide H4).2.2
      have q0 : W7.cell? ⟨W3.heap.size, 0, none⟩ = some (.string Y) := cell_of_block hblk7 rfl
      have q1 : W7.cell? ⟨W3.heap.size, 1, none⟩ = some (.int .i64 0) := cell_of_block hblk7 rfl
      have H7 := hide h46
      have hYY : (Y.toList == Y.toList) = true := by simp
      clear hb7 h46 hblk7
      go_wp2
      go_ret
      exact ⟨rfl, (unhide H4).2.1.trans ((unhide H7).mono (unhide H4).1.1)⟩
end Go.Proofs.YtgnlokmeohffaaaDoor
