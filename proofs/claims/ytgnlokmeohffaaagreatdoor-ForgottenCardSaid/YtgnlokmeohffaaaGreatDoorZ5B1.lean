/- Parts of the proof: see the last text. -/
import Derived.Test.YtgnlokmeohffaaaGreatDoorProg
import Derived.WalkKit
import Derived.ChangeSlices
import Derived.Test.YtgnlokmeohffaaaGreatDoorCards
import Derived.Test.YtgnlokmeohffaaaGreatDoorTie
import Derived.ProofKit
import Derived.LaidMore
import Derived.OpenShut
import Derived.Stop.Joined
import Derived.SevenTiedAt
import Derived.LaidSub
import Derived.Lib.LaidTab
import Derived.Lib.ItoaNum
import Derived.WalkSpells
import Derived.WalkLawsBesides
import Derived.Deep.RegionHeld3
import Derived.Deep.DrawnRows
import Derived.Test.YtgnlokmeohffaaaGreatDoorShelf
import Derived.Lib.Builder
import Derived.Lib.AppendStr
import Derived.Laws.Externs
import Derived.OwnWalk
import Derived.Laws.MakeOwn
import Derived.Test.YtgnlokmeohffaaaGreatDoorB13
/- A slice of numbers that came in: what a walk knows of it. -/
namespace Go.Proofs.YtgnlokmeohffaaaGreatDoor
open Go.RowKit Go.ChangeShapes Go.WideShapes

/-- A slice of ints, and its elements. -/
def Ints (W : World) (a : Option Addr) (len : Nat) (zs : List Int) : Prop :=
  zs.length = len ∧ (len : Int) ≤ 9223372036854775807 ∧ (∀ i, i < len → ∃ b, a = some b ∧ b.block < W.heap.size ∧ W.cell? (b.add i) = some (.int .i64 (zs.getD i 0))) ∧ ∀ z ∈ zs, inI64 z

theorem cellsInt : Tryz.prog.cellsOf 3 = 1 := by kernel_rfl
theorem wf_in {a : Int} (h : (Lit.int .i64 a).wf = true) : inI64 a := by
  simp only [Lit.wf, IntKind.min, IntKind.max, IntKind.signed, IntKind.bits, Bool.and_eq_true, decide_eq_true_eq, if_true] at h
  unfold inI64
  omega
theorem ints_of {H : Type} {enc : TypeId × Value → H} {W : World} {base : Nat} {sp : Nat → Bool} {held : Bool} {a : Option Addr} {len cap : Nat} {d : DataW H} {ps : List MemPlace} (h : DataW.Trod enc Tryz.prog W base sp held 26 (.slice a len cap) d ps) : ∃ zs, Ints W a len zs := by
  obtain ⟨fuel, hf⟩ := h
  rcases open_ints Tryz.underlying26 Tryz.underlying3 cellsInt hf with ⟨hcs, hx⟩ | ⟨b, len', cap', zs, hcs, _, hl, hm, hz, hx, hcell, hwz⟩
  · simp [Value.cells] at hcs
    obtain ⟨rfl, rfl, rfl⟩ := hcs
    exact ⟨[], rfl, by omega, fun i hi => by omega, fun z hz => by simp at hz⟩
  · simp [Value.cells] at hcs
    obtain ⟨rfl, rfl, rfl⟩ := hcs
    unfold maxLen at hm
    have hzl : len ≤ zs.length := by rw [hz]; split <;> omega
    refine ⟨zs.take len, by simp; omega, by omega, fun i hi => ⟨b, rfl, ?_, ?_⟩, fun z hz => wf_in (hwz z (List.mem_of_mem_take hz))⟩
    · have hc := hcell i (by omega)
      have := World.block_lt_of_cell? _ _ hc
      rwa [Go.ChangeShapes.block_add] at this
    · rw [hcell i (by omega)]
      simp [List.getD_eq_getElem?_getD, hi]
theorem Ints.below {W W' : World} {a : Option Addr} {len : Nat} {zs : List Int} (h : Ints W a len zs) (hb : Below W.heap.size W W') : Ints W' a len zs := by
  refine ⟨h.1, h.2.1, fun i hi => ?_, h.2.2.2⟩
  obtain ⟨b, hab, hlt, hc⟩ := h.2.2.1 i hi
  refine ⟨b, hab, Nat.lt_of_lt_of_le hlt hb.size, ?_⟩
  rw [hb.cell (by rw [Go.ChangeShapes.block_add]; exact hlt)]
  exact hc
end Go.Proofs.YtgnlokmeohffaaaGreatDoor
/- Forgotten answers true, if the walk does: from the walk to the row and to the card that ties the three tables of the library to their text. (Written by tools/mkframe.py.) -/
namespace Go.Proofs.YtgnlokmeohffaaaGreatDoor
namespace Forgotten
open Go.ChangeShapes Go.WideShapes Go.ChangeAt Go.WideMaps Go.WideElems Go.RowKit

theorem own : ownKnob Tryz.prog.godebug = none := by kernel_rfl
theorem laidOut : laidOutB Tryz.prog = true := by kernel_rfl

/-- What is still to be shown: the walk. -/
def Walk : Prop := ∀ (a0 : Option Addr) (l0 c0 : Nat) (z0 : List Int) (a1 : Option Addr) (l1 c1 : Nat) (z1 : List Int) (W : World), Ints W a0 l0 z0 → Ints W a1 l1 z1 →
    Lib.TabIs Tryz.prog W "internal/strconv.uint64pow10" .u64 Lib.pow10Tab →
    Calls Tryz.prog 7 #[.slice a0 l0 c0, .slice a1 l1 c1] W fun e w' => e = .returned (.bool true) ∧ Below W.heap.size W w'

theorem door_met (os : Os) (args : Array Value) : laidMetH Tryz.prog Rows.forgottenRow.laid ((World.doorLaid Tryz.prog 400 os).forCall (fun _ _ => 0) ⟨#[], args, []⟩).memory :=
  laidMetH_of_parts3 (fuel := 8) (laidMet_of_run' 8 (by kernel_rfl) (by kernel_rfl)) (by kernel_rfl) (by kernel_rfl)

theorem tab_of {W : World} (h : laidMetH Tryz.prog Rows.forgottenRow.laid W) : Lib.TabIs Tryz.prog W "internal/strconv.uint64pow10" .u64 Lib.pow10Tab := by
  rw [MakeChecks.laidMetH_plain _ _ _ (by kernel_rfl)] at h
  have h2 := laidMet.filter (fun x => x.1 == "internal/strconv.uint64pow10") h
  have e : (Rows.forgottenRow.laid.filter fun x => x.1 == "internal/strconv.uint64pow10") = [("internal/strconv.uint64pow10", Lib.tabData .u64 Lib.pow10Tab)] := by kernel_rfl
  rw [e] at h2
  exact Lib.tabIs_of_head (g := 3) (n := 20) (t := 225) (e := 216) (by kernel_rfl) (by kernel_rfl) Tryz.underlying225 Tryz.underlying216 (by kernel_rfl) (by kernel_rfl) h2

set_option maxRecDepth 100000 in
theorem lifted (walk : Walk) (os : Os) (started : os.Started) (H : Type) (enc : TypeId × Value → H) :
    ReturnsInHanded {} Tryz.checked os 7 .any (fun w args => (Rows.forgottenSpec.pre enc Tryz.prog Tryz.f7 [] false w args ∧ laidMetH Tryz.prog Rows.forgottenRow.laid w) ∧ sizedMet enc Tryz.prog Tryz.f7 (OpenSpec.ofChange Rows.forgottenSpec) false w args)
      (Rows.forgottenSpec.post enc Tryz.prog Tryz.f7 false true false false) := by
  refine returnsInHanded_of_change_and (C := Tryz.checked) (X := fun w _ => laidMetH Tryz.prog Rows.forgottenRow.laid w) (fun _ _ _ hh h => h.of_heap hh) own started (by kernel_rfl) Tryz.func7
    (ChangeSpec.witness_shaped (enc := enc) (C := Tryz.checked) (os := os) (X := fun w _ => laidMetH Tryz.prog Rows.forgottenRow.laid w) false (World.doorLaid Tryz.prog 400 os) #[.slice none 0 0, .slice none 0 0] 8 rfl (World.shaped_of_RefB (by kernel_rfl) (by kernel_rfl)) (by kernel_rfl) (by kernel_rfl) (by kernel_rfl) (door_met os _)) ?_
  intro W base args ds gs before hval0 hW _ _ hL _
  have hval : ∀ (j : Nat) t v, Tryz.f7.params[j]? = some t → args[j]? = some v → Value.okWide Tryz.prog W .any base t v := hval0
  have hW' := hW
  obtain ⟨p, q, hA0, hV, rfl, hfz, hnd⟩ := hW
  have hA : DataW.TrodAll enc Tryz.prog W 0 (fun _ => true) true Tryz.f7.params.toList args.toList ds p := hA0
  rw [Tryz.params7] at hA hval
  obtain ⟨v0, v1, d0, d1, p0, p1, rfl, rfl, rfl, h0, h1⟩ := trodAll_two hA
  obtain ⟨rfl, rfl⟩ := trodVars_none hV
  obtain ⟨a0, l0, c0, rfl⟩ := okWide_slice Tryz.underlying26 (hval 0 26 v0 rfl rfl)
  obtain ⟨z0, i0⟩ := ints_of h0
  obtain ⟨a1, l1, c1, rfl⟩ := okWide_slice Tryz.underlying26 (hval 1 26 v1 rfl rfl)
  obtain ⟨z1, i1⟩ := ints_of h1
  have htab := tab_of hL
  clear hA0 hval0
  refine (walk a0 l0 c0 z0 a1 l1 c1 z1 W i0 i1 htab).mono fun e W' ⟨he, bel⟩ => ?_
  subst he
  exact ⟨_, rfl, _, _, _, [], _, [], hW', trodAll_mk1 (shut_bool Tryz.underlying4 _), (trodAll_cons_mk (Below.trod laidOut (by kernel_rfl) (of_decide_eq_true (by kernel_rfl)) h0 bel (fun x hx => hW'.lt x (by simp [hx]))) (trodAll_cons_mk (Below.trod laidOut (by kernel_rfl) (of_decide_eq_true (by kernel_rfl)) h1 bel (fun x hx => hW'.lt x (by simp [hx]))) trodAll_mk0)), rfl, bel.frame _, fun h => by cases h⟩

theorem row_holds (walk : Walk) : Rows.ForgottenSaid :=
  OpenClaim.holds_of_wide 7 Tryz.f7 rfl rfl rfl rfl rfl rfl rfl ⟨rfl, rfl, rfl, rfl, rfl⟩ rfl rfl rfl rfl rfl (by kernel_rfl) Tryz.func7 (by kernel_rfl)
    (of_decide_eq_true (by kernel_rfl)) (by unfold Func.isWrapper; first | (rw [if_pos (by decide +kernel)]; kernel_rfl) | (rw [if_neg (by decide +kernel)]; exact ⟨rfl, rfl⟩))
    (fun os started H enc _ => lifted walk os started H enc)

theorem card_holds (walk : Walk) : Rows.ForgottenCardSaid :=
  Claim7.holds_tied_plain_at .later [] [.data, .data, .data] true Rows.forgottenCard.stood.harness true
    (row_holds walk) (fun _ h => by cases h) (by kernel_rfl) (fun _ h => by cases h) forgotten_row_tie rfl ⟨rfl, rfl⟩ (by kernel_rfl) rfl
    (fun f fn hf hfn => by
      obtain rfl : f = 7 := Option.some.inj ((show Tryz.prog.funcNamed Rows.forgottenRow.func = some 7 by kernel_rfl).symm.trans hf) |>.symm
      obtain rfl : fn = Tryz.f7 := (Option.some.inj (Tryz.func7.symm.trans hfn)).symm
      exact ⟨by kernel_rfl, fun j t ht => by
        rw [Tryz.params7] at ht
        have hm : t ∈ [26, 26] := by simpa using Array.mem_of_getElem? ht
        have hall : ([26, 26].all fun u => !Tryz.prog.wantsStandIn u) = true := by kernel_rfl
        exact (show Tryz.prog.wantsStandIn t = false by simpa using List.all_eq_true.1 hall t hm)⟩)
    (by kernel_rfl)
end Forgotten
end Go.Proofs.YtgnlokmeohffaaaGreatDoor
/- anvilkeep: sameInts, sameTexts: whether two lists hold the same. -/
namespace Go.Proofs.YtgnlokmeohffaaaGreatDoor
open Go.RowKit

theorem take_ne {α : Type} {A B : List α} {k : Nat} (hA : k < A.length) (hB : k < B.length) (h : A[k] ≠ B[k]) : A ≠ B := by
  rintro rfl
  exact h rfl
theorem take_eq {α : Type} {A B : List α} {k : Nat} (hA : k < A.length) (hB : k < B.length) (h : A.take k = B.take k) (he : A[k] = B[k]) : A.take (k + 1) = B.take (k + 1) := by
  rw [List.take_succ_eq_append_getElem hA, List.take_succ_eq_append_getElem hB, h, he]

theorem src_cell {w : World} {b o n c : Nat} {xs : List Value} (h : Src w (.slice (some ⟨b, o, none⟩) n c) xs) : ∀ k (hk : k < xs.length), w.cell? ⟨b, o + k, none⟩ = some xs[k] := by
  rcases h with ⟨h, _⟩ | ⟨b', o', c', h, _, hc⟩
  · cases h
  · injection h with h1 h2 h3
    injection h1 with h1
    injection h1 with h4 h5
    subst h4 h5
    exact fun k hk => hc k _ (List.getElem?_eq_getElem hk)

set_option maxRecDepth 100000 in
set_option maxHeartbeats 1600000 in
/-- sameInts, at lists that are not nil. -/
theorem sameInts_some (b o c b2 o2 c2 : Nat) (A B : List (Int)) (w : World) (hl : A.length ≤ 4294967296) (hAB : A.length = B.length) (hA : ∀ k (hk : k < A.length), w.cell? ⟨b, o + k, none⟩ = some (Value.int .i64 A[k])) (hB : ∀ k (hk : k < B.length), w.cell? ⟨b2, o2 + k, none⟩ = some (Value.int .i64 B[k])) :
    Calls Tryz.prog 21 #[.slice (some ⟨b, o, none⟩) A.length c, .slice (some ⟨b2, o2, none⟩) A.length c2] w fun e w' => e = .returned (.bool (decide (A = B))) ∧ ∃ n, w' = w.drewN n := by
  have HA := hide hA
  have HB := hide hB
  have HL := hide hAB
  clear hA hB hAB
  go_enter Tryz.func21, Tryz.ntmps21
  go_wp2
  go_loopw [5] (fun i wr => ∃ k n : Nat, k ≤ A.length ∧ i = .int .i64 k ∧ A.take k = B.take k ∧ wr = w.drewN n) (fun i _ => A.length - (intOf i).toNat)
  case atStart => exact ⟨0, 0, Nat.zero_le _, rfl, by simp, rfl⟩
  case round =>
    obtain ⟨k, n, hk, rfl, htk, hwr⟩ := hrel
    have Htk := hide htk
    have Hwr := hide hwr
    clear htk
    by_cases hlt : k < A.length
    · have hltB : k < B.length := by rw [← unhide HL]; exact hlt
      have hcA : wr.cell? ⟨b, o + k, none⟩ = some (Value.int .i64 A[k]) := by rw [hwr]; exact unhide HA k hlt
      have hcB : wr.cell? ⟨b2, o2 + k, none⟩ = some (Value.int .i64 B[k]) := by rw [hwr]; exact unhide HB k hltB
      have i0 : (0 : Int) ≤ (k : Int) := by omega
      have i1 : (k : Int) < (A.length : Int) := by omega
      clear hwr
      by_cases he : A[k] = B[k]
      · have hb : ((A[k] : Int) != B[k]) = false := by rw [bne_eq_false_iff_eq]; exact he
        have He := hide he
        clear he
        go_wp2
        go_region_held3 (fun w' => w'.cell? ⟨b, o + k, none⟩ = some (Value.int .i64 A[k]) ∧ w'.cell? ⟨b2, o2 + k, none⟩ = some (Value.int .i64 B[k])) (first | exact ⟨hcA, hcB⟩ | go_keep) (fail)
        go_wp2
        exact ⟨⟨k + 1, n + 1, by omega, by go_num, take_eq hlt hltB (unhide Htk) (unhide He), by rw [unhide Hwr]; rfl⟩, by simp [intOf]; omega⟩
      · have hb : ((A[k] : Int) != B[k]) = true := by rw [bne_iff_ne]; exact he
        have He := hide he
        clear he
        go_wp2
        go_region_held3 (fun w' => w'.cell? ⟨b, o + k, none⟩ = some (Value.int .i64 A[k]) ∧ w'.cell? ⟨b2, o2 + k, none⟩ = some (Value.int .i64 B[k])) (first | exact ⟨hcA, hcB⟩ | go_keep) (fail)
        go_wp2
        go_ret
        exact ⟨ret_bool (decide_eq_false (take_ne hlt hltB (unhide He))).symm, n + 1, by rw [unhide Hwr]; rfl⟩
    · clear hwr
      go_wp2
      go_ret
      refine ⟨ret_bool (decide_eq_true ?_).symm, n, unhide Hwr⟩
      have := unhide Htk
      rwa [List.take_of_length_le (by omega), List.take_of_length_le (by rw [← unhide HL]; omega)] at this

set_option maxRecDepth 100000 in
/-- sameInts, where the lengths are not the same. -/
theorem sameInts_len (a a2 : Option Addr) (n n2 c c2 : Nat) (w : World) (h : ((n : Int) != (n2 : Int)) = true) :
    Calls Tryz.prog 21 #[.slice a n c, .slice a2 n2 c2] w fun e w' => e = .returned (.bool false) ∧ w' = w := by
  go_enter Tryz.func21, Tryz.ntmps21
  go_wp2
  go_ret
  exact ⟨rfl, rfl⟩

set_option maxRecDepth 100000 in
/-- sameInts, at two empty lists. -/
theorem sameInts_nil (a a2 : Option Addr) (c c2 : Nat) (w : World) :
    Calls Tryz.prog 21 #[.slice a 0 c, .slice a2 0 c2] w fun e w' => e = .returned (.bool true) ∧ w' = w := by
  go_enter Tryz.func21, Tryz.ntmps21
  go_wp2
  go_loop [5] (fun i => i = .int .i64 0) (fun _ => 0)
  case atStart => rfl
  case round =>
    obtain rfl := hrel
    go_wp2
    go_ret
    exact ⟨rfl, rfl⟩
end Go.Proofs.YtgnlokmeohffaaaGreatDoor
/- What the laws of anvilkeep call: laid, sameInts at two lists of the same numbers. -/
namespace Go.Proofs.YtgnlokmeohffaaaGreatDoor
open Go.RowKit

/-- An answer lies in none of a machine's blocks. -/
theorem MachN.not_ans {w : World} {mb : Nat} {vO vB vS vR : Value} {wv : List Own} {m : N.Mach} (h : MachN w mb vO vB vS vR wv m) {k : Nat} {c : Array Value} (hc : w.heap[k]? = some (Obj.cells c 36)) : ¬ FootM mb vO vS vR wv k := by
  rintro (rfl | e | e | e | e)
  · exact ne_of_type h.mc hc (by decide) rfl
  · exact own_ne_of_type h.st hc (by decide) e
  · exact own_ne_of_type h.rt hc (by decide) e
  · obtain ⟨j, hj⟩ := e
    obtain ⟨en, he, hen⟩ := h.own.und j k hj
    exact ne_of_type (h.own.ent j en _ he hj hen).2.2 hc (by decide) rfl
  · exact own_ne_of_type h.own.row hc (by decide) e

def laidM : N.Mach := ⟨N.laidAll 3, [], [], [], 8⟩
set_option maxRecDepth 100000 in
theorem laid_any (w : World) (htab : TabOk w) : Calls Tryz.prog 10 #[] w fun r w' => ∃ mb, r = .returned (.pointer (some ⟨mb, 0, none⟩)) ∧ Solo w.heap.size w' mb laidM ∧ Below w.heap.size w w' := by
  have Htab := hide htab
  clear htab
  go_enter Tryz.func10, Tryz.ntmps10
  go_wp2_with fail
  refine (Solo.new (B := w.heap.size) _ (Nat.le_refl _) (unhide Htab)).mono ?_
  rintro e w1 ⟨rfl, hb1, h1⟩
  have HB1 := hide hb1
  have H1 := hide (h1.does (m' := laidM) ⟨N.laidTxt.toArray⟩ ⟨#[]⟩ (by simp [N.new]) N.laid_line)
  clear hb1 h1
  go_wp2_with fail
  refine (unhide H1).mono ?_
  rintro e w2 ⟨rfl, h2, hb2⟩
  have H2 := hide (And.intro h2 hb2)
  clear h2 hb2
  go_wp2
  go_ret
  exact ⟨_, rfl, (unhide H2).1, (unhide HB1).trans (unhide H2).2⟩

/-- A machine that was, and one that is new. -/
theorem Solo.join {B : Nat} {w w' : World} {mb nb : Nat} {m n : N.Mach} (h : Solo B w mb m) (hb : Below w.heap.size w w') (hn : Solo w.heap.size w' nb n) : Duo B w' mb nb m n := by
  obtain ⟨h0, F, h1, hF⟩ := h
  obtain ⟨h2, G, h3, hG⟩ := hn
  exact ⟨Nat.le_trans h0 hb.size, F, G, h1.below hb, h3, fun k hk hg => by have := h1.lt k hk; have := hG k hg; omega, hF, fun k hk => Nat.le_trans h0 (hG k hk)⟩

theorem drewN_below (n : Nat) (w : World) : Below w.heap.size w (w.drewN n) := by
  exact ⟨rfl, rfl, rfl, Nat.le_refl _, fun _ _ => rfl⟩
/-- sameInts, at two lists of the same numbers. -/
theorem same_ints (w : World) (b1 b2 : Nat) (v1 v2 : Value) (S : List Int) (hl : S.length ≤ 4294967296) (h1 : w.ownsRow b1 3 1 v1 S.length (S.map (Value.int .i64))) (h2 : w.ownsRow b2 3 1 v2 S.length (S.map (Value.int .i64))) :
    Calls Tryz.prog 21 #[v1, v2] w fun r w' => r = .returned (.bool true) ∧ Below w.heap.size w w' := by
  by_cases h0 : S.length = 0
  · obtain ⟨a1, c1, rfl, _, _⟩ := owns_slice h1
    obtain ⟨a2, c2, rfl, _, _⟩ := owns_slice h2
    rw [h0]
    refine (sameInts_nil a1 a2 c1 c2 w).mono ?_
    rintro r w' ⟨rfl, hw⟩
    first
      | (obtain ⟨n, rfl⟩ := hw; exact ⟨rfl, drewN_below n w⟩)
      | (subst hw; exact ⟨rfl, Below.refl _ _⟩)
  · obtain ⟨g1, c1, rfl, _, _⟩ := h1.form (by omega)
    obtain ⟨g2, c2, rfl, _, _⟩ := h2.form (by omega)
    have key : ∀ {b g c : Nat}, w.ownsRow b 3 1 (.slice (some ⟨g, 0, none⟩) S.length c) S.length (S.map (Value.int .i64)) → ∀ k (hk : k < S.length), w.cell? ⟨g, 0 + k, none⟩ = some (Value.int .i64 S[k]) := fun h k hk => by
      have := h.cells (g := _) rfl k (.int .i64 S[k]) (by rw [List.getElem?_map, List.getElem?_eq_getElem hk]; rfl)
      rwa [add_lit] at this
    refine (sameInts_some g1 0 c1 g2 0 c2 S S w hl rfl (key h1) (key h2)).mono ?_
    rintro r w' ⟨rfl, n, rfl⟩
    exact ⟨by simp, drewN_below n w⟩
end Go.Proofs.YtgnlokmeohffaaaGreatDoor
/- strings.Builder, as See uses it: WriteString. -/
namespace Go.Proofs.YtgnlokmeohffaaaGreatDoor
open Go.RowKit

theorem builder_size : (Tryz.prog.info? 249).isSome = true := by kernel_rfl

set_option maxRecDepth 100000 in
theorem copy_used (b : Nat) (w : World) (h0 : w.cell? ⟨b, 0, none⟩ = some (.pointer (some ⟨b, 0, none⟩))) :
    Calls Tryz.prog 176 #[.pointer (some ⟨b, 0, none⟩)] w fun e w' => e = .returned (.tuple #[]) ∧ w' = w := by
  obtain ⟨j, hj⟩ := Option.isSome_iff_exists.1 builder_size
  go_enter Tryz.func176, Tryz.ntmps176
  go_wp2
  rw [Lib.run_neq_ptr_same w _ Tryz.underlying247 hj]
  go_wp2
  go_end0
  exact ⟨rfl, rfl⟩

theorem builder_pos : ∀ j, Tryz.prog.info? 249 = some j → 0 < j.size := by
  intro j hj
  have h : (Tryz.prog.info? 249).map (fun j => decide (0 < j.size)) = some true := by kernel_rfl
  rw [hj] at h
  simpa using h
set_option maxRecDepth 100000 in
theorem copy_fresh (b : Nat) (w : World) (h0 : w.cell? ⟨b, 0, none⟩ = some (.pointer none)) (hsh : w.shape? b = some (249, 2)) (hfz : w.frozen? ⟨b, 0, none⟩ = false) :
    Calls Tryz.prog 176 #[.pointer (some ⟨b, 0, none⟩)] w fun e w' => e = .returned (.tuple #[]) ∧ w' = w.setCell ⟨b, 0, none⟩ (.pointer (some ⟨b, 0, none⟩)) := by
  obtain ⟨j, hj⟩ := Option.isSome_iff_exists.1 builder_size
  go_enter Tryz.func176, Tryz.ntmps176
  go_wp2
  rw [Lib.run_to_unsafe w ⟨b, 0, none⟩ Tryz.underlying247 Tryz.underlying254 hj (Nat.ne_of_gt (builder_pos j hj)) hsh (Nat.zero_lt_succ 1)]
  simp only [Result.andThen]
  rw [Oper.upon_value]
  go_wp2
  rw [run_callFunc_extern Tryz.func177 (by kernel_rfl) (by kernel_rfl) (by kernel_rfl) (e := Extern.AbiNoEscape.same) (by kernel_rfl)]
  rw [Lib.run_noEscape]
  simp only [Result.andThen]
  rw [Oper.upon_value]
  go_wp2
  rw [Lib.run_from_unsafe w ⟨b, 0, none⟩ Tryz.underlying254 Tryz.underlying247 hj hsh (by kernel_rfl)]
  simp only [Result.andThen]
  rw [Oper.upon_value]
  go_wp2
  go_end0
  exact ⟨rfl, rfl⟩

theorem copyCheck_any (B b : Nat) (bs : List Value) (w : World) (h : Lib.IsBuilder 249 5 B b bs w) :
    Calls Tryz.prog 176 #[.pointer (some ⟨b, 0, none⟩)] w fun e w' => e = .returned (.tuple #[]) ∧ (Lib.BuilderAt 249 5 B b (.pointer (some ⟨b, 0, none⟩)) bs w' ∧ Below B w w') := by
  rcases h with h | h
  · refine (copy_fresh b w h.cell0 h.shape h.frozen0).mono ?_
    rintro e w' ⟨rfl, rfl⟩
    exact ⟨rfl, h.used _, (Below.refl B w).setCell (p := ⟨b, 0, none⟩) h.1 _⟩
  · refine (copy_used b w h.cell0).mono ?_
    rintro e w' ⟨rfl, rfl⟩
    exact ⟨rfl, h, Below.refl B _⟩

set_option maxHeartbeats 1600000 in
set_option maxRecDepth 100000 in
theorem write_any (B b : Nat) (bs : List Value) (s : ByteArray) (w : World) (h : Lib.IsBuilder 249 5 B b bs w) (hlen : bs.length + s.size ≤ 140737488355328) (hBw : B ≤ w.heap.size) :
    Calls Tryz.prog 174 #[.pointer (some ⟨b, 0, none⟩), .string s] w fun e w' => e = .returned (.tuple #[.int .i64 s.size, .nilIface]) ∧ (Lib.BuilderAt 249 5 B b (.pointer (some ⟨b, 0, none⟩)) (bs ++ Lib.strCells s) w' ∧ Below B w w') := by
  have HH := hide h
  clear h
  obtain ⟨i0, hi, hz0, hz1, hz2⟩ := info_parts (P := Tryz.prog) (e := 5) (z := .int .u8 0) (size := 1) (bytes := 1) (by kernel_rfl)
  go_enter Tryz.func174, Tryz.ntmps174
  go_wp2_with fail
  refine (copyCheck_any B b bs w (unhide HH)).mono ?_
  rintro e w1 ⟨rfl, h1, hb1⟩
  obtain ⟨hB, v, hbk, hown, hne⟩ := h1
  have c0 : w1.cell? ⟨b, 0, none⟩ = some (.pointer (some ⟨b, 0, none⟩)) := by rw [Lib.cell_of_heap hbk]; rfl
  have c1 : w1.cell? ⟨b, 1, none⟩ = some v := by rw [Lib.cell_of_heap hbk]; rfl
  go_wp2_with (at_builtin; refine Lib.wpList_append_own_string _ rfl _ _ 65 9 rfl B 5 i0 Tryz.underlying65 Tryz.underlying9 hi hz0 hz1 hz2 _ _ _ rfl hown s rfl ?c3 ?c4 ?c5 ?_)
  case c3 => unfold maxLen; omega
  case c4 => omega
  case c5 => have := hb1.size; omega
  intro v' w2 hown' hgrow _
  have hlt : b < w1.heap.size := by
    rcases Nat.lt_or_ge b w1.heap.size with h' | h'
    · exact h'
    · simp [Array.getElem?_eq_none h'] at hbk
  have hb2 : w2.heap[b]? = some (.cells #[.pointer (some ⟨b, 0, none⟩), v] 249 (0, 0)) := by
    rw [hgrow.block b hlt (fun e => hne e.symm)]
    exact hbk
  have d0 : w2.cell? ⟨b, 0, none⟩ = some (.pointer (some ⟨b, 0, none⟩)) := by rw [Lib.cell_of_heap hb2]; rfl
  have d1 : w2.cell? ⟨b, 1, none⟩ = some v := by rw [Lib.cell_of_heap hb2]; rfl
  have f1 : w2.frozen? ⟨b, 1, none⟩ = false := Lib.frozen_of_heap hb2 1
  obtain ⟨ao, n', cap, rfl⟩ : ∃ ao n' cap, v' = .slice ao n' cap := by
    rcases hown'.2 with ⟨hv, _⟩ | ⟨g, cap, cur, hv, _⟩
    · exact ⟨_, _, _, hv⟩
    · exact ⟨_, _, _, hv⟩
  go_wp2
  go_ret2
  refine ⟨rfl, ?_, ?_⟩
  · exact Lib.BuilderAt.put (T := 249) (e := 5) hB hb2 (bs' := bs ++ Lib.strCells s) (by simpa [Lib.strCells_length] using hown') (by decide)
  · exact (hb1.grown hgrow (by have := hb1.size; omega) (fun k hk => (hown.lt k hk).1)).setCell (p := ⟨b, 1, none⟩) hB _
end Go.Proofs.YtgnlokmeohffaaaGreatDoor
/- What a word of a body is told as; see, at each kind. -/
namespace Go.Proofs.YtgnlokmeohffaaaGreatDoor
open Go.RowKit
attribute [local go_sem ↓] Go.wp_at_zero Go.wp_at_succ

theorem itoa_any (x : Int) (w : World) (hx : inI64 x) (htab : TabOk w) : Calls Tryz.prog 121 #[.int .i64 x] w fun e w' => e = .returned (.string ⟨(Lib.itoa x).toArray⟩) ∧ Below w.heap.size w w' := by
  refine (Tryz.strconv_Itoa x hx.1 hx.2 _ htab).mono ?_
  rintro e w' ⟨rfl, k, os, hw⟩
  exact ⟨rfl, by rw [hw]; exact Lib.below_grow _ _ (Nat.le_refl _) _ _⟩

set_option maxRecDepth 100000 in
theorem num_string (x : Int) (w : World) (hx : inI64 x) (htab : TabOk w) : Calls Tryz.prog 169 #[.int .i64 x] w fun e w' => e = .returned (.string ⟨(Lib.itoa x).toArray⟩) ∧ Below w.heap.size w w' := by
  have HI := hide (itoa_any x w hx htab)
  clear hx htab
  go_enter Tryz.func169, Tryz.ntmps169
  go_wp2_with fail
  refine (unhide HI).mono ?_
  rintro e w1 ⟨rfl, hb⟩
  have HB := hide hb
  clear hb
  go_wp2
  go_ret
  exact ⟨rfl, unhide HB⟩
set_option maxRecDepth 100000 in
theorem bold_string (s : ByteArray) (w : World) : Calls Tryz.prog 181 #[.string s] w fun e w' => e = .returned (.string s) ∧ w' = w := by
  go_enter Tryz.func181, Tryz.ntmps181
  go_wp2
  go_ret
  exact ⟨rfl, rfl⟩
set_option maxRecDepth 100000 in
theorem prim_string (s : ByteArray) (a b c : Int) (w : World) : Calls Tryz.prog 170 #[.agg #[.string s, .int .i64 a, .int .i64 b, .int .i64 c]] w fun e w' => e = .returned (.string s) ∧ Below w.heap.size w w' := by
  go_enter Tryz.func170, Tryz.ntmps170
  go_wp2
  go_ret
  exact ⟨rfl, (Below.refl _ _).alloc (Nat.le_refl _) _⟩
set_option maxRecDepth 100000 in
theorem common_string (s : ByteArray) (t : Int) (w : World) (ht : inI64 t) (htab : TabOk w) : Calls Tryz.prog 172 #[.agg #[.string s, .int .i64 t]] w fun e w' => e = .returned (.string ⟨(35 :: Lib.itoa t).toArray⟩) ∧ Below w.heap.size w w' := by
  have hb0 : Below w.heap.size w (w.alloc (Obj.cells #[.string s, .int .i64 t] 127)) := (Below.refl _ _).alloc (Nat.le_refl _) _
  have HI := hide (itoa_any t (w.alloc (Obj.cells #[.string s, .int .i64 t] 127)) ht (tabIs_of_block htab (hb0.block _ (tab_lt htab))))
  have hlen := itoa_len' t ht.1 ht.2
  have HB0 := hide hb0
  clear ht htab hb0
  go_enter Tryz.func172, Tryz.ntmps172
  go_wp2_with fail
  refine (unhide HI).mono ?_
  rintro e w1 ⟨rfl, hb⟩
  have hs : (⟨(Lib.itoa t).toArray⟩ : ByteArray).size ≤ 20 := by simpa [ByteArray.size] using hlen
  have hd : (⟨#[35]⟩ ++ ⟨(Lib.itoa t).toArray⟩ : ByteArray) = ⟨(35 :: Lib.itoa t).toArray⟩ := by
    apply ByteArray.ext
    apply Array.ext'
    simp
  generalize (⟨(Lib.itoa t).toArray⟩ : ByteArray) = D at *
  have HB := hide ((unhide HB0).trans (hb.mono (unhide HB0).size))
  have HD := hide hd
  clear hb hlen hd
  go_wp2
  go_ret
  exact ⟨retv (by rw [unhide HD]; rfl), unhide HB⟩

/-- What a word of a body is told as. -/
def strTxt (c : N.Cell) : List UInt8 := if c.kind = 1 then Lib.itoa c.n else if c.kind = 2 then 35 :: Lib.itoa (1000 + c.n) else c.name

theorem head_string {w : World} {o : Own} {nm : List UInt8} {tok : Int} (h : HeadAt w o nm tok) : ∃ T v, ownVal o = .iface T v ∧
    (∀ F : Nat, (method (F + 1) T v "String").run Tryz.prog w = .ok (172, .agg #[.string ⟨nm.toArray⟩, .int .i64 tok]) w) := by
  cases o with
  | defn b =>
    obtain ⟨x, h⟩ := h
    have c0 : w.cell? ⟨b, 0, none⟩ = some (.string ⟨nm.toArray⟩) := cell_of_block h rfl
    have c1 : w.cell? ⟨b, 1, none⟩ = some (.int .i64 tok) := cell_of_block h rfl
    refine ⟨_, _, rfl, fun F => ?_⟩
    rw [show (method (F + 1) 122 (.pointer (some ⟨b, 0, none⟩)) "String").run Tryz.prog w = (do let v ← loadVar 127 ⟨b, 0, none⟩; pure (172, v) : Sem (FuncId × Value)).run Tryz.prog w by kernel_rfl]
    simp [go_sem, c0, c1]
  | vari b =>
    obtain ⟨x, h⟩ := h
    have c0 : w.cell? ⟨b, 0, none⟩ = some (.string ⟨nm.toArray⟩) := cell_of_block h rfl
    have c1 : w.cell? ⟨b, 1, none⟩ = some (.int .i64 tok) := cell_of_block h rfl
    refine ⟨_, _, rfl, fun F => ?_⟩
    rw [show (method (F + 1) 124 (.pointer (some ⟨b, 0, none⟩)) "String").run Tryz.prog w = (do let v ← loadVar 127 ⟨b, 0, none⟩; pure (172, v) : Sem (FuncId × Value)).run Tryz.prog w by kernel_rfl]
    simp [go_sem, c0, c1]
  | cons n t x =>
    obtain ⟨rfl, rfl⟩ := h
    exact ⟨_, _, rfl, fun F => by kernel_rfl⟩
  | mark n t =>
    obtain ⟨rfl, rfl⟩ := h
    exact ⟨_, _, rfl, fun F => by kernel_rfl⟩
end Go.Proofs.YtgnlokmeohffaaaGreatDoor
/- See: what the document's machine tells of a word. -/
namespace Go.Proofs.YtgnlokmeohffaaaGreatDoor
open Go.RowKit
attribute [local go_sem ↓] Go.wp_at_zero Go.wp_at_succ

theorem prim_len : ∀ p ∈ L.primTab ++ L.reachTab, p.name.length ≤ 8 := by decide +kernel
theorem find_len {s : List UInt8} {p : L.Prim} (h : L.find s = some p) : p.name = s ∧ s.length ≤ 8 := by
  have h1 := List.find?_some h
  have h2 := List.mem_of_find?_eq_some h
  have e : s = p.name := by simpa using h1
  exact ⟨e.symm, by rw [e]; exact prim_len p h2⟩
theorem inner_len {s : List UInt8} (h : N.inner s = true) : s.length ≤ 8 := by
  obtain ⟨b, hb, he⟩ := List.any_eq_true.1 h
  have e : s = b := by simpa using he
  have key : ∀ b ∈ [N.wRecurse, N.wIf, N.wElse, N.wThen, N.wBegin, N.wUntil, N.wAgain, N.wWhile, N.wRepeat, N.wDo, N.wLoop, N.wI, N.wLeave, N.wExit], b.length ≤ 8 := by decide +kernel
  rw [e]
  exact key b hb

/-- A word of a body can be told. -/
def StrOk (w : World) (v : Value) (s : List UInt8) : Prop := s.length ≤ 30 ∧ ∃ T x, v = .iface T x ∧ ∃ f recv, (∀ args W, (callFunc f args).run Tryz.prog W = .ok (.enter f args) W) ∧ (∀ W, Below w.heap.size w W → ∀ F : Nat, (method (F + 1) T x "String").run Tryz.prog W = .ok (f, recv) W) ∧
  ∀ W, Below w.heap.size w W → Calls Tryz.prog f #[recv] W fun e W' => e = .returned (.string ⟨s.toArray⟩) ∧ Below W.heap.size W W'

set_option maxRecDepth 100000 in
theorem cell_str {w : World} {all : List N.Ent} {wv : List Own} {vO vB : Value} (h : OwnAt w all wv vO vB) (htab : TabOk w) (j : Nat) (c : N.Cell) (g : Nat) (hc : cellOk all j c) (hj : j < all.length) : StrOk w (cellVal wv (c, g)) (strTxt c) := by
  have tabW : ∀ W, Below w.heap.size w W → TabOk W := fun W hb => tabIs_of_block htab (hb.block _ (tab_lt htab))
  have hold := h.old
  rcases hc with ⟨hk, hn⟩ | ⟨hk, k, e, hn, hkj, he, hen⟩ | ⟨hk, hf⟩ | ⟨hk, hi⟩
  · have e1 : cellVal wv (c, g) = .iface 117 (.int .i64 c.n) := if_pos hk
    have e2 : strTxt c = Lib.itoa c.n := if_pos hk
    rw [e1, e2]
    have hl := itoa_len' c.n hn.1 hn.2
    exact ⟨by omega, _, _, rfl, 169, .int .i64 c.n, enters_of Tryz.func169 (by kernel_rfl) rfl, fun W _ F => by kernel_rfl, fun W hb => num_string c.n W hn (tabW W hb)⟩
  · obtain ⟨o, ho⟩ : ∃ o, wv[k]? = some o := ⟨_, List.getElem?_eq_getElem (by rw [h.len]; omega)⟩
    have e1 : cellVal wv (c, g) = ownVal o := by
      show (if c.kind = 1 then _ else if c.kind = 2 then ((wv[c.n.toNat]?).map ownVal).getD .nilIface else _) = _
      rw [if_neg (by omega), if_pos hk, hn]
      simp [ho]
    have e2 : strTxt c = 35 :: Lib.itoa (1000 + (k : Int)) := by
      unfold strTxt
      rw [if_neg (by omega), if_pos hk, hn]
    rw [e1, e2]
    have hin : inI64 (1000 + (k : Int)) := ⟨by omega, by omega⟩
    have hl := itoa_len' _ hin.1 hin.2
    obtain ⟨T, x, hv, _⟩ := head_string ((h.ent k e o he ho hen).head)
    refine ⟨by simp only [List.length_cons]; omega, T, x, hv, 172, .agg #[.string ⟨e.name.toArray⟩, .int .i64 (1000 + (k : Int))], enters_of Tryz.func172 (by kernel_rfl) rfl, fun W hb => ?_, fun W hb => common_string _ _ W hin (tabW W hb)⟩
    obtain ⟨T2, x2, hv2, hm⟩ := head_string (((h.below hb).ent k e o he ho hen).head)
    have e3 : Value.iface T x = Value.iface T2 x2 := hv.symm.trans hv2
    clear hv hv2
    injection e3 with e3 e4
    rw [e3, e4]
    exact hm
  · obtain ⟨p, hp⟩ := Option.isSome_iff_exists.1 hf
    obtain ⟨hnm, hl⟩ := find_len hp
    have e1 : cellVal wv (c, g) = .iface 120 (primVal p) := by
      show (if c.kind = 1 then _ else if c.kind = 2 then _ else if c.kind = 3 then ((L.find c.name).map fun p => Value.iface 120 (primVal p)).getD .nilIface else _) = _
      rw [if_neg (by omega), if_neg (by omega), if_pos hk, hp]
      rfl
    have e2 : strTxt c = p.name := by
      unfold strTxt
      rw [if_neg (by omega), if_neg (by omega), hnm]
    rw [e1, e2]
    exact ⟨by rw [hnm]; omega, _, _, rfl, 170, primVal p, enters_of Tryz.func170 (by kernel_rfl) rfl, fun W _ F => by kernel_rfl, fun W _ => prim_string _ _ _ _ W⟩
  · have hl := inner_len hi
    have e1 : cellVal wv (c, g) = .iface 196 (.agg #[.string ⟨c.name.toArray⟩, .int .i64 g]) := by
      show (if c.kind = 1 then _ else if c.kind = 2 then _ else if c.kind = 3 then _ else Value.iface 196 (.agg #[.string ⟨c.name.toArray⟩, .int .i64 g])) = _
      rw [if_neg (by omega), if_neg (by omega), if_neg (by omega)]
    have e2 : strTxt c = c.name := by
      unfold strTxt
      rw [if_neg (by omega), if_neg (by omega)]
    rw [e1, e2]
    refine ⟨by omega, _, _, rfl, 181, .string ⟨c.name.toArray⟩, enters_of Tryz.func181 (by kernel_rfl) rfl, fun W _ F => by kernel_rfl, fun W _ => (bold_string _ W).mono ?_⟩
    rintro e W' ⟨rfl, rfl⟩
    exact ⟨rfl, Below.refl _ _⟩

/-- The text of a body. -/
def bodyTxt (ss : List (List UInt8)) : List UInt8 := 58 :: (ss.map fun s => 32 :: s).flatten
theorem bodyTxt_step (ss : List (List UInt8)) (k : Nat) (s : List UInt8) (h : ss[k]? = some s) : bodyTxt (ss.take (k + 1)) = bodyTxt (ss.take k) ++ 32 :: s := by
  have hk := (List.getElem?_eq_some_iff.1 h).1
  rw [List.getElem?_eq_getElem hk] at h
  injection h with h
  unfold bodyTxt
  rw [List.take_succ_eq_append_getElem hk, h]
  simp
theorem bodyTxt_len (ss : List (List UInt8)) (h : ∀ s ∈ ss, s.length ≤ 30) : (bodyTxt ss).length ≤ 1 + 31 * ss.length := by
  unfold bodyTxt
  induction ss with
  | nil => simp
  | cons s ss ih =>
    have h1 := ih fun x hx => h x (by simp [hx])
    have h2 := h s (by simp)
    simp only [List.map_cons, List.flatten_cons, List.length_cons, List.length_append] at h1 ⊢
    omega

set_option maxRecDepth 100000 in
set_option maxHeartbeats 1600000 in
theorem see_def (w : World) (b : Nat) (nm : ByteArray) (tok : Int) (aB : Option Addr) (cB : Nat) (vs : List Value) (ss : List (List UInt8)) (hb : w.heap[b]? = some (.cells #[.string nm, .int .i64 tok, .slice aB vs.length cB] 180)) (hn : vs.length ≤ 60) (hl : vs.length = ss.length)
    (hcells : ∀ (k : Nat) (v : Value), vs[k]? = some v → ∃ g, aB = some ⟨g, 0, none⟩ ∧ w.cell? ⟨g, k, none⟩ = some v) (hstr : ∀ (k : Nat) (v : Value) (s : List UInt8), vs[k]? = some v → ss[k]? = some s → StrOk w v s) :
    Calls Tryz.prog 173 #[.pointer (some ⟨b, 0, none⟩)] w fun e w' => e = .returned (.string ⟨(bodyTxt ss).toArray⟩) ∧ Below w.heap.size w w' := by
  have c2 : w.cell? ⟨b, 2, none⟩ = some (.slice aB vs.length cB) := cell_of_block hb rfl
  have hlt := heap_lt hb
  have HC := hide hcells
  have HS := hide hstr
  have hall : ∀ s ∈ ss, s.length ≤ 30 := by
    intro s hs
    obtain ⟨k, hk⟩ := List.getElem?_of_mem hs
    obtain ⟨v, hv⟩ : ∃ v, vs[k]? = some v := ⟨_, List.getElem?_eq_getElem (by rw [hl]; exact (List.getElem?_eq_some_iff.1 hk).1)⟩
    exact (hstr k v s hv hk).1
  have HA := hide hall
  clear hcells hstr hb hall
  generalize hn0 : vs.length = n at *
  have HN := hide hn0
  clear hn0
  have fresh := Lib.fresh_isBuilder 249 5 w
  have hb0 : Below w.heap.size w (w.alloc (Obj.cells #[.pointer none, .slice none 0 0] 249)) := (Below.refl _ _).alloc (Nat.le_refl _) _
  have HW := hide (write_any w.heap.size w.heap.size [] ⟨#[58]⟩ _ fresh (by simp [ByteArray.size]) hb0.size)
  have HB0 := hide hb0
  clear fresh hb0
  go_enter Tryz.func173, Tryz.ntmps173
  go_wp2_with fail
  refine (unhide HW).mono ?_
  rintro e w1 ⟨rfl, hB1, hb1⟩
  have hbw := (unhide HB0).trans hb1
  have d2 : w1.cell? ⟨b, 2, none⟩ = some (.slice aB n cB) := ((bcell hbw).1 b 2 hlt).trans c2
  have H1 := hide (And.intro hB1 hbw)
  clear hB1 hb1 hbw HW
  go_wp2
  go_loopw [12] (fun i wr => ∃ k : Nat, k ≤ n ∧ i = .int .i64 (k : Int) ∧ Lib.BuilderAt 249 5 w.heap.size w.heap.size (.pointer (some ⟨w.heap.size, 0, none⟩)) (Lib.byteCells (bodyTxt (ss.take k))) wr ∧ Below w.heap.size w wr) (fun i _ => match i with | .int _ k => n - k.toNat | _ => 0)
  case atStart => exact ⟨0, Nat.zero_le _, rfl, (unhide H1).1, (unhide H1).2⟩
  case round =>
    obtain ⟨k, hk, rfl, hB, hbr⟩ := hrel
    by_cases hkn : k < n
    · have k1 : (k : Int) < (n : Int) := by omega
      have k0 : (0 : Int) ≤ (k : Int) := by omega
      have k2 : IntKind.i64.wrap ((k : Int) + 1) = (k : Int) + 1 := by rw [IntKind.wrap_i64]; omega
      obtain ⟨v, hv⟩ : ∃ v, vs[k]? = some v := ⟨_, List.getElem?_eq_getElem (by rw [unhide HN]; exact hkn)⟩
      obtain ⟨s, hs⟩ : ∃ s, ss[k]? = some s := ⟨_, List.getElem?_eq_getElem (by omega)⟩
      obtain ⟨g, rfl, hc⟩ := unhide HC k v hv
      obtain ⟨hsl, T, x, rfl, f, recv, hent, hm, hcall⟩ := unhide HS k v s hv hs
      have c3 : wr.cell? ⟨g, k, none⟩ = some (.iface T x) := ((bcell hbr).1 g k (block_lt hc)).trans hc
      have hm1 := hm wr hbr
      have hca := hcall wr hbr
      have hst := bodyTxt_step ss k s hs
      have hlen := bodyTxt_len (ss.take k) (fun t ht => unhide HA t (List.mem_of_mem_take ht))
      have hlk : (ss.take k).length ≤ 60 := by simp; omega
      have hsz : (⟨s.toArray⟩ : ByteArray).size ≤ 30 := by simpa [ByteArray.size] using hsl
      have hcat : Lib.strCells (⟨#[32]⟩ ++ ⟨s.toArray⟩) = Lib.byteCells (32 :: s) := by simp [Lib.strCells, Lib.byteCells]
      generalize hS : (⟨s.toArray⟩ : ByteArray) = S at *
      have HR := hide (And.intro hB (And.intro hbr (And.intro hst (And.intro hlen (And.intro hlk hcat)))))
      have HCa := hide hca
      clear hB hbr hst hlen hlk hcat hca hcall hm hc hsl hv hs hS
      go_wp2_with fail
      refine (unhide HCa).mono ?_
      rintro e w2 ⟨rfl, hb2⟩
      have hr := unhide HR
      have hB2 : Lib.BuilderAt 249 5 w.heap.size w.heap.size (.pointer (some ⟨w.heap.size, 0, none⟩)) (Lib.byteCells (bodyTxt (ss.take k))) w2 := by
        obtain ⟨q1, v1, q2, q3, q4⟩ := hr.1
        refine ⟨q1, v1, (hb2.block _ (heap_lt q2)).trans q2, ?_, q4⟩
        exact owns_kept q3 fun k e => hb2.block k (q3.lt k e).2
      have hbw2 := hr.2.1.trans (hb2.mono hr.2.1.size)
      have hw := write_any w.heap.size w.heap.size (Lib.byteCells (bodyTxt (ss.take k))) (⟨#[32]⟩ ++ S) w2 (.inr hB2) (by
        have h1 := hr.2.2.2.1
        have h2 := hr.2.2.2.2.1
        have h3 : (Lib.byteCells (bodyTxt (ss.take k))).length = (bodyTxt (ss.take k)).length := by simp [Lib.byteCells]
        have h4 : (⟨#[32]⟩ ++ S : ByteArray).size = 1 + S.size := by rw [ByteArray.size_append]; rfl
        omega) hbw2.size
      have HW2 := hide (And.intro hw hbw2)
      clear hr hB2 hbw2 hw hb2
      go_wp2_with fail
      refine (unhide HW2).1.mono ?_
      rintro e w3 ⟨rfl, hB3, hb3⟩
      have hr := unhide HR
      rw [hr.2.2.2.2.2, ← show Lib.byteCells (bodyTxt (ss.take k) ++ 32 :: s) = Lib.byteCells (bodyTxt (ss.take k)) ++ Lib.byteCells (32 :: s) by simp [Lib.byteCells], ← hr.2.2.1] at hB3
      have H3 := hide (And.intro hB3 ((unhide HW2).2.trans hb3))
      clear hB3 hb3 hr
      go_wp2
      refine ⟨⟨k + 1, by omega, by simp, (unhide H3).1, (unhide H3).2⟩, ?_⟩
      show n - ((k : Int) + 1).toNat < n - (k : Int).toNat
      omega
    · have k1 : ¬ (k : Int) < (n : Int) := by omega
      have hkk : ss.take k = ss := List.take_of_length_le (by omega)
      rw [hkk] at hB
      have hstr := Tryz.Builder_String w.heap.size w.heap.size (bodyTxt ss) wr (.inr hB) (by unfold bodyTxt; simp)
      have HB := hide (And.intro hstr hbr)
      clear hB hbr hstr hkk
      go_wp2_with fail
      refine (unhide HB).1.mono ?_
      rintro e w2 ⟨rfl, hb2⟩
      have HB2 := hide ((unhide HB).2.trans hb2)
      clear hb2
      go_wp2
      go_ret
      exact ⟨rfl, unhide HB2⟩
end Go.Proofs.YtgnlokmeohffaaaGreatDoor
/- See, at whatever machine. -/
namespace Go.Proofs.YtgnlokmeohffaaaGreatDoor
open Go.RowKit
attribute [local go_sem ↓] Go.wp_at_zero Go.wp_at_succ

theorem lead_bytes (p l : List UInt8) (hp : p.length ≤ 100) (hl : l.length ≤ 20) : (⟨p.toArray⟩ ++ ⟨l.toArray⟩ : ByteArray) = ⟨(p ++ l).toArray⟩ ∧ (⟨l.toArray⟩ : ByteArray).size ≤ 20 ∧ (⟨p.toArray⟩ : ByteArray).size ≤ 100 := by
  refine ⟨?_, by simpa [ByteArray.size] using hl, by simpa [ByteArray.size] using hp⟩
  apply ByteArray.ext
  apply Array.ext'
  simp

set_option maxRecDepth 100000 in
theorem see_var (w : World) (b : Nat) (nm : ByteArray) (tok n : Int) (hb : w.heap[b]? = some (.cells #[.string nm, .int .i64 tok, .int .i64 n] 129)) (hn : inI64 n) (htab : TabOk w) :
    Calls Tryz.prog 178 #[.pointer (some ⟨b, 0, none⟩)] w fun e w' => e = .returned (.string ⟨([118, 97, 114, 105, 97, 98, 108, 101, 32] ++ Lib.itoa n).toArray⟩) ∧ Below w.heap.size w w' := by
  have c2 : w.cell? ⟨b, 2, none⟩ = some (.int .i64 n) := cell_of_block hb rfl
  have HI := hide (itoa_any n w hn htab)
  have hl := itoa_len' n hn.1 hn.2
  clear hb hn htab
  go_enter Tryz.func178, Tryz.ntmps178
  go_wp2_with fail
  refine (unhide HI).mono ?_
  rintro e w1 ⟨rfl, hb⟩
  obtain ⟨hd, hs, _⟩ := lead_bytes [118, 97, 114, 105, 97, 98, 108, 101, 32] (Lib.itoa n) (by decide) hl
  generalize (⟨(Lib.itoa n).toArray⟩ : ByteArray) = D at *
  have HB := hide hb
  have HD := hide hd
  clear hb hl hd
  go_wp2
  go_ret
  exact ⟨retv (congrArg Value.string (unhide HD)), unhide HB⟩
set_option maxRecDepth 100000 in
theorem see_con (w : World) (nm : ByteArray) (tok n : Int) (hn : inI64 n) (htab : TabOk w) :
    Calls Tryz.prog 179 #[.agg #[.string nm, .int .i64 tok, .int .i64 n]] w fun e w' => e = .returned (.string ⟨([99, 111, 110, 115, 116, 97, 110, 116, 32] ++ Lib.itoa n).toArray⟩) ∧ Below w.heap.size w w' := by
  have hb0 : Below w.heap.size w (w.alloc (Obj.cells #[.string nm, .int .i64 tok, .int .i64 n] 130)) := (Below.refl _ _).alloc (Nat.le_refl _) _
  have HI := hide (itoa_any n (w.alloc (Obj.cells #[.string nm, .int .i64 tok, .int .i64 n] 130)) hn (tabIs_of_block htab (hb0.block _ (tab_lt htab))))
  have hl := itoa_len' n hn.1 hn.2
  have HB0 := hide hb0
  clear hn htab hb0
  go_enter Tryz.func179, Tryz.ntmps179
  go_wp2_with fail
  refine (unhide HI).mono ?_
  rintro e w1 ⟨rfl, hb⟩
  obtain ⟨hd, hs, _⟩ := lead_bytes [99, 111, 110, 115, 116, 97, 110, 116, 32] (Lib.itoa n) (by decide) hl
  generalize (⟨(Lib.itoa n).toArray⟩ : ByteArray) = D at *
  have HB := hide ((unhide HB0).trans (hb.mono (unhide HB0).size))
  have HD := hide hd
  clear hb hl hd
  go_wp2
  go_ret
  exact ⟨retv (congrArg Value.string (unhide HD)), unhide HB⟩
set_option maxRecDepth 100000 in
theorem see_mark (w : World) (nm : ByteArray) (tok : Int) :
    Calls Tryz.prog 180 #[.agg #[.string nm, .int .i64 tok]] w fun e w' => e = .returned (.string ⟨#[109, 97, 114, 107, 101, 114]⟩) ∧ Below w.heap.size w w' := by
  go_enter Tryz.func180, Tryz.ntmps180
  go_wp2
  go_ret
  exact ⟨rfl, (Below.refl _ _).alloc (Nat.le_refl _) _⟩

set_option maxRecDepth 100000 in
theorem See_none (w : World) (mb : Nat) (s : ByteArray) (H : Hid (Calls Tryz.prog 30 #[.pointer (some ⟨mb, 0, none⟩), .string s] w fun e w' => e = .returned .nilIface ∧ Below w.heap.size w w')) :
    Calls Tryz.prog 20 #[.pointer (some ⟨mb, 0, none⟩), .string s] w fun e w' => e = .returned (.tuple #[.string ⟨#[]⟩, .int .i64 2]) ∧ Below w.heap.size w w' := by
  go_enter Tryz.func20, Tryz.ntmps20
  go_wp2_with fail
  refine (unhide H).mono ?_
  rintro e w1 ⟨rfl, hb⟩
  have HB := hide hb
  clear hb
  go_wp2
  go_ret2
  exact ⟨rfl, unhide HB⟩
set_option maxRecDepth 100000 in
theorem See_some (w : World) (mb : Nat) (s : ByteArray) (T : TypeId) (v : Value) (f : FuncId) (recv : Value) (txt : ByteArray) (hent : ∀ args W, (callFunc f args).run Tryz.prog W = .ok (.enter f args) W)
    (H : Hid (Calls Tryz.prog 30 #[.pointer (some ⟨mb, 0, none⟩), .string s] w fun e w' => e = .returned (.iface T v) ∧ Below w.heap.size w w'))
    (HM : Hid (∀ W, Below w.heap.size w W → (∀ F : Nat, (method (F + 1) T v "anvil/anvil.see").run Tryz.prog W = .ok (f, recv) W) ∧ Calls Tryz.prog f #[recv] W fun e W' => e = .returned (.string txt) ∧ Below W.heap.size W W')) :
    Calls Tryz.prog 20 #[.pointer (some ⟨mb, 0, none⟩), .string s] w fun e w' => e = .returned (.tuple #[.string txt, .int .i64 0]) ∧ Below w.heap.size w w' := by
  go_enter Tryz.func20, Tryz.ntmps20
  go_wp2_with fail
  refine (unhide H).mono ?_
  rintro e w1 ⟨rfl, hb⟩
  obtain ⟨hm, hc⟩ := unhide HM w1 hb
  have HC := hide (And.intro hc hb)
  clear hb hc
  go_wp2_with fail
  refine (unhide HC).1.mono ?_
  rintro e w2 ⟨rfl, hb2⟩
  have HB := hide ((unhide HC).2.trans (hb2.mono (unhide HC).2.size))
  clear hb2
  go_wp2
  go_ret2
  exact ⟨rfl, unhide HB⟩

theorem cellTxt_str (c : N.Cell) : N.cellTxt c = 32 :: strTxt c := by
  unfold N.cellTxt strTxt
  split
  · rfl
  · split <;> rfl
theorem ent_kind {w : World} {wv : List Own} {j : Nat} {e : N.Ent} {o : Own} (h : EntAt w wv j e o) : (∃ b, o = .defn b ∧ e.kind = 1) ∨ (∃ b, o = .vari b ∧ e.kind = 2) ∨ (∃ a b c, o = .cons a b c ∧ e.kind = 3) ∨ (∃ a b, o = .mark a b ∧ e.kind = 4) := by
  cases o with
  | defn b => exact .inl ⟨b, rfl, h.1⟩
  | vari b => exact .inr (.inl ⟨b, rfl, h.1⟩)
  | cons a b c => exact .inr (.inr (.inl ⟨a, b, c, rfl, h.1⟩))
  | mark a b => exact .inr (.inr (.inr ⟨a, b, rfl, h.1⟩))

set_option maxRecDepth 100000 in
theorem See_any (w : World) (mb : Nat) (s : ByteArray) (m : N.Mach) (wv : List Own) (vO vB : Value) (h2 : w.cell? ⟨mb, 2, none⟩ = some vO) (h : OwnAt w m.all wv vO vB) (htab : TabOk w) :
    Calls Tryz.prog 20 #[.pointer (some ⟨mb, 0, none⟩), .string s] w fun e w' => e = .returned (.tuple #[.string ⟨(N.see m s.data.toList).1.toArray⟩, .int .i64 (N.see m s.data.toList).2]) ∧ Below w.heap.size w w' := by
  have hnew := newest_any w mb s m.all wv vO vB h2 h
  have hsee : N.see m s.data.toList = match N.newestOf m.all s.data.toList m.all.length with
    | none => ([], 2)
    | some k => match m.all[k]? with
      | none => ([], 2)
      | some e =>
        if e.kind = 2 then ([118, 97, 114, 105, 97, 98, 108, 101, 32] ++ Lib.itoa e.n, 0)
        else if e.kind = 3 then ([99, 111, 110, 115, 116, 97, 110, 116, 32] ++ Lib.itoa e.n, 0)
        else if e.kind = 4 then ([109, 97, 114, 107, 101, 114], 0)
        else ([58] ++ (e.body.map N.cellTxt).flatten, 0) := rfl
  rw [hsee]
  cases hk : N.newestOf m.all s.data.toList m.all.length with
  | none =>
    rw [hk] at hnew
    exact See_none w mb s (hide hnew)
  | some k =>
    rw [hk] at hnew
    obtain ⟨hkl, e, hek, _, hth⟩ := newest_lt m.all _ _ _ hk
    obtain ⟨o, ho⟩ : ∃ o, wv[k]? = some o := ⟨_, List.getElem?_eq_getElem (by rw [h.len]; exact hkl)⟩
    have hv : ownAt wv (some k) = ownVal o := by unfold ownAt; rw [Option.bind_some, ho]; rfl
    rw [hv] at hnew
    have hen := there_ended hth
    have hent := h.ent k e o hek ho hen
    simp only [hek]
    rcases ent_kind hent with ⟨b, rfl, hkd⟩ | ⟨b, rfl, hkd⟩ | ⟨x, y, z, rfl, hkd⟩ | ⟨x, y, rfl, hkd⟩
    · rw [if_neg (by omega), if_neg (by omega), if_neg (by omega)]
      obtain ⟨_, vB1, body, hb1, hrow, hbody, hl60, _⟩ := hent
      obtain ⟨aB, cB, rfl, _, _⟩ := owns_slice hrow
      have htxt : [58] ++ (e.body.map N.cellTxt).flatten = bodyTxt (body.map fun x => strTxt x.1) := by
        unfold bodyTxt
        rw [← hbody, List.map_map, List.map_map]
        have hm : body.map (N.cellTxt ∘ fun x => x.1) = body.map ((fun s => 32 :: s) ∘ fun x => strTxt x.1) := List.map_congr_left fun x _ => cellTxt_str x.1
        rw [hm]
        rfl
      have hlen : (body.map (cellVal wv)).length = body.length := by simp
      have hok := h.ok k e hek hen
      have hsd : ∀ W, Below w.heap.size w W → Calls Tryz.prog 173 #[.pointer (some ⟨b, 0, none⟩)] W fun r w' => r = .returned (.string ⟨(bodyTxt (body.map fun x => strTxt x.1)).toArray⟩) ∧ Below W.heap.size W w' := by
        intro W hbW
        have hoW := h.below hbW
        have htW : TabOk W := tabIs_of_block htab (hbW.block _ (tab_lt htab))
        refine see_def W b ⟨e.name.toArray⟩ (1000 + (k : Int)) aB cB (body.map (cellVal wv)) (body.map fun x => strTxt x.1) (by rw [hlen]; exact (hbW.block b (heap_lt hb1)).trans hb1) (by rw [hlen]; exact hl60) (by simp) ?_ ?_
        · intro p v hv
          have hrW : W.ownsRow 0 107 1 (.slice aB body.length cB) body.length (body.map (cellVal wv)) := owns_kept hrow fun k e => hbW.block k (hrow.lt k e).2
          have hp : p < body.length := by have := (List.getElem?_eq_some_iff.1 hv).1; simpa using this
          obtain ⟨g, c1, hg, _, _⟩ := hrW.form (by omega)
          injection hg with hg _ _
          refine ⟨g, hg, ?_⟩
          subst hg
          have := hrW.cells (g := g) rfl p v hv
          rwa [add_lit, Nat.zero_add] at this
        · intro p v t hv ht
          rw [List.getElem?_map] at hv ht
          cases hbp : body[p]? with
          | none => rw [hbp] at hv; cases hv
          | some x =>
            rw [hbp] at hv ht
            injection hv with hv
            injection ht with ht
            rw [← hv, ← ht]
            refine cell_str hoW htW k x.1 x.2 (hok x.1 ?_) hkl
            rw [← hbody]
            exact List.mem_map_of_mem (List.mem_of_getElem? hbp)
      rw [htxt]
      refine See_some w mb s 122 (.pointer (some ⟨b, 0, none⟩)) 173 (.pointer (some ⟨b, 0, none⟩)) _ (enters_of Tryz.func173 (by kernel_rfl) rfl) (hide hnew) (hide fun W hbW => ⟨fun F => by kernel_rfl, hsd W hbW⟩)
    · rw [if_pos hkd]
      refine See_some w mb s 124 (.pointer (some ⟨b, 0, none⟩)) 178 (.pointer (some ⟨b, 0, none⟩)) _ (enters_of Tryz.func178 (by kernel_rfl) rfl) (hide hnew) (hide fun W hbW => ⟨fun F => by kernel_rfl, ?_⟩)
      exact see_var W b _ _ e.n ((hbW.block b (heap_lt hent.2.2)).trans hent.2.2) hent.2.1 (tabIs_of_block htab (hbW.block _ (tab_lt htab)))
    · rw [if_neg (by omega), if_pos hkd]
      obtain ⟨_, hin, _, _, rfl⟩ := hent
      refine See_some w mb s 130 (.agg #[.string ⟨x.toArray⟩, .int .i64 y, .int .i64 e.n]) 179 (.agg #[.string ⟨x.toArray⟩, .int .i64 y, .int .i64 e.n]) _ (enters_of Tryz.func179 (by kernel_rfl) rfl) (hide hnew) (hide fun W hbW => ⟨fun F => by kernel_rfl, ?_⟩)
      exact see_con W _ _ e.n hin (tabIs_of_block htab (hbW.block _ (tab_lt htab)))
    · rw [if_neg (by omega), if_neg (by omega), if_pos hkd]
      refine See_some w mb s 132 (.agg #[.string ⟨x.toArray⟩, .int .i64 y]) 180 (.agg #[.string ⟨x.toArray⟩, .int .i64 y]) _ (enters_of Tryz.func180 (by kernel_rfl) rfl) (hide hnew) (hide fun W _ => ⟨fun F => by kernel_rfl, ?_⟩)
      exact see_mark W _ _
end Go.Proofs.YtgnlokmeohffaaaGreatDoor
/- Words, Aside: what they tell. -/
namespace Go.Proofs.YtgnlokmeohffaaaGreatDoor
open Go.RowKit
attribute [local go_sem ↓] Go.wp_at_zero Go.wp_at_succ

/-- Aside: a list of its own. -/
theorem aside_any (w : World) (mb n : Nat) (vS : Value) (S : List Int) (h0 : w.cell? ⟨mb, 1, none⟩ = some vS) (hs : w.ownsRow 0 3 1 vS n (S.map (Value.int .i64))) (hn : n ≤ 16) :
    Calls Tryz.prog 17 #[.pointer (some ⟨mb, 0, none⟩)] w fun r w' => ∃ v, r = .returned v ∧ w'.ownsRow w.heap.size 3 1 v n (S.map (Value.int .i64)) ∧ Below w.heap.size w w' := by
  have hl : S.length = n := by simpa using hs.1
  rcases hs.2 with ⟨rfl, rfl⟩ | ⟨g, cap, cur, rfl, hg⟩
  · have HS := hide hl
    clear hl hs
    go_enter Tryz.func17, Tryz.ntmps17
    go_wp2_with fail
    refine (Tryz.slices_Clone_int_nil 0 0 _).mono ?_
    rintro e w' ⟨rfl, rfl⟩
    go_wp2
    go_ret
    refine ⟨_, rfl, ?_, Below.refl _ _⟩
    rw [List.length_eq_zero_iff.1 (unhide HS)]
    exact World.ownsRow_nil _ _ _ _
  · have hc : ∀ j, j < S.length → w.cell? ⟨g, 0 + j, none⟩ = some (.int .i64 (S.getD j 0)) := fun j hj => by
      have := hs.cells (g := g) rfl j (.int .i64 S[j]) (by rw [List.getElem?_map, List.getElem?_eq_getElem hj]; rfl)
      rw [add_lit] at this
      rw [this, List.getD_eq_getElem?_getD, List.getElem?_eq_getElem hj]
      rfl
    have HC := hide hc
    have HS := hide hl
    clear hc hl hs hg
    go_enter Tryz.func17, Tryz.ntmps17
    go_wp2_with fail
    refine (Tryz.slices_Clone_int g 0 n cap S _ (by rw [unhide HS]; exact Nat.le_refl _) (by omega) (unhide HC)).mono ?_
    rintro e w' ⟨v', rfl, ho, _, hb⟩
    have HO := hide ho
    have HB := hide hb
    clear ho hb
    go_wp2
    go_ret
    refine ⟨v', rfl, ?_, unhide HB⟩
    have := unhide HO
    rwa [List.take_of_length_le (by rw [unhide HS]; exact Nat.le_refl _)] at this
theorem Solo.aside {B : Nat} {w : World} {mb : Nat} {m : N.Mach} (h : Solo B w mb m) : Calls Tryz.prog 17 #[.pointer (some ⟨mb, 0, none⟩)] w fun r w' => ∃ v, r = .returned v ∧ w'.ownsRow w.heap.size 3 1 v m.R.length (m.R.map (Value.int .i64)) ∧ Below w.heap.size w w' := by
  obtain ⟨_, F, ⟨vO, vB, vS, vR, wv, h, rfl⟩, _⟩ := h
  exact aside_any w mb _ vR m.R (cell_of_block h.n.mc rfl) h.n.rt h.n.rl

theorem infoStr : ∃ i, (Tryz.prog).info? 9 = some i ∧ i.zero = some (.string ⟨#[]⟩) ∧ i.size = 1 ∧ i.bytes = 16 := info_of (by kernel_rfl)
/-- The row of names while it is filled. -/
def namesTo (os : List Row) (k : Nat) : List Value := ((os.take k).map fun r => Value.string ⟨r.nm.toArray⟩) ++ List.replicate (os.length - k) (.string ⟨#[]⟩)
theorem namesTo_step (os : List Row) (k : Nat) (r : Row) (hr : os[k]? = some r) : (namesTo os k).set k (.string ⟨r.nm.toArray⟩) = namesTo os (k + 1) := by
  have hk := (List.getElem?_eq_some_iff.1 hr).1
  unfold namesTo
  have hl : ((os.take k).map fun r => Value.string ⟨r.nm.toArray⟩).length = k := by simp; omega
  rw [List.set_append_right _ _ (by omega), hl, Nat.sub_self, show os.length - k = (os.length - (k + 1)) + 1 by omega, List.replicate_succ, List.set_cons_zero]
  rw [List.take_succ_eq_append_getElem hk, List.map_append, List.append_assoc]
  rw [List.getElem?_eq_getElem hk] at hr
  injection hr with hr
  rw [← hr]
  rfl

set_option maxRecDepth 100000 in
set_option maxHeartbeats 1600000 in
theorem words_walk (w : World) (mb g cap : Nat) (os : List Row) (h2 : w.cell? ⟨mb, 2, none⟩ = some (.slice (some ⟨g, 0, none⟩) os.length cap)) (hn : os.length ≤ 40) (hpos : 0 < os.length)
    (hg : ∀ j r, os[j]? = some r → w.cell? ⟨g, j, none⟩ = some (ownVal r.o) ∧ HeadAt w r.o r.nm r.tok) :
    Calls Tryz.prog 11 #[.pointer (some ⟨mb, 0, none⟩)] w fun e w' => e = .returned (.slice (some ⟨w.heap.size, 0, none⟩) os.length os.length) ∧ w'.heap[w.heap.size]? = some (.cells (namesTo os os.length).toArray 9) ∧ Below w.heap.size w w' := by
  have HG := hide hg
  have hz := block_lt h2
  clear hg
  generalize hn0 : os.length = n at *
  have HN := hide hn0
  clear hn0
  go_enter Tryz.func11, Tryz.ntmps11
  obtain ⟨i9, hi9, hz9, hs9, hb9⟩ := infoStr
  have hmk : (Instr.makeSlice 23 (.int .i64 (n : Int)) (.int .i64 (n : Int))).run Tryz.prog w = .ok (.slice (some ⟨w.heap.size, 0, none⟩) n n) (w.alloc (.cells (List.replicate n (Value.string ⟨#[]⟩)).toArray 9)) := by
    have h := run_makeSlice (P := Tryz.prog) (w := w) 23 9 i9 (.string ⟨#[]⟩) Tryz.underlying23 hi9 hz9 .i64 .i64 (n : Int) (n : Int) (by omega) (Int.le_refl _) (by rw [hs9]; simp; omega) (by rw [hb9]; omega) (by omega)
    rw [h, hs9, Int.toNat_natCast, Nat.mul_one]
    congr 3
    apply Array.ext'
    rw [List.toList_toArray]
    apply List.ext_getElem
    · simp [madeCells]
    · intro i h1 h2
      simp [madeCells, Value.cells, Nat.mod_one]
  have hb0 : Below w.heap.size w (w.alloc (.cells (List.replicate n (Value.string ⟨#[]⟩)).toArray 9)) := (Below.refl _ _).alloc (Nat.le_refl _) _
  have hnew := heap_alloc_new w (.cells (List.replicate n (Value.string ⟨#[]⟩)).toArray 9)
  have hname0 : List.replicate n (Value.string ⟨#[]⟩) = namesTo os 0 := by unfold namesTo; rw [unhide HN]; simp
  rw [hname0] at hmk hnew hb0
  have d2 := cell_alloc h2 (.cells (namesTo os 0).toArray 9)
  have H0 := hide (And.intro hnew hb0)
  clear hname0 hnew hb0
  go_wp2
  go_loopw [17] (fun i wr => ∃ k : Nat, k ≤ n ∧ i = .int .i64 (k : Int) ∧ Below w.heap.size w wr ∧ wr.heap[w.heap.size]? = some (.cells (namesTo os k).toArray 9)) (fun i _ => match i with | .int _ k => n - k.toNat | _ => 0)
  case atStart => exact ⟨0, Nat.zero_le _, rfl, (unhide H0).2, (unhide H0).1⟩
  case round =>
    obtain ⟨k, hk, rfl, hb, hrow⟩ := hrel
    by_cases hkn : k < n
    · have k1 : (k : Int) < (n : Int) := by omega
      have k0 : (0 : Int) ≤ (k : Int) := by omega
      have k2 : IntKind.i64.wrap ((k : Int) + 1) = (k : Int) + 1 := by rw [IntKind.wrap_i64]; omega
      obtain ⟨r, hr⟩ : ∃ r, os[k]? = some r := ⟨_, List.getElem?_eq_getElem (by rw [unhide HN]; exact hkn)⟩
      obtain ⟨hc, hh⟩ := unhide HG k r hr
      obtain ⟨T, v, hv, hm, _⟩ := head_name (hh.below hb)
      rw [hv] at hc
      have c3 : wr.cell? ⟨g, k, none⟩ = some (.iface T v) := ((bcell hb).1 g k (block_lt hc)).trans hc
      have hstep := namesTo_step os k r hr
      have hsz : (namesTo os k).length = n := by unfold namesTo; rw [List.length_append, List.length_map, List.length_take, List.length_replicate, unhide HN]; omega
      obtain ⟨y, hy⟩ : ∃ y, (namesTo os k).toArray[k]? = some y := ⟨_, by simp; exact List.getElem?_eq_getElem (by omega)⟩
      have hbA : Below wr.heap.size wr (wr.alloc (Obj.cells #[.string ⟨r.nm.toArray⟩, .int .i64 r.tok] 127)) := (Below.refl _ _).alloc (Nat.le_refl _) _
      have hrowA := (hbA.block _ (heap_lt hrow)).trans hrow
      have q1 := cell_of_block (j := k) hrowA hy
      have q2 := frozen_of_block k hrowA
      have HR := hide (And.intro hstep (And.intro hrowA (And.intro hb hbA)))
      clear hstep hrow hb hc hh hv hr hsz hy hrowA hbA
      go_wp2
      have hx := unhide HR
      refine ⟨⟨k + 1, by omega, by simp, ?_, ?_⟩, ?_⟩
      · exact (hx.2.2.1.trans (hx.2.2.2.mono hx.2.2.1.size)).setCell (p := ⟨w.heap.size, k, none⟩) (Nat.le_refl _) _
      · have := set_block hx.2.1 k (.string ⟨r.nm.toArray⟩)
        rw [this, ← hx.1]
        simp
      · show n - ((k : Int) + 1).toNat < n - (k : Int).toNat
        omega
    · have k1 : ¬ (k : Int) < (n : Int) := by omega
      obtain rfl : k = n := by omega
      have HR := hide (And.intro hb hrow)
      clear hb hrow
      go_wp2
      go_ret
      exact ⟨rfl, (unhide HR).2, (unhide HR).1⟩

set_option maxRecDepth 100000 in
theorem words_none (w : World) (mb : Nat) (a : Option Addr) (cap : Nat) (h2 : w.cell? ⟨mb, 2, none⟩ = some (.slice a 0 cap)) :
    Calls Tryz.prog 11 #[.pointer (some ⟨mb, 0, none⟩)] w fun e w' => e = .returned (.slice (some ⟨w.heap.size, 0, none⟩) 0 0) ∧ w'.heap[w.heap.size]? = some (.cells #[] 9) ∧ Below w.heap.size w w' := by
  have hmk : (Instr.makeSlice 23 (.int .i64 0) (.int .i64 0)).run Tryz.prog w = .ok (.slice (some ⟨w.heap.size, 0, none⟩) 0 0) (w.alloc (.cells #[] 9)) := by kernel_rfl
  have d2 := cell_alloc h2 (.cells #[] 9)
  go_enter Tryz.func11, Tryz.ntmps11
  go_wp2
  go_loop [17] (fun i => i = .int .i64 0) (fun _ => 0)
  case atStart => rfl
  case round =>
    obtain rfl := hrel
    go_wp2
    go_ret
    exact ⟨rfl, heap_alloc_new w _, (Below.refl _ _).alloc (Nat.le_refl _) _⟩

theorem rows_names : ∀ (all : List N.Ent) (wv : List Own) (j : Nat), wv.length = all.length → (rowsFrom j all wv).map (fun r => r.nm) = (all.filter N.there).map (·.name)
  | [], [], _, _ => rfl
  | [], _ :: _, _, h => by simp at h
  | _ :: _, [], _, h => by simp at h
  | e :: t, o :: u, j, h => by
    have ih := rows_names t u (j + 1) (by simpa using h)
    rw [rowsFrom, List.filter_cons]
    cases N.there e with
    | true => simp only [if_true, List.map_cons, ih]
    | false => simp only [Bool.false_eq_true, if_false, ih]
theorem namesTo_all (os : List Row) : namesTo os os.length = (os.map fun r => r.nm).map wordCell := by
  unfold namesTo
  rw [List.take_length, Nat.sub_self, List.replicate_zero, List.append_nil, List.map_map]
  rfl
/-- Words: a list of its own. -/
theorem Has.words {w : World} {mb : Nat} {F : Nat → Prop} {m : N.Mach} (h : Has w mb F m) : Calls Tryz.prog 11 #[.pointer (some ⟨mb, 0, none⟩)] w fun r w' => ∃ v, r = .returned v ∧ w'.ownsRow w.heap.size 9 1 v (N.words m).length ((N.words m).map wordCell) ∧ Below w.heap.size w w' ∧ (N.words m).length ≤ 40 := by
  obtain ⟨vO, vB, vS, vR, wv, h, rfl⟩ := h
  have hown := h.n.own
  have h2 : w.cell? ⟨mb, 2, none⟩ = some vO := cell_of_block h.n.mc rfl
  have hnm : (rows m.all wv).map (fun r => r.nm) = N.words m := rows_names m.all wv 0 hown.len
  have hlen : (rows m.all wv).length = (N.words m).length := by rw [← hnm, List.length_map]
  have hfew : (N.words m).length ≤ 40 := by
    rw [← hlen]
    have := hown.few
    rw [listed_rows, List.length_map] at this
    exact this
  have fin : ∀ (w' : World), w'.heap[w.heap.size]? = some (.cells ((N.words m).map wordCell).toArray 9) → w'.ownsRow w.heap.size 9 1 (.slice (some ⟨w.heap.size, 0, none⟩) (N.words m).length (N.words m).length) (N.words m).length ((N.words m).map wordCell) := fun w' hw =>
    ⟨by simp, .inr ⟨_, _, _, rfl, Nat.le_refl _, hw, Nat.le_refl _, by unfold maxLen; omega, by simp, by rw [List.toList_toArray]; exact List.take_of_length_le (by simp)⟩⟩
  by_cases h0 : (rows m.all wv).length = 0
  · have hw0 : N.words m = [] := List.length_eq_zero_iff.1 (by omega)
    have hv : ∃ a c, vO = .slice a 0 c := by
      rcases hown.rowsAt with ⟨rfl, _⟩ | ⟨g, cap, rfl, _⟩
      · exact ⟨_, _, rfl⟩
      · exact ⟨_, _, by rw [h0]⟩
    obtain ⟨a, c, rfl⟩ := hv
    refine (words_none w mb a c h2).mono ?_
    rintro r w' ⟨rfl, hr, hb⟩
    have := fin w' (by rw [hw0]; exact hr)
    rw [hw0] at this ⊢
    exact ⟨_, rfl, this, hb, Nat.zero_le _⟩
  · rcases hown.rowsAt with ⟨rfl, hr0⟩ | ⟨g, cap, rfl, hg⟩
    · exact (h0 (by rw [hr0]; rfl)).elim
    · refine (words_walk w mb g cap (rows m.all wv) h2 (by omega) (by omega) hg).mono ?_
      rintro r w' ⟨rfl, hr, hb⟩
      rw [namesTo_all, hnm] at hr
      rw [hlen]
      exact ⟨_, rfl, fin w' hr, hb, hfew⟩
theorem Solo.words {B : Nat} {w : World} {mb : Nat} {m : N.Mach} (h : Solo B w mb m) : Calls Tryz.prog 11 #[.pointer (some ⟨mb, 0, none⟩)] w fun r w' => ∃ v, r = .returned v ∧ w'.ownsRow w.heap.size 9 1 v (N.words m).length ((N.words m).map wordCell) ∧ Below w.heap.size w w' ∧ (N.words m).length ≤ 40 := by
  obtain ⟨_, F, h, _⟩ := h
  exact h.words
/-- See. -/
theorem Has.see {w : World} {mb : Nat} {F : Nat → Prop} {m : N.Mach} (h : Has w mb F m) (s : ByteArray) : Calls Tryz.prog 20 #[.pointer (some ⟨mb, 0, none⟩), .string s] w fun e w' => e = .returned (.tuple #[.string ⟨(N.see m s.data.toList).1.toArray⟩, .int .i64 (N.see m s.data.toList).2]) ∧ Below w.heap.size w w' := by
  obtain ⟨vO, vB, vS, vR, wv, h, rfl⟩ := h
  exact See_any w mb s m wv vO vB (cell_of_block h.n.mc rfl) h.n.own h.tab
theorem Solo.see {B : Nat} {w : World} {mb : Nat} {m : N.Mach} (h : Solo B w mb m) (s : ByteArray) : Calls Tryz.prog 20 #[.pointer (some ⟨mb, 0, none⟩), .string s] w fun e w' => e = .returned (.tuple #[.string ⟨(N.see m s.data.toList).1.toArray⟩, .int .i64 (N.see m s.data.toList).2]) ∧ Below w.heap.size w w' := by
  obtain ⟨_, F, h, _⟩ := h
  exact h.see s
end Go.Proofs.YtgnlokmeohffaaaGreatDoor
/- anvilkeep: sameTexts: whether two lists hold the same. -/
namespace Go.Proofs.YtgnlokmeohffaaaGreatDoor
open Go.RowKit

set_option maxRecDepth 100000 in
set_option maxHeartbeats 1600000 in
/-- sameTexts, at lists that are not nil. -/
theorem sameTexts_some (b o c b2 o2 c2 : Nat) (A B : List (ByteArray)) (w : World) (hl : A.length ≤ 4294967296) (hAB : A.length = B.length) (hA : ∀ k (hk : k < A.length), w.cell? ⟨b, o + k, none⟩ = some (Value.string A[k])) (hB : ∀ k (hk : k < B.length), w.cell? ⟨b2, o2 + k, none⟩ = some (Value.string B[k])) :
    Calls Tryz.prog 18 #[.slice (some ⟨b, o, none⟩) A.length c, .slice (some ⟨b2, o2, none⟩) A.length c2] w fun e w' => e = .returned (.bool (decide (A = B))) ∧ ∃ n, w' = w.drewN n := by
  have HA := hide hA
  have HB := hide hB
  have HL := hide hAB
  clear hA hB hAB
  go_enter Tryz.func18, Tryz.ntmps18
  go_wp2
  go_loopw [5] (fun i wr => ∃ k n : Nat, k ≤ A.length ∧ i = .int .i64 k ∧ A.take k = B.take k ∧ wr = w.drewN n) (fun i _ => A.length - (intOf i).toNat)
  case atStart => exact ⟨0, 0, Nat.zero_le _, rfl, by simp, rfl⟩
  case round =>
    obtain ⟨k, n, hk, rfl, htk, hwr⟩ := hrel
    have Htk := hide htk
    have Hwr := hide hwr
    clear htk
    by_cases hlt : k < A.length
    · have hltB : k < B.length := by rw [← unhide HL]; exact hlt
      have hcA : wr.cell? ⟨b, o + k, none⟩ = some (Value.string A[k]) := by rw [hwr]; exact unhide HA k hlt
      have hcB : wr.cell? ⟨b2, o2 + k, none⟩ = some (Value.string B[k]) := by rw [hwr]; exact unhide HB k hltB
      have i0 : (0 : Int) ≤ (k : Int) := by omega
      have i1 : (k : Int) < (A.length : Int) := by omega
      clear hwr
      by_cases he : A[k] = B[k]
      · have hb : (A[k].toList == B[k].toList) = true := by rw [beq_iff_eq, he]
        have He := hide he
        clear he
        go_wp2
        go_region_held3 (fun w' => w'.cell? ⟨b, o + k, none⟩ = some (Value.string A[k]) ∧ w'.cell? ⟨b2, o2 + k, none⟩ = some (Value.string B[k])) (first | exact ⟨hcA, hcB⟩ | go_keep) (fail)
        go_wp2
        exact ⟨⟨k + 1, n + 1, by omega, by go_num, take_eq hlt hltB (unhide Htk) (unhide He), by rw [unhide Hwr]; rfl⟩, by simp [intOf]; omega⟩
      · have hb : (A[k].toList == B[k].toList) = false := by
          rw [beq_eq_false_iff_ne, Go.ByteArray.toList_eq, Go.ByteArray.toList_eq]
          intro h
          exact he (ByteArray.ext (Array.ext' h))
        have He := hide he
        clear he
        go_wp2
        go_region_held3 (fun w' => w'.cell? ⟨b, o + k, none⟩ = some (Value.string A[k]) ∧ w'.cell? ⟨b2, o2 + k, none⟩ = some (Value.string B[k])) (first | exact ⟨hcA, hcB⟩ | go_keep) (fail)
        go_wp2
        go_ret
        exact ⟨ret_bool (decide_eq_false (take_ne hlt hltB (unhide He))).symm, n + 1, by rw [unhide Hwr]; rfl⟩
    · clear hwr
      go_wp2
      go_ret
      refine ⟨ret_bool (decide_eq_true ?_).symm, n, unhide Hwr⟩
      have := unhide Htk
      rwa [List.take_of_length_le (by omega), List.take_of_length_le (by rw [← unhide HL]; omega)] at this

set_option maxRecDepth 100000 in
/-- sameTexts, where the lengths are not the same. -/
theorem sameTexts_len (a a2 : Option Addr) (n n2 c c2 : Nat) (w : World) (h : ((n : Int) != (n2 : Int)) = true) :
    Calls Tryz.prog 18 #[.slice a n c, .slice a2 n2 c2] w fun e w' => e = .returned (.bool false) ∧ w' = w := by
  go_enter Tryz.func18, Tryz.ntmps18
  go_wp2
  go_ret
  exact ⟨rfl, rfl⟩

set_option maxRecDepth 100000 in
/-- sameTexts, at two empty lists. -/
theorem sameTexts_nil (a a2 : Option Addr) (c c2 : Nat) (w : World) :
    Calls Tryz.prog 18 #[.slice a 0 c, .slice a2 0 c2] w fun e w' => e = .returned (.bool true) ∧ w' = w := by
  go_enter Tryz.func18, Tryz.ntmps18
  go_wp2
  go_loop [5] (fun i => i = .int .i64 0) (fun _ => 0)
  case atStart => rfl
  case round =>
    obtain rfl := hrel
    go_wp2
    go_ret
    exact ⟨rfl, rfl⟩

end Go.Proofs.YtgnlokmeohffaaaGreatDoor
/- sameTexts, at two lists of the same texts. -/
namespace Go.Proofs.YtgnlokmeohffaaaGreatDoor
open Go.RowKit

theorem same_texts (w : World) (b1 b2 : Nat) (v1 v2 : Value) (S : List (List UInt8)) (hl : S.length ≤ 4294967296) (h1 : w.ownsRow b1 9 1 v1 S.length (S.map wordCell)) (h2 : w.ownsRow b2 9 1 v2 S.length (S.map wordCell)) :
    Calls Tryz.prog 18 #[v1, v2] w fun r w' => r = .returned (.bool true) ∧ Below w.heap.size w w' := by
  by_cases h0 : S.length = 0
  · obtain ⟨a1, c1, rfl, _, _⟩ := owns_slice h1
    obtain ⟨a2, c2, rfl, _, _⟩ := owns_slice h2
    rw [h0]
    refine (sameTexts_nil a1 a2 c1 c2 w).mono ?_
    rintro r w' ⟨rfl, hw⟩
    first
      | (obtain ⟨n, rfl⟩ := hw; exact ⟨rfl, drewN_below n w⟩)
      | (subst hw; exact ⟨rfl, Below.refl _ _⟩)
  · obtain ⟨g1, c1, rfl, _, _⟩ := h1.form (by omega)
    obtain ⟨g2, c2, rfl, _, _⟩ := h2.form (by omega)
    have key : ∀ {b g c : Nat}, w.ownsRow b 9 1 (.slice (some ⟨g, 0, none⟩) S.length c) S.length (S.map wordCell) → ∀ k (hk : k < (S.map fun s => (⟨s.toArray⟩ : ByteArray)).length), w.cell? ⟨g, 0 + k, none⟩ = some (Value.string (S.map fun s => (⟨s.toArray⟩ : ByteArray))[k]) := fun h k hk => by
      have hk' : k < S.length := by simpa using hk
      have := h.cells (g := _) rfl k (wordCell S[k]) (by rw [List.getElem?_map, List.getElem?_eq_getElem hk']; rfl)
      rw [add_lit] at this
      rw [this]
      simp [wordCell]
    have hlen : (S.map fun s => (⟨s.toArray⟩ : ByteArray)).length = S.length := by simp
    have := sameTexts_some g1 0 c1 g2 0 c2 (S.map fun s => (⟨s.toArray⟩ : ByteArray)) (S.map fun s => (⟨s.toArray⟩ : ByteArray)) w (by omega) rfl (key h1) (key h2)
    rw [hlen] at this
    refine this.mono ?_
    rintro r w' ⟨rfl, n, rfl⟩
    exact ⟨by simp, drewN_below n w⟩
end Go.Proofs.YtgnlokmeohffaaaGreatDoor
/- A machine, and blocks that it leaves alone. -/
namespace Go.Proofs.YtgnlokmeohffaaaGreatDoor
open Go.RowKit

/-- A machine whose blocks that may turn lie from B on, and are none of X. -/
def Sole (B : Nat) (w : World) (mb : Nat) (m : N.Mach) (X : Nat → Prop) : Prop := B ≤ w.heap.size ∧ ∃ F, Has w mb F m ∧ (∀ k, F k → B ≤ k) ∧ ∀ k, X k → k < w.heap.size ∧ ¬ F k
theorem Sole.solo {B : Nat} {w : World} {mb : Nat} {m : N.Mach} {X : Nat → Prop} (h : Sole B w mb m X) : Solo B w mb m := by
  obtain ⟨h0, F, h1, h2, _⟩ := h
  exact ⟨h0, F, h1, h2⟩
theorem Solo.sole {B : Nat} {w : World} {mb : Nat} {m : N.Mach} (h : Solo B w mb m) : Sole B w mb m fun _ => False := by
  obtain ⟨h0, F, h1, h2⟩ := h
  exact ⟨h0, F, h1, h2, fun _ h => h.elim⟩
theorem Sole.more {B : Nat} {w w' : World} {mb : Nat} {m : N.Mach} {X : Nat → Prop} (h : Sole B w mb m X) (hb : Below w.heap.size w w') (Y : Nat → Prop) (hY : ∀ k, Y k → w.heap.size ≤ k ∧ k < w'.heap.size) : Sole B w' mb m fun k => X k ∨ Y k := by
  obtain ⟨h0, F, h1, h2, h3⟩ := h
  refine ⟨Nat.le_trans h0 hb.size, F, h1.below hb, h2, fun k hk => ?_⟩
  rcases hk with hk | hk
  · exact ⟨Nat.lt_of_lt_of_le (h3 k hk).1 hb.size, (h3 k hk).2⟩
  · exact ⟨(hY k hk).2, fun hf => by have := h1.lt k hf; have := (hY k hk).1; omega⟩
theorem Sole.below {B : Nat} {w w' : World} {mb : Nat} {m : N.Mach} {X : Nat → Prop} (h : Sole B w mb m X) (hb : Below w.heap.size w w') : Sole B w' mb m X := by
  obtain ⟨h0, F, h1, h2, h3⟩ := h
  exact ⟨Nat.le_trans h0 hb.size, F, h1.below hb, h2, fun k hk => ⟨Nat.lt_of_lt_of_le (h3 k hk).1 hb.size, (h3 k hk).2⟩⟩
theorem Sole.weaken {B : Nat} {w : World} {mb : Nat} {m : N.Mach} {X Y : Nat → Prop} (h : Sole B w mb m X) (hY : ∀ k, Y k → X k) : Sole B w mb m Y := by
  obtain ⟨h0, F, h1, h2, h3⟩ := h
  exact ⟨h0, F, h1, h2, fun k hk => h3 k (hY k hk)⟩
theorem Sole.do {B : Nat} {w : World} {mb : Nat} {m : N.Mach} {X : Nat → Prop} (h : Sole B w mb m X) (line : ByteArray) (hold : m.all.length + 1000 ≤ 1000000000000) :
    Calls Tryz.prog 15 #[.pointer (some ⟨mb, 0, none⟩), .string line] w fun r w' => r = .returned (ansVal (N.doLine m line.data.toList)) ∧ Sole B w' mb (N.doLine m line.data.toList).1 X ∧ Below B w w' ∧ ∀ k, X k → w'.heap[k]? = w.heap[k]? := by
  obtain ⟨h0, F, h1, h2, h3⟩ := h
  refine (h1.do line hold).mono ?_
  rintro r w' ⟨rfl, F', h', hm, hf⟩
  refine ⟨rfl, ⟨Nat.le_trans h0 hm.size, F', h', fresh_from h0 h2 hf, fun k hk => ⟨Nat.lt_of_lt_of_le (h3 k hk).1 hm.size, fun hF => ?_⟩⟩, hm.below h2 h0, fun k hk => hm.block k (h3 k hk).1 (h3 k hk).2⟩
  rcases hf k hF with x | x
  · exact (h3 k hk).2 x
  · have := (h3 k hk).1; omega
theorem Sole.does {B : Nat} {w : World} {mb : Nat} {m m' : N.Mach} {X : Nat → Prop} (h : Sole B w mb m X) (line out : ByteArray) (hold : m.all.length + 1000 ≤ 1000000000000) (hl : N.doLine m line.data.toList = (m', out.data.toList, 0, 0)) :
    Calls Tryz.prog 12 #[.pointer (some ⟨mb, 0, none⟩), .string line, .string out] w fun r w' => r = .returned (.bool true) ∧ Sole B w' mb m' X ∧ Below B w w' ∧ ∀ k, X k → w'.heap[k]? = w.heap[k]? := by
  have hX : ∀ k, X k → k < w.heap.size := by
    obtain ⟨_, _, _, _, h3⟩ := h
    exact fun k hk => (h3 k hk).1
  have hd := h.do line hold
  rw [hl] at hd
  refine (does_ok w mb line out (fun W => Sole B W mb m' X ∧ Below B w W ∧ w.heap.size ≤ W.heap.size ∧ ∀ k, X k → W.heap[k]? = w.heap[k]?) (hide (hd.mono fun r w' hh => ⟨hh.1.trans ?_, hh.2.1, hh.2.2.1, hh.2.2.1.size, hh.2.2.2⟩))).mono ?_
  · rfl
  · rintro r w' ⟨rfl, W, ⟨h1, h2, h4, h5⟩, hb⟩
    exact ⟨rfl, h1.below hb, h2.trans (hb.mono h1.1), fun k hk => (hb.block k (Nat.lt_of_lt_of_le (hX k hk) h4)).trans (h5 k hk)⟩
end Go.Proofs.YtgnlokmeohffaaaGreatDoor
