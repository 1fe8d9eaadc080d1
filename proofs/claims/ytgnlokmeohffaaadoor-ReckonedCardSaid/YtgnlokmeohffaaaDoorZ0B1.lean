/- Parts of the proof: see the last text. -/
import Derived.Test.YtgnlokmeohffaaaDoorCards
import Derived.Test.YtgnlokmeohffaaaDoorTie
import Derived.WalkKit
import Derived.ProofKit
import Derived.LaidMore
import Derived.OpenShut
import Derived.Stop.Joined
import Derived.SevenTiedAt
import Derived.LaidSub
import Derived.Lib.LaidTab
import Derived.Lib.ItoaNum
import Derived.Test.YtgnlokmeohffaaaDoorB13
/- Reckoned answers true at every four numbers, if the walk does: from the walk to the row and to the card that ties the three tables of the library to their text. -/
namespace Go.Proofs.YtgnlokmeohffaaaDoor
namespace Reckoned
open Go.ChangeShapes Go.WideShapes Go.ChangeAt Go.WideMaps Go.WideElems Go.RowKit

theorem own : ownKnob Tryd.prog.godebug = none := by kernel_rfl

/-- What is still to be shown: the walk. -/
def Walk : Prop := ∀ (a0 a1 a2 a3 : Int) (W : World), (Lit.int .i64 a0).wf = true → (Lit.int .i64 a1).wf = true → (Lit.int .i64 a2).wf = true → (Lit.int .i64 a3).wf = true →
    Lib.TabIs Tryd.prog W "internal/strconv.uint64pow10" .u64 Lib.pow10Tab →
    Calls Tryd.prog 3 #[.int .i64 a0, .int .i64 a1, .int .i64 a2, .int .i64 a3] W fun e w' => e = .returned (.bool true) ∧ Below W.heap.size W w'

theorem door_met (os : Os) (args : Array Value) : laidMetH Tryd.prog Rows.reckonedRow.laid ((World.doorLaid Tryd.prog 400 os).forCall (fun _ _ => 0) ⟨#[], args, []⟩).memory :=
  laidMetH_of_parts3 (fuel := 8) (laidMet_of_run' 8 (by kernel_rfl) (by kernel_rfl)) (by kernel_rfl) (by kernel_rfl)

theorem tab_of {W : World} (h : laidMetH Tryd.prog Rows.reckonedRow.laid W) : Lib.TabIs Tryd.prog W "internal/strconv.uint64pow10" .u64 Lib.pow10Tab := by
  rw [MakeChecks.laidMetH_plain _ _ _ (by kernel_rfl)] at h
  have h2 := laidMet.filter (fun x => x.1 == "internal/strconv.uint64pow10") h
  have e : (Rows.reckonedRow.laid.filter fun x => x.1 == "internal/strconv.uint64pow10") = [("internal/strconv.uint64pow10", Lib.tabData .u64 Lib.pow10Tab)] := by kernel_rfl
  rw [e] at h2
  exact Lib.tabIs_of_head (g := 0) (n := 20) (t := 157) (e := 147) (by kernel_rfl) (by kernel_rfl) Tryd.underlying157 Tryd.underlying147 (by kernel_rfl) (by kernel_rfl) h2

set_option maxRecDepth 100000 in
theorem lifted (walk : Walk) (os : Os) (started : os.Started) (H : Type) (enc : TypeId × Value → H) :
    ReturnsInHanded {} Tryd.checked os 3 .any (fun w args => (Rows.reckonedSpec.pre enc Tryd.prog Tryd.f3 [] false w args ∧ laidMetH Tryd.prog Rows.reckonedRow.laid w) ∧ sizedMet enc Tryd.prog Tryd.f3 (OpenSpec.ofChange Rows.reckonedSpec) false w args)
      (Rows.reckonedSpec.post enc Tryd.prog Tryd.f3 false true false false) := by
  refine returnsInHanded_of_change_and (C := Tryd.checked) (X := fun w _ => laidMetH Tryd.prog Rows.reckonedRow.laid w) (fun _ _ _ hh h => h.of_heap hh) own started (by kernel_rfl) Tryd.func3
    (ChangeSpec.witness_shaped (enc := enc) (C := Tryd.checked) (os := os) (X := fun w _ => laidMetH Tryd.prog Rows.reckonedRow.laid w) false (World.doorLaid Tryd.prog 400 os) #[.int .i64 0, .int .i64 0, .int .i64 0, .int .i64 0] 8 rfl (World.shaped_of_RefB (by kernel_rfl) (by kernel_rfl)) (by kernel_rfl) (by kernel_rfl) (by kernel_rfl) (door_met os _)) ?_
  intro W base args ds gs before hval0 hW _ _ hL _
  have hval : ∀ (j : Nat) t v, Tryd.f3.params[j]? = some t → args[j]? = some v → Value.okWide Tryd.prog W .any base t v := hval0
  have hW' := hW
  obtain ⟨p, q, hA0, hV, rfl, hfz, hnd⟩ := hW
  have hA : DataW.TrodAll enc Tryd.prog W 0 (fun _ => true) true Tryd.f3.params.toList args.toList ds p := hA0
  rw [Tryd.params3] at hA hval
  obtain ⟨v0, v1, v2, v3, d0, d1, d2, d3, p0, p1, p2, p3, rfl, rfl, rfl, h0, h1, h2, h3⟩ := trodAll_four hA
  obtain ⟨rfl, rfl⟩ := trodVars_none hV
  obtain ⟨a0, rfl, rfl, rfl, w0⟩ := open_int Tryd.underlying3 (hval 0 3 v0 rfl rfl) h0
  obtain ⟨a1, rfl, rfl, rfl, w1⟩ := open_int Tryd.underlying3 (hval 1 3 v1 rfl rfl) h1
  obtain ⟨a2, rfl, rfl, rfl, w2⟩ := open_int Tryd.underlying3 (hval 2 3 v2 rfl rfl) h2
  obtain ⟨a3, rfl, rfl, rfl, w3⟩ := open_int Tryd.underlying3 (hval 3 3 v3 rfl rfl) h3
  have htab := tab_of hL
  clear hA0 hval0
  refine (walk a0 a1 a2 a3 W w0 w1 w2 w3 htab).mono fun e W' ⟨he, bel⟩ => ?_
  subst he
  exact ⟨_, rfl, _, _, _, [], _, [], hW', trodAll_mk1 (shut_bool Tryd.underlying4 _), (trodAll_cons_mk (shut_int Tryd.underlying3 w0) (trodAll_cons_mk (shut_int Tryd.underlying3 w1) (trodAll_cons_mk (shut_int Tryd.underlying3 w2) (trodAll_cons_mk (shut_int Tryd.underlying3 w3) trodAll_mk0)))), rfl, bel.frame _, fun h => by cases h⟩

theorem row_holds (walk : Walk) : Rows.ReckonedSaid :=
  OpenClaim.holds_of_wide 3 Tryd.f3 rfl rfl rfl rfl rfl rfl rfl ⟨rfl, rfl, rfl, rfl, rfl⟩ rfl rfl rfl rfl rfl (by kernel_rfl) Tryd.func3 (by kernel_rfl)
    (of_decide_eq_true (by kernel_rfl)) (by unfold Func.isWrapper; first | (rw [if_pos (by decide +kernel)]; kernel_rfl) | (rw [if_neg (by decide +kernel)]; exact ⟨rfl, rfl⟩))
    (fun os started H enc _ => lifted walk os started H enc)

theorem card_holds (walk : Walk) : Rows.ReckonedCardSaid :=
  Claim7.holds_tied_plain_at .later [] [.data, .data, .data] true Rows.reckonedCard.stood.harness true
    (row_holds walk) (fun _ h => by cases h) (by kernel_rfl) (fun _ h => by cases h) reckoned_row_tie rfl ⟨rfl, rfl⟩ (by kernel_rfl) rfl
    (fun f fn hf hfn => by
      obtain rfl : f = 3 := Option.some.inj ((show Tryd.prog.funcNamed Rows.reckonedRow.func = some 3 by kernel_rfl).symm.trans hf) |>.symm
      obtain rfl : fn = Tryd.f3 := (Option.some.inj (Tryd.func3.symm.trans hfn)).symm
      exact ⟨by kernel_rfl, fun j t ht => by
        rw [Tryd.params3] at ht
        have hm : t ∈ [3, 3, 3, 3] := by simpa using Array.mem_of_getElem? ht
        have hall : ([3, 3, 3, 3].all fun u => !Tryd.prog.wantsStandIn u) = true := by kernel_rfl
        exact (show Tryd.prog.wantsStandIn t = false by simpa using List.all_eq_true.1 hall t hm)⟩)
    (by kernel_rfl)
end Reckoned
end Go.Proofs.YtgnlokmeohffaaaDoor
/- The bits of which bodies are made: read into a definition. (Written by tools/mkbits.py.) -/
namespace Go.Proofs.YtgnlokmeohffaaaDoor
namespace N
open Go.RowKit

def bitTxt : Nat → Txt
  | 0 => [49, 32, 46]
  | 1 => [50, 32, 51, 32, 43, 32, 46]
  | 2 => [53, 32, 48, 32, 100, 111, 32, 105, 32, 46, 32, 108, 111, 111, 112]
  | 3 => [49, 32, 105, 102, 32, 55, 32, 46, 32, 101, 108, 115, 101, 32, 56, 32, 46, 32, 116, 104, 101, 110]
  | 4 => [48, 32, 105, 102, 32, 55, 32, 46, 32, 101, 108, 115, 101, 32, 57, 32, 46, 32, 116, 104, 101, 110]
  | 5 => [54, 53, 32, 101, 109, 105, 116]
  | 6 => [97]
  | 7 => [98]
  | 8 => [118, 32, 64, 32, 46]
  | 9 => [118, 32, 64, 32, 49, 32, 43, 32, 118, 32, 33]
  | 10 => [107, 32, 46]
  | 11 => [51, 32, 98, 101, 103, 105, 110, 32, 100, 117, 112, 32, 46, 32, 49, 32, 45, 32, 100, 117, 112, 32, 110, 111, 116, 32, 117, 110, 116, 105, 108, 32, 100, 114, 111, 112]
  | 12 => [39, 32, 97, 32, 101, 120, 101, 99, 117, 116, 101]
  | _ => [99, 114]
def bitWs : Nat → List Txt
  | 0 => [[49], [46]]
  | 1 => [[50], [51], [43], [46]]
  | 2 => [[53], [48], wDo, wI, [46], wLoop]
  | 3 => [[49], wIf, [55], [46], wElse, [56], [46], wThen]
  | 4 => [[48], wIf, [55], [46], wElse, [57], [46], wThen]
  | 5 => [[54, 53], wEmit]
  | 6 => [[97]]
  | 7 => [[98]]
  | 8 => [[118], [64], [46]]
  | 9 => [[118], [64], [49], [43], [118], [33]]
  | 10 => [[107], [46]]
  | 11 => [[51], wBegin, [100, 117, 112], [46], [49], [45], [100, 117, 112], [110, 111, 116], wUntil, [100, 114, 111, 112]]
  | 12 => [[39], [97], [101, 120, 101, 99, 117, 116, 101]]
  | _ => [[99, 114]]
theorem bit_split : ∀ j, j < 14 → L.split (bitTxt j) = bitWs j := by decide +kernel
/-- What a word means that is not bold. -/
def readCell (m : Mach) (s : Txt) : Cell := (meaning m s).getD ⟨0, 0, []⟩
/-- What a bit is read into. -/
def bitOf (m : Mach) : Nat → List Cell
  | 0 => [readCell m [49], readCell m [46]]
  | 1 => [readCell m [50], readCell m [51], readCell m [43], readCell m [46]]
  | 2 => [readCell m [53], readCell m [48], ⟨4, 0, wDo⟩, ⟨4, 0, wI⟩, readCell m [46], ⟨4, 0, wLoop⟩]
  | 3 => [readCell m [49], ⟨4, 0, wIf⟩, readCell m [55], readCell m [46], ⟨4, 0, wElse⟩, readCell m [56], readCell m [46], ⟨4, 0, wThen⟩]
  | 4 => [readCell m [48], ⟨4, 0, wIf⟩, readCell m [55], readCell m [46], ⟨4, 0, wElse⟩, readCell m [57], readCell m [46], ⟨4, 0, wThen⟩]
  | 5 => [readCell m [54, 53], readCell m wEmit]
  | 6 => [readCell m [97]]
  | 7 => [readCell m [98]]
  | 8 => [readCell m [118], readCell m [64], readCell m [46]]
  | 9 => [readCell m [118], readCell m [64], readCell m [49], readCell m [43], readCell m [118], readCell m [33]]
  | 10 => [readCell m [107], readCell m [46]]
  | 11 => [readCell m [51], ⟨4, 0, wBegin⟩, readCell m [100, 117, 112], readCell m [46], readCell m [49], readCell m [45], readCell m [100, 117, 112], readCell m [110, 111, 116], ⟨4, 0, wUntil⟩, readCell m [100, 114, 111, 112]]
  | 12 => [⟨1, 1000 + ((newest m [97]).getD 0 : Nat), []⟩, readCell m [101, 120, 101, 99, 117, 116, 101]]
  | _ => [readCell m [99, 114]]
/-- What it is at a, b, v, k. -/
def bitCells : Nat → List Cell
  | 0 => [⟨1, 1, []⟩, ⟨3, 0, [46]⟩]
  | 1 => [⟨1, 2, []⟩, ⟨1, 3, []⟩, ⟨3, 0, [43]⟩, ⟨3, 0, [46]⟩]
  | 2 => [⟨1, 5, []⟩, ⟨1, 0, []⟩, ⟨4, 0, wDo⟩, ⟨4, 0, wI⟩, ⟨3, 0, [46]⟩, ⟨4, 0, wLoop⟩]
  | 3 => [⟨1, 1, []⟩, ⟨4, 0, wIf⟩, ⟨1, 7, []⟩, ⟨3, 0, [46]⟩, ⟨4, 0, wElse⟩, ⟨1, 8, []⟩, ⟨3, 0, [46]⟩, ⟨4, 0, wThen⟩]
  | 4 => [⟨1, 0, []⟩, ⟨4, 0, wIf⟩, ⟨1, 7, []⟩, ⟨3, 0, [46]⟩, ⟨4, 0, wElse⟩, ⟨1, 9, []⟩, ⟨3, 0, [46]⟩, ⟨4, 0, wThen⟩]
  | 5 => [⟨1, 65, []⟩, ⟨3, 0, wEmit⟩]
  | 6 => [⟨2, 0, []⟩]
  | 7 => [⟨2, 1, []⟩]
  | 8 => [⟨2, 2, []⟩, ⟨3, 0, [64]⟩, ⟨3, 0, [46]⟩]
  | 9 => [⟨2, 2, []⟩, ⟨3, 0, [64]⟩, ⟨1, 1, []⟩, ⟨3, 0, [43]⟩, ⟨2, 2, []⟩, ⟨3, 0, [33]⟩]
  | 10 => [⟨2, 3, []⟩, ⟨3, 0, [46]⟩]
  | 11 => [⟨1, 3, []⟩, ⟨4, 0, wBegin⟩, ⟨3, 0, [100, 117, 112]⟩, ⟨3, 0, [46]⟩, ⟨1, 1, []⟩, ⟨3, 0, [45]⟩, ⟨3, 0, [100, 117, 112]⟩, ⟨3, 0, [110, 111, 116]⟩, ⟨4, 0, wUntil⟩, ⟨3, 0, [100, 114, 111, 112]⟩]
  | 12 => [⟨1, 1000, []⟩, ⟨3, 0, [101, 120, 101, 99, 117, 116, 101]⟩]
  | _ => [⟨3, 0, [99, 114]⟩]
theorem bit_laid (o : Txt) (S R : List Int) (st : Nat) : ∀ j, j < 14 → bitOf ⟨laidAll 3, S, R, o, st⟩ j = bitCells j := by
  intro j hj
  have h : j = 0 ∨ j = 1 ∨ j = 2 ∨ j = 3 ∨ j = 4 ∨ j = 5 ∨ j = 6 ∨ j = 7 ∨ j = 8 ∨ j = 9 ∨ j = 10 ∨ j = 11 ∨ j = 12 ∨ j = 13 := by omega
  rcases h with rfl | rfl | rfl | rfl | rfl | rfl | rfl | rfl | rfl | rfl | rfl | rfl | rfl | rfl <;> rfl

theorem means_prim (m : Mach) (s : Txt) (h : isPrim s = true) : meaning m s = some (readCell m s) := by
  unfold readCell meaning
  cases newest m s with
  | some k => rfl
  | none => simp only [h, if_true, Option.getD_some]
theorem means_num (m : Mach) (s : Txt) (x : Int) (h : L.number s = some x) : meaning m s = some (readCell m s) := by
  unfold readCell meaning
  cases newest m s with
  | some k => rfl
  | none => simp only [prim_of_number h, h, Bool.false_eq_true, if_false, Option.map_some, Option.getD_some]
theorem means_own (m : Mach) (s : Txt) (k : Nat) (h : newest m s = some k) : meaning m s = some (readCell m s) := by
  unfold readCell meaning
  rw [h]
  rfl
/-- a, b, v, k are there. -/
structure Known (m : Mach) : Prop where
  a : ∃ k, newest m [97] = some k
  b : ∃ k, newest m [98] = some k
  v : ∃ k, newest m [118] = some k
  k : ∃ k, newest m [107] = some k

def bitFuel : Nat → Nat
  | 12 => 2
  | j => (bitWs j).length
section
variable (m : Mach) (f p : Nat) (ws t : List Txt) (b : List Cell)

theorem read_bit0 (hd : ws.drop p = bitWs 0 ++ t) (hb : b.length + 10 ≤ 60) : reads m ws (f + 2) p [] b = reads m ws f (p + 2) [] (b ++ bitOf m 0) := by
  have h0 : ws.drop p = [49] :: [46] :: t := hd
  have h1 := drop_next h0
  rw [show f + 2 = f + 1 + 1 from rfl]
  rw [reads_cell (drop_get h0) rfl (means_num m _ 1 rfl) (by omega)]
  rw [reads_cell (drop_get h1) rfl (means_prim m _ rfl) (by simp; omega)]
  simp only [List.append_assoc]
  rfl
theorem read_bit1 (hd : ws.drop p = bitWs 1 ++ t) (hb : b.length + 10 ≤ 60) : reads m ws (f + 4) p [] b = reads m ws f (p + 4) [] (b ++ bitOf m 1) := by
  have h0 : ws.drop p = [50] :: [51] :: [43] :: [46] :: t := hd
  have h1 := drop_next h0
  have h2 := drop_next h1
  have h3 := drop_next h2
  rw [show f + 4 = f + 1 + 1 + 1 + 1 from rfl]
  rw [reads_cell (drop_get h0) rfl (means_num m _ 2 rfl) (by omega)]
  rw [reads_cell (drop_get h1) rfl (means_num m _ 3 rfl) (by simp; omega)]
  rw [reads_cell (drop_get h2) rfl (means_prim m _ rfl) (by simp; omega)]
  rw [reads_cell (drop_get h3) rfl (means_prim m _ rfl) (by simp; omega)]
  simp only [List.append_assoc]
  rfl
theorem read_bit2 (hd : ws.drop p = bitWs 2 ++ t) (hb : b.length + 10 ≤ 60) : reads m ws (f + 6) p [] b = reads m ws f (p + 6) [] (b ++ bitOf m 2) := by
  have h0 : ws.drop p = [53] :: [48] :: wDo :: wI :: [46] :: wLoop :: t := hd
  have h1 := drop_next h0
  have h2 := drop_next h1
  have h3 := drop_next h2
  have h4 := drop_next h3
  have h5 := drop_next h4
  rw [show f + 6 = f + 1 + 1 + 1 + 1 + 1 + 1 from rfl]
  rw [reads_cell (drop_get h0) rfl (means_num m _ 5 rfl) (by omega)]
  rw [reads_cell (drop_get h1) rfl (means_num m _ 0 rfl) (by simp; omega)]
  rw [reads_bold (o' := [wDo]) (drop_get h2) rfl rfl rfl rfl (by simp; omega)]
  rw [reads_bold (o' := [wDo]) (drop_get h3) rfl rfl rfl rfl (by simp; omega)]
  rw [reads_cell (drop_get h4) rfl (means_prim m _ rfl) (by simp; omega)]
  rw [reads_bold (o' := []) (drop_get h5) rfl rfl rfl rfl (by simp; omega)]
  simp only [List.append_assoc]
  rfl
theorem read_bit3 (hd : ws.drop p = bitWs 3 ++ t) (hb : b.length + 10 ≤ 60) : reads m ws (f + 8) p [] b = reads m ws f (p + 8) [] (b ++ bitOf m 3) := by
  have h0 : ws.drop p = [49] :: wIf :: [55] :: [46] :: wElse :: [56] :: [46] :: wThen :: t := hd
  have h1 := drop_next h0
  have h2 := drop_next h1
  have h3 := drop_next h2
  have h4 := drop_next h3
  have h5 := drop_next h4
  have h6 := drop_next h5
  have h7 := drop_next h6
  rw [show f + 8 = f + 1 + 1 + 1 + 1 + 1 + 1 + 1 + 1 from rfl]
  rw [reads_cell (drop_get h0) rfl (means_num m _ 1 rfl) (by omega)]
  rw [reads_bold (o' := [wIf]) (drop_get h1) rfl rfl rfl rfl (by simp; omega)]
  rw [reads_cell (drop_get h2) rfl (means_num m _ 7 rfl) (by simp; omega)]
  rw [reads_cell (drop_get h3) rfl (means_prim m _ rfl) (by simp; omega)]
  rw [reads_bold (o' := [wElse]) (drop_get h4) rfl rfl rfl rfl (by simp; omega)]
  rw [reads_cell (drop_get h5) rfl (means_num m _ 8 rfl) (by simp; omega)]
  rw [reads_cell (drop_get h6) rfl (means_prim m _ rfl) (by simp; omega)]
  rw [reads_bold (o' := []) (drop_get h7) rfl rfl rfl rfl (by simp; omega)]
  simp only [List.append_assoc]
  rfl
theorem read_bit4 (hd : ws.drop p = bitWs 4 ++ t) (hb : b.length + 10 ≤ 60) : reads m ws (f + 8) p [] b = reads m ws f (p + 8) [] (b ++ bitOf m 4) := by
  have h0 : ws.drop p = [48] :: wIf :: [55] :: [46] :: wElse :: [57] :: [46] :: wThen :: t := hd
  have h1 := drop_next h0
  have h2 := drop_next h1
  have h3 := drop_next h2
  have h4 := drop_next h3
  have h5 := drop_next h4
  have h6 := drop_next h5
  have h7 := drop_next h6
  rw [show f + 8 = f + 1 + 1 + 1 + 1 + 1 + 1 + 1 + 1 from rfl]
  rw [reads_cell (drop_get h0) rfl (means_num m _ 0 rfl) (by omega)]
  rw [reads_bold (o' := [wIf]) (drop_get h1) rfl rfl rfl rfl (by simp; omega)]
  rw [reads_cell (drop_get h2) rfl (means_num m _ 7 rfl) (by simp; omega)]
  rw [reads_cell (drop_get h3) rfl (means_prim m _ rfl) (by simp; omega)]
  rw [reads_bold (o' := [wElse]) (drop_get h4) rfl rfl rfl rfl (by simp; omega)]
  rw [reads_cell (drop_get h5) rfl (means_num m _ 9 rfl) (by simp; omega)]
  rw [reads_cell (drop_get h6) rfl (means_prim m _ rfl) (by simp; omega)]
  rw [reads_bold (o' := []) (drop_get h7) rfl rfl rfl rfl (by simp; omega)]
  simp only [List.append_assoc]
  rfl
theorem read_bit5 (hd : ws.drop p = bitWs 5 ++ t) (hb : b.length + 10 ≤ 60) : reads m ws (f + 2) p [] b = reads m ws f (p + 2) [] (b ++ bitOf m 5) := by
  have h0 : ws.drop p = [54, 53] :: wEmit :: t := hd
  have h1 := drop_next h0
  rw [show f + 2 = f + 1 + 1 from rfl]
  rw [reads_cell (drop_get h0) rfl (means_num m _ 65 rfl) (by omega)]
  rw [reads_cell (drop_get h1) rfl (means_prim m _ rfl) (by simp; omega)]
  simp only [List.append_assoc]
  rfl
theorem read_bit6 (hk : Known m) (hd : ws.drop p = bitWs 6 ++ t) (hb : b.length + 10 ≤ 60) : reads m ws (f + 1) p [] b = reads m ws f (p + 1) [] (b ++ bitOf m 6) := by
  obtain ⟨⟨ka, ha⟩, ⟨kb, hb'⟩, ⟨kv, hv⟩, ⟨kk, hkk⟩⟩ := hk
  have h0 : ws.drop p = [97] :: t := hd
  rw [show f + 1 = f + 1 from rfl]
  rw [reads_cell (drop_get h0) rfl (means_own m _ _ ha) (by omega)]
  rfl
theorem read_bit7 (hk : Known m) (hd : ws.drop p = bitWs 7 ++ t) (hb : b.length + 10 ≤ 60) : reads m ws (f + 1) p [] b = reads m ws f (p + 1) [] (b ++ bitOf m 7) := by
  obtain ⟨⟨ka, ha⟩, ⟨kb, hb'⟩, ⟨kv, hv⟩, ⟨kk, hkk⟩⟩ := hk
  have h0 : ws.drop p = [98] :: t := hd
  rw [show f + 1 = f + 1 from rfl]
  rw [reads_cell (drop_get h0) rfl (means_own m _ _ hb') (by omega)]
  rfl
theorem read_bit8 (hk : Known m) (hd : ws.drop p = bitWs 8 ++ t) (hb : b.length + 10 ≤ 60) : reads m ws (f + 3) p [] b = reads m ws f (p + 3) [] (b ++ bitOf m 8) := by
  obtain ⟨⟨ka, ha⟩, ⟨kb, hb'⟩, ⟨kv, hv⟩, ⟨kk, hkk⟩⟩ := hk
  have h0 : ws.drop p = [118] :: [64] :: [46] :: t := hd
  have h1 := drop_next h0
  have h2 := drop_next h1
  rw [show f + 3 = f + 1 + 1 + 1 from rfl]
  rw [reads_cell (drop_get h0) rfl (means_own m _ _ hv) (by omega)]
  rw [reads_cell (drop_get h1) rfl (means_prim m _ rfl) (by simp; omega)]
  rw [reads_cell (drop_get h2) rfl (means_prim m _ rfl) (by simp; omega)]
  simp only [List.append_assoc]
  rfl
theorem read_bit9 (hk : Known m) (hd : ws.drop p = bitWs 9 ++ t) (hb : b.length + 10 ≤ 60) : reads m ws (f + 6) p [] b = reads m ws f (p + 6) [] (b ++ bitOf m 9) := by
  obtain ⟨⟨ka, ha⟩, ⟨kb, hb'⟩, ⟨kv, hv⟩, ⟨kk, hkk⟩⟩ := hk
  have h0 : ws.drop p = [118] :: [64] :: [49] :: [43] :: [118] :: [33] :: t := hd
  have h1 := drop_next h0
  have h2 := drop_next h1
  have h3 := drop_next h2
  have h4 := drop_next h3
  have h5 := drop_next h4
  rw [show f + 6 = f + 1 + 1 + 1 + 1 + 1 + 1 from rfl]
  rw [reads_cell (drop_get h0) rfl (means_own m _ _ hv) (by omega)]
  rw [reads_cell (drop_get h1) rfl (means_prim m _ rfl) (by simp; omega)]
  rw [reads_cell (drop_get h2) rfl (means_num m _ 1 rfl) (by simp; omega)]
  rw [reads_cell (drop_get h3) rfl (means_prim m _ rfl) (by simp; omega)]
  rw [reads_cell (drop_get h4) rfl (means_own m _ _ hv) (by simp; omega)]
  rw [reads_cell (drop_get h5) rfl (means_prim m _ rfl) (by simp; omega)]
  simp only [List.append_assoc]
  rfl
theorem read_bit10 (hk : Known m) (hd : ws.drop p = bitWs 10 ++ t) (hb : b.length + 10 ≤ 60) : reads m ws (f + 2) p [] b = reads m ws f (p + 2) [] (b ++ bitOf m 10) := by
  obtain ⟨⟨ka, ha⟩, ⟨kb, hb'⟩, ⟨kv, hv⟩, ⟨kk, hkk⟩⟩ := hk
  have h0 : ws.drop p = [107] :: [46] :: t := hd
  have h1 := drop_next h0
  rw [show f + 2 = f + 1 + 1 from rfl]
  rw [reads_cell (drop_get h0) rfl (means_own m _ _ hkk) (by omega)]
  rw [reads_cell (drop_get h1) rfl (means_prim m _ rfl) (by simp; omega)]
  simp only [List.append_assoc]
  rfl
theorem read_bit11 (hd : ws.drop p = bitWs 11 ++ t) (hb : b.length + 10 ≤ 60) : reads m ws (f + 10) p [] b = reads m ws f (p + 10) [] (b ++ bitOf m 11) := by
  have h0 : ws.drop p = [51] :: wBegin :: [100, 117, 112] :: [46] :: [49] :: [45] :: [100, 117, 112] :: [110, 111, 116] :: wUntil :: [100, 114, 111, 112] :: t := hd
  have h1 := drop_next h0
  have h2 := drop_next h1
  have h3 := drop_next h2
  have h4 := drop_next h3
  have h5 := drop_next h4
  have h6 := drop_next h5
  have h7 := drop_next h6
  have h8 := drop_next h7
  have h9 := drop_next h8
  rw [show f + 10 = f + 1 + 1 + 1 + 1 + 1 + 1 + 1 + 1 + 1 + 1 from rfl]
  rw [reads_cell (drop_get h0) rfl (means_num m _ 3 rfl) (by omega)]
  rw [reads_bold (o' := [wBegin]) (drop_get h1) rfl rfl rfl rfl (by simp; omega)]
  rw [reads_cell (drop_get h2) rfl (means_prim m _ rfl) (by simp; omega)]
  rw [reads_cell (drop_get h3) rfl (means_prim m _ rfl) (by simp; omega)]
  rw [reads_cell (drop_get h4) rfl (means_num m _ 1 rfl) (by simp; omega)]
  rw [reads_cell (drop_get h5) rfl (means_prim m _ rfl) (by simp; omega)]
  rw [reads_cell (drop_get h6) rfl (means_prim m _ rfl) (by simp; omega)]
  rw [reads_cell (drop_get h7) rfl (means_prim m _ rfl) (by simp; omega)]
  rw [reads_bold (o' := []) (drop_get h8) rfl rfl rfl rfl (by simp; omega)]
  rw [reads_cell (drop_get h9) rfl (means_prim m _ rfl) (by simp; omega)]
  simp only [List.append_assoc]
  rfl
theorem read_bit12 (hk : Known m) (hd : ws.drop p = bitWs 12 ++ t) (hb : b.length + 10 ≤ 60) : reads m ws (f + 2) p [] b = reads m ws f (p + 3) [] (b ++ bitOf m 12) := by
  obtain ⟨⟨ka, ha⟩, ⟨kb, hb'⟩, ⟨kv, hv⟩, ⟨kk, hkk⟩⟩ := hk
  have h0 : ws.drop p = [39] :: [97] :: [101, 120, 101, 99, 117, 116, 101] :: t := hd
  have h1 := drop_next h0
  have h2 := drop_next h1
  rw [show f + 2 = f + 1 + 1 from rfl, reads_tok (t := [97]) (drop_get h0) (drop_get h1) rfl ha (by omega), reads_cell (drop_get h2) rfl (means_prim m _ rfl) (by simp; omega)]
  unfold bitOf
  rw [ha, List.append_assoc]
  rfl
theorem read_bit13 (hd : ws.drop p = bitWs 13 ++ t) (hb : b.length + 10 ≤ 60) : reads m ws (f + 1) p [] b = reads m ws f (p + 1) [] (b ++ bitOf m 13) := by
  have h0 : ws.drop p = [99, 114] :: t := hd
  rw [show f + 1 = f + 1 from rfl]
  rw [reads_cell (drop_get h0) rfl (means_prim m _ rfl) (by omega)]
  rfl
end
theorem read_bit (m : Mach) (hk : Known m) (j : Nat) (hj : j < 14) (f p : Nat) (ws t : List Txt) (b : List Cell) (hd : ws.drop p = bitWs j ++ t) (hb : b.length + 10 ≤ 60) : reads m ws (f + bitFuel j) p [] b = reads m ws f (p + (bitWs j).length) [] (b ++ bitOf m j) := by
  have h : j = 0 ∨ j = 1 ∨ j = 2 ∨ j = 3 ∨ j = 4 ∨ j = 5 ∨ j = 6 ∨ j = 7 ∨ j = 8 ∨ j = 9 ∨ j = 10 ∨ j = 11 ∨ j = 12 ∨ j = 13 := by omega
  rcases h with rfl | rfl | rfl | rfl | rfl | rfl | rfl | rfl | rfl | rfl | rfl | rfl | rfl | rfl
  · exact read_bit0 m f p ws t b hd hb
  · exact read_bit1 m f p ws t b hd hb
  · exact read_bit2 m f p ws t b hd hb
  · exact read_bit3 m f p ws t b hd hb
  · exact read_bit4 m f p ws t b hd hb
  · exact read_bit5 m f p ws t b hd hb
  · exact read_bit6 m f p ws t b hk hd hb
  · exact read_bit7 m f p ws t b hk hd hb
  · exact read_bit8 m f p ws t b hk hd hb
  · exact read_bit9 m f p ws t b hk hd hb
  · exact read_bit10 m f p ws t b hk hd hb
  · exact read_bit11 m f p ws t b hd hb
  · exact read_bit12 m f p ws t b hk hd hb
  · exact read_bit13 m f p ws t b hd hb
theorem bit_len (m : Mach) : ∀ j, (bitOf m j).length ≤ 10 := fun j => by unfold bitOf; split <;> simp
theorem bitTxt_len : ∀ j, (bitTxt j).length ≤ 36 := fun j => by unfold bitTxt; split <;> simp
theorem bitWs_len : ∀ j, (bitWs j).length ≤ 10 := fun j => by unfold bitWs; split <;> simp
theorem bitFuel_len : ∀ j, bitFuel j ≤ (bitWs j).length := fun j => by
  unfold bitFuel
  split
  · decide
  · exact Nat.le_refl _

def bitsTxt : List Nat → Txt
  | [] => []
  | j :: js => 32 :: (bitTxt j ++ bitsTxt js)
def bitsWs (js : List Nat) : List Txt := js.flatMap bitWs
def bitsFuel : List Nat → Nat
  | [] => 0
  | j :: js => bitsFuel js + bitFuel j
theorem bitsFuel_len : ∀ js, bitsFuel js ≤ (bitsWs js).length
  | [] => Nat.zero_le _
  | j :: js => by
    have h1 := bitsFuel_len js
    have h2 := bitFuel_len j
    simp only [bitsFuel, bitsWs, List.flatMap_cons, List.length_append] at h1 ⊢
    omega
theorem read_bits (m : Mach) (hk : Known m) : ∀ (js : List Nat) (f p : Nat) (ws t : List Txt) (b : List Cell), (∀ j ∈ js, j < 14) → ws.drop p = bitsWs js ++ t → b.length + 10 * js.length ≤ 60 → reads m ws (f + bitsFuel js) p [] b = reads m ws f (p + (bitsWs js).length) [] (b ++ js.flatMap (bitOf m))
  | [], f, p, ws, t, b, _, _, _ => by simp [bitsFuel, bitsWs]
  | j :: js, f, p, ws, t, b, hj, hd, hb => by
    have e : bitsWs (j :: js) = bitWs j ++ bitsWs js := rfl
    rw [e, List.append_assoc] at hd
    simp only [List.length_cons] at hb
    have h1 := read_bit m hk j (hj j (by simp)) (f + bitsFuel js) p ws _ b hd (by omega)
    have hl := bit_len m j
    have hd2 : ws.drop (p + (bitWs j).length) = bitsWs js ++ t := by rw [← List.drop_drop, hd, List.drop_left]
    have h2 := read_bits m hk js f (p + (bitWs j).length) ws t (b ++ bitOf m j) (fun x hx => hj x (by simp [hx])) hd2 (by simp only [List.length_append]; omega)
    rw [e, List.length_append, show bitsFuel (j :: js) = bitsFuel js + bitFuel j from rfl, ← Nat.add_assoc, h1, h2]
    simp only [List.flatMap_cons, List.append_assoc, Nat.add_assoc]
theorem bits_split : ∀ (js : List Nat) (x y : Txt), (∀ j ∈ js, j < 14) → L.split (x ++ (bitsTxt js ++ 32 :: y)) = L.split x ++ bitsWs js ++ L.split y
  | [], x, y, _ => by
    show L.split (x ++ 32 :: y) = _
    rw [split_blank 32 (by decide)]
    simp [bitsWs]
  | j :: js, x, y, hj => by
    have e : x ++ (bitsTxt (j :: js) ++ 32 :: y) = x ++ 32 :: (bitTxt j ++ (bitsTxt js ++ 32 :: y)) := by simp [bitsTxt]
    rw [e, split_blank 32 (by decide), bits_split js (bitTxt j) y fun x hx => hj x (by simp [hx]), bit_split j (hj j (by simp))]
    simp only [bitsWs, List.flatMap_cons, List.append_assoc]
theorem bitsTxt_len : ∀ js, (bitsTxt js).length ≤ 37 * js.length
  | [] => Nat.zero_le _
  | j :: js => by
    have h1 := bitsTxt_len js
    have h2 := bitTxt_len j
    simp only [bitsTxt, List.length_cons, List.length_append]
    omega
theorem bitsWs_len : ∀ js, (bitsWs js).length ≤ 10 * js.length
  | [] => Nat.zero_le _
  | j :: js => by
    have h1 := bitsWs_len js
    have h2 := bitWs_len j
    simp only [bitsWs, List.flatMap_cons, List.length_cons, List.length_append] at h1 ⊢
    omega

theorem count_le (m : Mach) : count m ≤ m.all.length := List.length_filter_le _ _
/-- A definition of bits, among the words of a line. -/
theorem one_def (m : Mach) (hk : Known m) (js : List Nat) (nm : Txt) (p : Nat) (ws t : List Txt) (hj : ∀ j ∈ js, j < 14) (hn : js.length ≤ 6) (hd : ws.drop p = [58] :: nm :: (bitsWs js ++ [59] :: t)) (hf : nameFits nm = true) (hb : L.isBold nm = false) (hc : m.all.length < 40) :
    one m ws p [58] = ({ m with all := m.all ++ [⟨nm, 1, 0, js.flatMap (bitOf m), true, false⟩] }, 0, 0, p + (bitsWs js).length + 3) := by
  have h1 := drop_next hd
  have h2 := drop_next h1
  have hcm := count_le m
  have e1 : nameErr m (some nm) true = 0 := by
    unfold nameErr
    simp only [hb, hf, Bool.not_true, Bool.and_false, Bool.or_self, Bool.false_eq_true, if_false, true_and]
    rw [if_neg (by omega)]
  have hlen : (bitsWs js).length + 1 ≤ ws.length := by
    have := congrArg List.length h2
    simp only [List.length_drop, List.length_append, List.length_cons] at this
    omega
  have hfu := bitsFuel_len js
  have hr : reads m ws (ws.length + 1) (p + 2) [] [] = (js.flatMap (bitOf m), 0, 0, p + 2 + (bitsWs js).length + 1) := by
    rw [show ws.length + 1 = (ws.length - bitsFuel js) + 1 + bitsFuel js by omega, read_bits m hk js _ (p + 2) ws _ [] hj h2 (by simp; omega)]
    have h3 : ws.drop (p + 2 + (bitsWs js).length) = [59] :: t := by rw [← List.drop_drop, show ws.drop (p + 2) = _ from h2, List.drop_left]
    rw [reads_end (drop_get h3), List.nil_append]
  have e2 : one m ws p [58] = (if nameErr m ws[p + 1]? true ≠ 0 then (m, nameErr m ws[p + 1]? true, p, p + 2) else
     ({ m with all := m.all ++ [⟨(ws[p + 1]?).getD [], 1, 0, (reads m ws (ws.length + 1) (p + 2) [] []).1, (reads m ws (ws.length + 1) (p + 2) [] []).2.1 == 0, false⟩] }, (reads m ws (ws.length + 1) (p + 2) [] []).2.1, (reads m ws (ws.length + 1) (p + 2) [] []).2.2.1, (reads m ws (ws.length + 1) (p + 2) [] []).2.2.2)) := rfl
  rw [e2, drop_get h1, e1, hr]
  simp only [ne_eq, not_true_eq_false, if_false, Option.getD_some, beq_self_eq_true]
  congr 3
  omega
end N
end Go.Proofs.YtgnlokmeohffaaaDoor
/- The bits of which bodies are made: done, whatever was made behind a, b, v, k. -/
namespace Go.Proofs.YtgnlokmeohffaaaDoor
namespace N
open Go.RowKit

theorem back_skip {l : List Cell} {o : Txt} {s : List Txt} {i : Nat} {d : Int} {c : Cell} (h : l[i]? = some c) (hk : c.kind ≠ 4) : backOf l o s (i + 1) d = backOf l o s i d := by
  rw [backOf, h]
  exact if_pos hk
theorem back_hit {l : List Cell} {o : Txt} {s : List Txt} {i : Nat} {n : Int} (h : l[i]? = some ⟨4, n, o⟩) : backOf l o s (i + 1) 0 = i + 1 := by
  rw [backOf, h]
  show (if (4 : Nat) ≠ 4 then _ else if (o == o) = true ∧ (0 : Int) = 0 then i + 1 else _) = _
  rw [if_neg (by simp), if_pos ⟨by simp, rfl⟩]
theorem back_other {l : List Cell} {o nm : Txt} {s : List Txt} {i : Nat} {n d : Int} (h : l[i]? = some ⟨4, n, nm⟩) (h1 : (nm == o) = false) (h2 : (s.any fun b => nm == b) = false) : backOf l o s (i + 1) d = backOf l o s i d := by
  rw [backOf, h]
  simp only [h1, h2]
  simp

section
variable {f p st k d : Nat} {all : List Ent} {S R : List Int} {out : Txt} {l : List Cell} {r : List (Int × Int)} {t : List Cell} {a b : Int}

theorem do_ok (h : b < a) : rounds ⟨all, S ++ [a] ++ [b], R, out, st⟩ l p wDo r = (⟨all, S, R, out, st⟩, p + 1, r ++ [(a, b)], 0) := by
  unfold rounds
  have e1 : (S ++ [a] ++ [b]).length = S.length + 2 := by simp
  have e2 : (S ++ [a] ++ [b]).getD (S.length + 2 - 1) 0 = b := by simp [List.getD_eq_getElem?_getD]
  have e3 : (S ++ [a] ++ [b]).getD (S.length + 2 - 2) 0 = a := by simp [List.getD_eq_getElem?_getD]
  have e4 : (S ++ [a] ++ [b]).take (S.length + 2 - 2) = S := by simp
  simp only [e1, e2, e3, e4, show (wDo == wDo) = true from rfl, if_true]
  rw [if_neg (by omega), if_neg (by omega)]
theorem loop_on {i : Int} {q : Nat} (hm : modest (i + 1)) (h : i + 1 < b) (hq : backOf l wDo [wLoop] p 0 = q) : rounds ⟨all, S, R, out, st⟩ l p wLoop [(b, i)] = (⟨all, S, R, out, st⟩, q, [(b, i + 1)], 0) := by
  show (if wrap64 (i + 1) < b then _ else _) = _
  rw [wrap_small hm, if_pos h]
  show (_, backOf l wDo [wLoop] p 0, [(b, wrap64 (i + 1))], _) = _
  rw [wrap_small hm, hq]
theorem loop_end {i : Int} (hm : modest (i + 1)) (h : ¬ i + 1 < b) : rounds ⟨all, S, R, out, st⟩ l p wLoop [(b, i)] = (⟨all, S, R, out, st⟩, p + 1, [], 0) := by
  show (if wrap64 (i + 1) < b then _ else _) = _
  rw [wrap_small hm, if_neg h]
  rfl
theorem pop_ok : pop ⟨all, S ++ [a], R, out, st⟩ = some (⟨all, S, R, out, st⟩, a) := by
  unfold pop
  simp

/-- A number, and it is told. -/
theorem num_tell {n : Int} (hx : modest n) (h1 : l.drop p = ⟨1, n, []⟩ :: ⟨3, 0, [46]⟩ :: t) (hS : S.length ≤ 12) (hR : R.length ≤ 16) (ho : out.length + 4 ≤ 300) (hs : st + 2 ≤ 1000) :
    body (f + 2) ⟨all, S, R, out, st⟩ k l d p r = body f ⟨all, S, R, out ++ (Lib.itoa n ++ [32]), st + 2⟩ k l d (p + 2) r := by
  rw [show f + 2 = f + 1 + 1 from rfl, body_number (drop_get h1) (by omega) (by omega), body_prim (drop_get (drop_next h1)) (by omega) (dot_ok n hx (by omega) hR ho)]

/-- A round of '5 0 do i . loop', behind the do. -/
theorem count_round {i : Int} (hi : 0 ≤ i) (hi5 : i < 5) (h2 : l.drop p = ⟨4, 0, wDo⟩ :: ⟨4, 0, wI⟩ :: ⟨3, 0, [46]⟩ :: ⟨4, 0, wLoop⟩ :: t) (hS : S.length ≤ 12) (hR : R.length ≤ 16) (ho : out.length + 4 ≤ 300) (hs : st + 3 ≤ 1000) :
    body (f + 3) ⟨all, S, R, out, st⟩ k l d (p + 1) [(5, i)] = if i + 1 < 5 then body f ⟨all, S, R, out ++ (Lib.itoa i ++ [32]), st + 3⟩ k l d (p + 1) [(5, i + 1)] else body f ⟨all, S, R, out ++ (Lib.itoa i ++ [32]), st + 3⟩ k l d (p + 4) [] := by
  have h3 := drop_next h2
  have h4 := drop_next h3
  have h5 := drop_next h4
  have hm : modest i := ⟨by omega, by omega⟩
  have hm1 : modest (i + 1) := ⟨by omega, by omega⟩
  rw [show f + 3 = f + 1 + 1 + 1 from rfl, body_rounds (s := wI) (drop_get h3) rfl rfl rfl (by omega) (i_ok (by omega)), body_prim (drop_get h4) (by omega) (dot_ok i hm (by omega) hR ho)]
  by_cases h : i + 1 < 5
  · rw [if_pos h]
    have hq : backOf l wDo [wLoop] (p + 1 + 1 + 1) 0 = p + 1 := by
      rw [back_skip (drop_get h4) (by simp), back_other (drop_get h3) rfl rfl, back_hit (drop_get h2)]
    exact body_rounds (s := wLoop) (drop_get h5) rfl rfl rfl (by omega) (loop_on hm1 h hq)
  · rw [if_neg h]
    exact body_rounds (s := wLoop) (drop_get h5) rfl rfl rfl (by omega) (loop_end hm1 h)

/-- A round of 'begin dup . 1 - dup not until', behind the begin. -/
theorem down_round {x : Int} (hx : 1 ≤ x) (hx2 : x ≤ 3) (h1 : l.drop p = ⟨4, 0, wBegin⟩ :: ⟨3, 0, [100, 117, 112]⟩ :: ⟨3, 0, [46]⟩ :: ⟨1, 1, []⟩ :: ⟨3, 0, [45]⟩ :: ⟨3, 0, [100, 117, 112]⟩ :: ⟨3, 0, [110, 111, 116]⟩ :: ⟨4, 0, wUntil⟩ :: t) (hS : S.length ≤ 11) (hR : R.length ≤ 16) (ho : out.length + 4 ≤ 300) (hs : st + 7 ≤ 1000) :
    body (f + 7) ⟨all, S ++ [x], R, out, st⟩ k l d (p + 1) [] = if x = 1 then body f ⟨all, S ++ [0], R, out ++ (Lib.itoa x ++ [32]), st + 7⟩ k l d (p + 8) [] else body f ⟨all, S ++ [x - 1], R, out ++ (Lib.itoa x ++ [32]), st + 7⟩ k l d (p + 1) [] := by
  have h2 := drop_next h1
  have h3 := drop_next h2
  have h4 := drop_next h3
  have h5 := drop_next h4
  have h6 := drop_next h5
  have h7 := drop_next h6
  have h8 := drop_next h7
  have hm : modest x := ⟨by omega, by omega⟩
  have hl := modest_len x hm
  have hw : wrap64 (x - 1) = x - 1 := wrap_small ⟨by omega, by omega⟩
  rw [show f + 7 = f + 1 + 1 + 1 + 1 + 1 + 1 + 1 from rfl, body_prim (drop_get h2) (by omega) (dup_ok (by omega) hR (by omega))]
  rw [show S ++ [x, x] = (S ++ [x]) ++ [x] by simp, body_prim (drop_get h3) (by omega) (dot_ok x hm (by simp; omega) hR ho)]
  have ho2 : (out ++ (Lib.itoa x ++ [32])).length ≤ 300 := by simp only [List.length_append, List.length_cons, List.length_nil]; omega
  generalize out ++ (Lib.itoa x ++ [32]) = o at *
  rw [body_number (drop_get h4) (by omega) (by simp; omega)]
  rw [show S ++ [x] ++ [1] = S ++ [x, 1] by simp, body_prim (drop_get h5) (by omega) (minus_ok (by omega) hR ho2), hw]
  rw [body_prim (drop_get h6) (by omega) (dup_ok (by omega) hR ho2)]
  rw [show S ++ [x - 1, x - 1] = (S ++ [x - 1]) ++ [x - 1] by simp, body_prim (drop_get h7) (by omega) (not_ok (by simp; omega) hR ho2)]
  by_cases h : x = 1
  · rw [if_pos h]
    refine body_ways (s := wUntil) (drop_get h8) rfl rfl rfl (by omega) ?_
    subst h
    unfold ways
    rw [show L.truth ((1 : Int) - 1 == 0) = -1 from rfl, pop_ok]
    rfl
  · rw [if_neg h]
    refine body_ways (s := wUntil) (drop_get h8) rfl rfl rfl (by omega) ?_
    unfold ways
    have e : L.truth (x - 1 == 0) = 0 := by
      unfold L.truth
      rw [if_neg (by simp; omega)]
    rw [e, pop_ok]
    show ((⟨all, S ++ [x - 1], R, o, st + 1 + 1 + 1 + 1 + 1 + 1 + 1⟩ : Mach), backOf l wBegin ends (p + 1 + 1 + 1 + 1 + 1 + 1 + 1) 0, (0 : Int)) = _
    rw [back_skip (drop_get h7) (by simp), back_skip (drop_get h6) (by simp), back_skip (drop_get h5) (by simp), back_skip (drop_get h4) (by simp), back_skip (drop_get h3) (by simp), back_skip (drop_get h2) (by simp), back_hit (drop_get h1)]
end

def bitTells (j : Nat) (n : Int) : Txt := match j with
  | 0 => [49, 32]
  | 1 => [53, 32]
  | 2 => [48, 32, 49, 32, 50, 32, 51, 32, 52, 32]
  | 3 => [55, 32]
  | 4 => [57, 32]
  | 5 => [65]
  | 6 => [97]
  | 7 => [97, 98]
  | 8 => Lib.itoa n ++ [32]
  | 9 => []
  | 10 => [52, 48, 32]
  | 11 => [51, 32, 50, 32, 49, 32]
  | 12 => [97]
  | _ => [10]
def bitV (j : Nat) (n : Int) : Int := if j = 9 then wrap64 (n + 1) else n
/-- How many words of it are come to; and of all that it leads to. -/
def bitOwn : Nat → Nat
  | 0 => 2
  | 1 => 4
  | 2 => 18
  | 3 => 5
  | 4 => 5
  | 5 => 2
  | 6 => 1
  | 7 => 1
  | 8 => 3
  | 9 => 6
  | 10 => 2
  | 11 => 24
  | 12 => 2
  | _ => 1
def bitCost : Nat → Nat
  | 6 => 3
  | 7 => 6
  | 12 => 4
  | j => bitOwn j
end N
end Go.Proofs.YtgnlokmeohffaaaDoor
/- The bits of which bodies are made, one and many: done, whatever was made behind a, b, v, k. -/
namespace Go.Proofs.YtgnlokmeohffaaaDoor
namespace N
open Go.RowKit

def fitsInt (n : Int) : Prop := -9223372036854775808 ≤ n ∧ n ≤ 9223372036854775807
theorem fits_len {n : Int} (h : fitsInt n) : (Lib.itoa n).length ≤ 20 := by
  obtain ⟨h0, h1⟩ := h
  unfold Lib.itoa
  split
  · have := dec_len n.natAbs (by omega)
    simp; omega
  · have := dec_len n.toNat (by omega)
    omega
theorem fits_wrap (n : Int) : fitsInt (wrap64 n) := by unfold fitsInt wrap64; omega
theorem bitV_fits {n : Int} (h : fitsInt n) (j : Nat) : fitsInt (bitV j n) := by
  unfold bitV
  split
  · exact fits_wrap _
  · exact h
theorem bitTells_len {n : Int} (h : fitsInt n) (j : Nat) : (bitTells j n).length ≤ 21 := by
  have := fits_len h
  unfold bitTells
  split <;> simp only [List.length_append, List.length_cons, List.length_nil] <;> omega

section
variable {f p st k d : Nat} {rest : List Ent} {S R : List Int} {out : Txt} {l : List Cell} {t : List Cell} {n : Int}

theorem exec_ok : prim ⟨laidAll n ++ rest, S ++ [1000], R, out, st⟩ [101, 120, 101, 99, 117, 116, 101] = (⟨laidAll n ++ rest, S, R, out, st⟩, 0, some 0) ∨ ¬ (S.length ≤ 16 ∧ R.length ≤ 16 ∧ out.length ≤ 300) := by
  by_cases h : S.length ≤ 16 ∧ R.length ≤ 16 ∧ out.length ≤ 300
  · left
    rw [prim_ok [101, 120, 101, 99, 117, 116, 101] [1000] 1 0 0 0 rfl rfl (Nat.zero_le _) rfl h.1 h.2.1 h.2.2]
    show (does ⟨laidAll n ++ rest, S ++ [1000], R, out ++ [], st⟩ [101, 120, 101, 99, 117, 116, 101] [1000] S, (0 : Int), some 0) = _
    rw [List.append_nil]
    rfl
  · exact .inr h

theorem do_bit (j : Nat) (hj : j < 14) (hn : fitsInt n) (hd : l.drop p = bitCells j ++ t) (hS : S.length ≤ 10) (hR : R.length ≤ 16) (ho : out.length + 21 ≤ 300) (hs : st + 30 ≤ 1000) (hdp : d ≤ 9) (hf : 10 ≤ f) :
    body (f + bitOwn j) ⟨laidAll n ++ rest, S, R, out, st⟩ k l d p [] = body f ⟨laidAll (bitV j n) ++ rest, S, R, out ++ bitTells j n, st + bitCost j⟩ k l d (p + (bitCells j).length) [] := by
  have h : j = 0 ∨ j = 1 ∨ j = 2 ∨ j = 3 ∨ j = 4 ∨ j = 5 ∨ j = 6 ∨ j = 7 ∨ j = 8 ∨ j = 9 ∨ j = 10 ∨ j = 11 ∨ j = 12 ∨ j = 13 := by omega
  rcases h with rfl | rfl | rfl | rfl | rfl | rfl | rfl | rfl | rfl | rfl | rfl | rfl | rfl | rfl
  · have e := num_tell (f := f) (k := k) (d := d) (r := []) (all := laidAll n ++ rest) (R := R) (st := st) (n := 1) ⟨by omega, by omega⟩ hd (by omega) hR (show out.length + 4 ≤ 300 by omega) (by omega) (S := S)
    rw [show Lib.itoa 1 = [49] by decide +kernel] at e
    exact e
  · have h0 : l.drop p = ⟨1, 2, []⟩ :: ⟨1, 3, []⟩ :: ⟨3, 0, [43]⟩ :: ⟨3, 0, [46]⟩ :: t := hd
    have h1 := drop_next h0
    have h2 := drop_next h1
    have h3 := drop_next h2
    show body (f + 1 + 1 + 1 + 1) _ k l d p [] = _
    rw [body_number (drop_get h0) (by omega) (by omega), body_number (drop_get h1) (by omega) (by simp; omega), show S ++ [2] ++ [3] = S ++ [2, 3] by simp, body_prim (drop_get h2) (by omega) (plus_ok (by omega) hR (by omega)), show wrap64 (2 + 3) = 5 by decide +kernel, body_prim (drop_get h3) (by omega) (dot_ok 5 ⟨by omega, by omega⟩ (by omega) hR (by omega)), show Lib.itoa 5 = [53] by decide +kernel]
    rfl
  · have h0 : l.drop p = ⟨1, 5, []⟩ :: ⟨1, 0, []⟩ :: ⟨4, 0, wDo⟩ :: ⟨4, 0, wI⟩ :: ⟨3, 0, [46]⟩ :: ⟨4, 0, wLoop⟩ :: t := hd
    have h1 := drop_next h0
    have h2 := drop_next h1
    show body (f + 3 + 3 + 3 + 3 + 3 + 1 + 1 + 1) _ k l d p [] = _
    rw [body_number (drop_get h0) (by omega) (by omega), body_number (drop_get h1) (by omega) (by simp; omega), body_rounds (s := wDo) (drop_get h2) rfl rfl rfl (by omega) (do_ok (by omega))]
    have q0 : Lib.itoa 0 = [48] := by decide +kernel
    have q1 : Lib.itoa 1 = [49] := by decide +kernel
    have q2 : Lib.itoa 2 = [50] := by decide +kernel
    have q3 : Lib.itoa 3 = [51] := by decide +kernel
    have q4 : Lib.itoa 4 = [52] := by decide +kernel
    show body (f + 3 + 3 + 3 + 3 + 3) _ k l d (p + 1 + 1 + 1) [(5, 0)] = _
    rw [count_round (i := 0) (by omega) (by omega) h2 (by omega) hR (by omega) (by omega), if_pos (by omega), q0]
    rw [count_round (i := 0 + 1) (by omega) (by omega) h2 (by omega) hR (by simp; omega) (by omega), if_pos (by omega), show (0 : Int) + 1 = 1 from rfl, q1]
    rw [count_round (i := 1 + 1) (by omega) (by omega) h2 (by omega) hR (by simp; omega) (by omega), if_pos (by omega), show (1 : Int) + 1 = 2 from rfl, q2]
    rw [count_round (i := 2 + 1) (by omega) (by omega) h2 (by omega) hR (by simp; omega) (by omega), if_pos (by omega), show (2 : Int) + 1 = 3 from rfl, q3]
    rw [count_round (i := 3 + 1) (by omega) (by omega) h2 (by omega) hR (by simp; omega) (by omega), if_neg (by omega), show (3 : Int) + 1 = 4 from rfl, q4]
    simp only [List.append_assoc]
    rfl
  · have h0 : l.drop p = ⟨1, 1, []⟩ :: ⟨4, 0, wIf⟩ :: ⟨1, 7, []⟩ :: ⟨3, 0, [46]⟩ :: ⟨4, 0, wElse⟩ :: ⟨1, 8, []⟩ :: ⟨3, 0, [46]⟩ :: ⟨4, 0, wThen⟩ :: t := hd
    have h1 := drop_next h0
    have h2 := drop_next h1
    have h3 := drop_next h2
    have h4 := drop_next h3
    have h5 := drop_next h4
    show body (f + 1 + 2 + 1 + 1) _ k l d p [] = _
    have w1 : ways ⟨laidAll n ++ rest, S ++ [1], R, out, st + 1 + 1⟩ l (p + 1) wIf = (⟨laidAll n ++ rest, S, R, out, st + 1 + 1⟩, p + 1 + 1, 0) := by
      unfold ways
      rw [pop_ok]
      rfl
    rw [body_number (drop_get h0) (by omega) (by omega), body_ways (s := wIf) (drop_get h1) rfl rfl rfl (by omega) w1, num_tell (n := 7) ⟨by omega, by omega⟩ h2 (by omega) hR (by omega) (by omega), show Lib.itoa 7 = [55] by decide +kernel]
    have w2 : ways ⟨laidAll n ++ rest, S, R, out ++ ([55] ++ [32]), st + 1 + 1 + 2 + 1⟩ l (p + 1 + 1 + 2) wElse = (⟨laidAll n ++ rest, S, R, out ++ ([55] ++ [32]), st + 1 + 1 + 2 + 1⟩, p + 8, 0) := by
      show ((⟨laidAll n ++ rest, S, R, out ++ ([55] ++ [32]), st + 1 + 1 + 2 + 1⟩ : Mach), aheadOf wIf [wThen] [wThen] (l.drop (p + 1 + 1 + 1 + 1 + 1)) (p + 1 + 1 + 1 + 1 + 1) 0, (0 : Int)) = _
      rw [h5]
      rfl
    rw [body_ways (s := wElse) (drop_get h4) rfl rfl rfl (by omega) w2]
    rfl
  · have h0 : l.drop p = ⟨1, 0, []⟩ :: ⟨4, 0, wIf⟩ :: ⟨1, 7, []⟩ :: ⟨3, 0, [46]⟩ :: ⟨4, 0, wElse⟩ :: ⟨1, 9, []⟩ :: ⟨3, 0, [46]⟩ :: ⟨4, 0, wThen⟩ :: t := hd
    have h1 := drop_next h0
    have h2 := drop_next h1
    have h5 := drop_next (drop_next (drop_next h2))
    have h7 := drop_next (drop_next h5)
    show body (f + 1 + 2 + 1 + 1) _ k l d p [] = _
    have w1 : ways ⟨laidAll n ++ rest, S ++ [0], R, out, st + 1 + 1⟩ l (p + 1) wIf = (⟨laidAll n ++ rest, S, R, out, st + 1 + 1⟩, p + 1 + 1 + 1 + 1 + 1, 0) := by
      unfold ways
      rw [pop_ok]
      show ((⟨laidAll n ++ rest, S, R, out, st + 1 + 1⟩ : Mach), aheadOf wIf [wThen] [wElse, wThen] (l.drop (p + 1 + 1)) (p + 1 + 1) 0, (0 : Int)) = _
      rw [h2]
      rfl
    have w2 : ways ⟨laidAll n ++ rest, S, R, out ++ ([57] ++ [32]), st + 1 + 1 + 2 + 1⟩ l (p + 1 + 1 + 1 + 1 + 1 + 2) wThen = (⟨laidAll n ++ rest, S, R, out ++ ([57] ++ [32]), st + 1 + 1 + 2 + 1⟩, p + 8, 0) := rfl
    rw [body_number (drop_get h0) (by omega) (by omega), body_ways (s := wIf) (drop_get h1) rfl rfl rfl (by omega) w1, num_tell (n := 9) ⟨by omega, by omega⟩ h5 (by omega) hR (by omega) (by omega), show Lib.itoa 9 = [57] by decide +kernel, body_ways (s := wThen) (drop_get h7) rfl rfl rfl (by omega) w2]
    rfl
  · have h0 : l.drop p = ⟨1, 65, []⟩ :: ⟨3, 0, wEmit⟩ :: t := hd
    show body (f + 1 + 1) _ k l d p [] = _
    rw [body_number (drop_get h0) (by omega) (by omega), body_prim (drop_get (drop_next h0)) (by omega) (emit_ok (by omega) (by omega) (by omega) hR (by omega))]
    rfl
  · have h0 : l.drop p = ⟨2, 0, []⟩ :: t := hd
    show body (f + 1) _ k l d p [] = _
    rw [body_own (drop_get h0) (by omega) (a_owns rfl (by omega) (by omega) (by omega) (by omega) hR (by omega))]
    rfl
  · have h0 : l.drop p = ⟨2, 1, []⟩ :: t := hd
    show body (f + 1) _ k l d p [] = _
    rw [body_own (drop_get h0) (by omega) (b_owns rfl rfl (by omega) (by omega) (by omega) (by omega) hR (by omega))]
    rfl
  · have h0 : l.drop p = ⟨2, 2, []⟩ :: ⟨3, 0, [64]⟩ :: ⟨3, 0, [46]⟩ :: t := hd
    have h1 := drop_next h0
    show body (f + 1 + 1 + 1) _ k l d p [] = _
    rw [body_own (drop_get h0) (by omega) (v_owns (n := n) rfl (by omega)), body_prim (drop_get h1) (by omega) (fetch_ok (n := n) rfl (by omega) hR (by omega)), body_prim (drop_get (drop_next h1)) (by omega) (tell_ok (fits_len hn) (by omega) hR (by omega))]
    rfl
  · have h0 : l.drop p = ⟨2, 2, []⟩ :: ⟨3, 0, [64]⟩ :: ⟨1, 1, []⟩ :: ⟨3, 0, [43]⟩ :: ⟨2, 2, []⟩ :: ⟨3, 0, [33]⟩ :: t := hd
    have h1 := drop_next h0
    have h2 := drop_next h1
    have h3 := drop_next h2
    have h4 := drop_next h3
    have h5 := drop_next h4
    show body (f + 1 + 1 + 1 + 1 + 1 + 1) _ k l d p [] = _
    rw [body_own (drop_get h0) (by omega) (v_owns (n := n) rfl (by omega)), body_prim (drop_get h1) (by omega) (fetch_ok (n := n) rfl (by omega) hR (by omega)), body_number (drop_get h2) (by omega) (by simp; omega), show S ++ [n] ++ [1] = S ++ [n, 1] by simp, body_prim (drop_get h3) (by omega) (plus_ok (by omega) hR (by omega)), body_own (drop_get h4) (by omega) (v_owns (n := n) rfl (by simp; omega)), show S ++ [wrap64 (n + 1)] ++ [1002] = S ++ [wrap64 (n + 1), 1002] by simp, body_prim (drop_get h5) (by omega) (store_ok (n := n) rfl (by omega) hR (by omega))]
    rw [show out ++ bitTells 9 n = out from List.append_nil out]
    rfl
  · have h0 : l.drop p = ⟨2, 3, []⟩ :: ⟨3, 0, [46]⟩ :: t := hd
    show body (f + 1 + 1) _ k l d p [] = _
    rw [body_own (drop_get h0) (by omega) (k_owns rfl (by omega)), body_prim (drop_get (drop_next h0)) (by omega) (dot_ok 40 ⟨by omega, by omega⟩ (by omega) hR (by omega)), show Lib.itoa 40 = [52, 48] by decide +kernel]
    rfl
  · have h0 : l.drop p = ⟨1, 3, []⟩ :: ⟨4, 0, wBegin⟩ :: ⟨3, 0, [100, 117, 112]⟩ :: ⟨3, 0, [46]⟩ :: ⟨1, 1, []⟩ :: ⟨3, 0, [45]⟩ :: ⟨3, 0, [100, 117, 112]⟩ :: ⟨3, 0, [110, 111, 116]⟩ :: ⟨4, 0, wUntil⟩ :: ⟨3, 0, [100, 114, 111, 112]⟩ :: t := hd
    have h1 := drop_next h0
    have h9 := drop_next (drop_next (drop_next (drop_next (drop_next (drop_next (drop_next (drop_next h1)))))))
    have q1 : Lib.itoa 1 = [49] := by decide +kernel
    have q2 : Lib.itoa 2 = [50] := by decide +kernel
    have q3 : Lib.itoa 3 = [51] := by decide +kernel
    show body (f + 1 + 7 + 7 + 7 + 1 + 1) _ k l d p [] = _
    have w1 : ways ⟨laidAll n ++ rest, S ++ [3], R, out, st + 1 + 1⟩ l (p + 1) wBegin = (⟨laidAll n ++ rest, S ++ [3], R, out, st + 1 + 1⟩, p + 1 + 1, 0) := rfl
    rw [body_number (drop_get h0) (by omega) (by omega), body_ways (s := wBegin) (drop_get h1) rfl rfl rfl (by omega) w1]
    rw [down_round (x := 3) (by omega) (by omega) h1 (by omega) hR (by omega) (by omega), if_neg (by omega), show (3 : Int) - 1 = 2 from rfl, q3]
    rw [down_round (x := 2) (by omega) (by omega) h1 (by omega) hR (by simp; omega) (by omega), if_neg (by omega), show (2 : Int) - 1 = 1 from rfl, q2]
    rw [down_round (x := 1) (by omega) (by omega) h1 (by omega) hR (by simp; omega) (by omega), if_pos rfl, q1]
    rw [body_prim (drop_get h9) (by omega) (drop_ok (by omega) hR (by simp; omega))]
    simp only [List.append_assoc]
    rfl
  · have h0 : l.drop p = ⟨1, 1000, []⟩ :: ⟨3, 0, [101, 120, 101, 99, 117, 116, 101]⟩ :: t := hd
    show body (f + 1 + 1) _ k l d p [] = _
    rcases exec_ok (n := n) (rest := rest) (S := S) (R := R) (out := out) (st := st + 1 + 1) with he | he
    · rw [body_number (drop_get h0) (by omega) (by omega), body_exec (drop_get (drop_next h0)) (by omega) he (a_owns rfl (by omega) (by omega) (by omega) (by omega) hR (by omega))]
      rfl
    · exact (he ⟨by omega, hR, by omega⟩).elim
  · have h0 : l.drop p = ⟨3, 0, [99, 114]⟩ :: t := hd
    show body (f + 1) _ k l d p [] = _
    rw [body_prim (drop_get h0) (by omega) (cr_ok (by omega) hR (by omega))]
    rfl
end
end N
end Go.Proofs.YtgnlokmeohffaaaDoor
/- Reckoned's lines, in plain terms. -/
namespace Go.Proofs.YtgnlokmeohffaaaDoor
namespace N
open Go.RowKit

def small (x : Int) : Prop := -1000000000000000000 < x ∧ x < 1000000000000000000
/-- Three numbers and some words more. -/
def line3 (x y z : Int) (word : Txt) : Txt := Lib.itoa x ++ 32 :: (Lib.itoa y ++ 9 :: (Lib.itoa z ++ 32 :: word))
theorem line3_split (x y z : Int) (word : Txt) (W : List Txt) (hs : L.split word = W) : L.split (line3 x y z word) = Lib.itoa x :: Lib.itoa y :: Lib.itoa z :: W := by
  unfold line3
  rw [split_blank 32 (by decide), split_blank 9 (by decide), split_blank 32 (by decide), split_itoa, split_itoa, split_itoa, hs]
  rfl
theorem small_fits {x : Int} (h : small x) : fitsInt x := by obtain ⟨h1, h2⟩ := h; exact ⟨by omega, by omega⟩
/-- Of such a line: what its words make of the three is told, and stays. -/
theorem line3_does (x y z v : Int) (word : Txt) (W : List Txt) (hx : small x) (hy : small y) (hz : small z) (hv : fitsInt v) (hs : L.split word = W ++ [[100, 117, 112], [46]]) (hl : word.length ≤ 40)
    (hW : ∀ (f : Nat) (ws : List Txt), ws.drop 3 = W ++ [[100, 117, 112], [46]] → runs (f + W.length) ⟨[], [x, y, z], [], [], 3⟩ ws 3 = runs f ⟨[], [v], [], [], 3 + W.length⟩ ws (3 + W.length)) (hw : W.length ≤ 10) :
    ∃ st, doLine new (line3 x y z word) = (⟨[], [v], [], Lib.itoa v ++ [32], st⟩, Lib.itoa v ++ [32], 0, 0) := by
  have lx := fits_len (small_fits hx)
  have ly := fits_len (small_fits hy)
  have lz := fits_len (small_fits hz)
  have lv := fits_len hv
  have hlen : (line3 x y z word).length ≤ 500 := by
    unfold line3
    simp only [List.length_append, List.length_cons]
    omega
  refine ⟨3 + W.length + 2, ?_⟩
  rw [doLine_eq _ _ _ hlen (line3_split x y z word _ hs)]
  generalize hws : Lib.itoa x :: Lib.itoa y :: Lib.itoa z :: (W ++ [[100, 117, 112], [46]]) = ws
  have h0 : ws.drop 0 = Lib.itoa x :: Lib.itoa y :: Lib.itoa z :: (W ++ [[100, 117, 112], [46]]) := by rw [← hws]; rfl
  have h3 : ws.drop 3 = W ++ [[100, 117, 112], [46]] := drop_next (drop_next (drop_next h0))
  have h4 : ws.drop (3 + W.length) = [100, 117, 112] :: [46] :: [] := by rw [← List.drop_drop, h3, List.drop_left]
  have hL : ws.length = W.length + 5 := by rw [← hws]; simp
  have key : runs (ws.length + 1) ⟨[], [], [], [], 0⟩ ws 0 = (⟨[], [v], [], Lib.itoa v ++ [32], 3 + W.length + 2⟩, 0, 0) := by
    rw [hL, show W.length + 5 + 1 = (3 + W.length) + 1 + 1 + 1 by omega]
    rw [runs_number hx.1 hx.2 (drop_get h0) (by omega) (by simp) (by simp), runs_number hy.1 hy.2 (drop_get (drop_next h0)) (by omega) (by simp) (by simp), runs_number hz.1 hz.2 (drop_get (drop_next (drop_next h0))) (by omega) (by simp) (by simp)]
    show runs (3 + W.length) ⟨[], [x, y, z], [], [], 3⟩ ws 3 = _
    rw [hW 3 ws h3]
    rw [show ([v] : List Int) = [] ++ [v] from rfl]
    rw [runs_word (f := 2) h4 (by omega) rfl (c := ⟨3, 0, [100, 117, 112]⟩) rfl (cell_prim (dup_ok (by simp) (by simp) (by simp)))]
    rw [show ([] ++ [v, v] : List Int) = [v] ++ [v] from rfl]
    rw [runs_word (f := 1) (drop_next h4) (by omega) rfl (c := ⟨3, 0, [46]⟩) rfl (cell_prim (tell_ok lv (by simp) (by simp) (by simp)))]
    rw [runs_end (f := 0) (List.getElem?_eq_none (by omega))]
    rfl
  show ((runs (ws.length + 1) ⟨[], [], [], [], 0⟩ ws 0).1, (runs (ws.length + 1) ⟨[], [], [], [], 0⟩ ws 0).1.out, (runs (ws.length + 1) ⟨[], [], [], [], 0⟩ ws 0).2) = _
  rw [key]

/-- A word of the language on numbers that are letters. -/
theorem go_prim {f p st : Nat} {S S' R R' : List Int} {ws t : List Txt} {s : Txt} (hd : ws.drop p = s :: t) (hs : st < 1000) (hb : L.isBold s = false) (hp : isPrim s = true) (h : prim ⟨[], S, R, [], st + 1⟩ s = (⟨[], S', R', [], st + 1⟩, 0, none)) : runs (f + 1) ⟨[], S, R, [], st⟩ ws p = runs f ⟨[], S', R', [], st + 1⟩ ws (p + 1) :=
  runs_word hd hs hb (c := ⟨3, 0, s⟩) (by unfold meaning; simp only [hp, if_true]; rfl) (cell_prim h)

theorem reck0 (x y z : Int) (hx : small x) (hy : small y) (hz : small z) : ∃ st, doLine new (line3 x y z [43, 32, 42, 32, 100, 117, 112, 32, 46]) = (⟨[], [wrap64 (x * wrap64 (y + z))], [], Lib.itoa (wrap64 (x * wrap64 (y + z))) ++ [32], st⟩, Lib.itoa (wrap64 (x * wrap64 (y + z))) ++ [32], 0, 0) := by
  refine line3_does x y z _ _ [[43], [42]] hx hy hz (fits_wrap _) (by decide +kernel) (by decide) (fun f ws h => ?_) (by decide)
  show runs (f + 1 + 1) _ ws 3 = _
  rw [go_prim h (by omega) rfl rfl (S' := [x, wrap64 (y + z)]) (R' := []) (by kernel_rfl), go_prim (drop_next h) (by omega) rfl rfl (S' := [wrap64 (x * wrap64 (y + z))]) (R' := []) (by kernel_rfl)]
  rfl
theorem fits_bits (o : BinOp) (x y : Int) : fitsInt (bits o .i64 x y) := by
  unfold bits
  rw [IntKind.wrap_i64]
  unfold fitsInt
  omega
theorem reck1 (x y z : Int) (hx : small x) (hy : small y) (hz : small z) : ∃ st, doLine new (line3 x y z [45, 32, 120, 111, 114, 32, 100, 117, 112, 32, 46]) = (⟨[], [bits .xor .i64 x (wrap64 (y - z))], [], Lib.itoa (bits .xor .i64 x (wrap64 (y - z))) ++ [32], st⟩, Lib.itoa (bits .xor .i64 x (wrap64 (y - z))) ++ [32], 0, 0) := by
  refine line3_does x y z _ _ [[45], [120, 111, 114]] hx hy hz (fits_bits _ _ _) (by decide +kernel) (by decide) (fun f ws h => ?_) (by decide)
  show runs (f + 1 + 1) _ ws 3 = _
  rw [go_prim h (by omega) rfl rfl (S' := [x, wrap64 (y - z)]) (R' := []) (by kernel_rfl), go_prim (drop_next h) (by omega) rfl rfl (S' := [bits .xor .i64 x (wrap64 (y - z))]) (R' := []) (by kernel_rfl)]
  rfl
theorem reck2 (x y z : Int) (hx : small x) (hy : small y) (hz : small z) : ∃ st, doLine new (line3 x y z [42, 32, 43, 32, 100, 117, 112, 32, 46]) = (⟨[], [wrap64 (x + wrap64 (y * z))], [], Lib.itoa (wrap64 (x + wrap64 (y * z))) ++ [32], st⟩, Lib.itoa (wrap64 (x + wrap64 (y * z))) ++ [32], 0, 0) := by
  refine line3_does x y z _ _ [[42], [43]] hx hy hz (fits_wrap _) (by decide +kernel) (by decide) (fun f ws h => ?_) (by decide)
  show runs (f + 1 + 1) _ ws 3 = _
  rw [go_prim h (by omega) rfl rfl (S' := [x, wrap64 (y * z)]) (R' := []) (by kernel_rfl), go_prim (drop_next h) (by omega) rfl rfl (S' := [wrap64 (x + wrap64 (y * z))]) (R' := []) (by kernel_rfl)]
  rfl
theorem reck3 (x y z : Int) (hx : small x) (hy : small y) (hz : small z) : ∃ st, doLine new (line3 x y z [114, 111, 116, 32, 114, 111, 116, 32, 97, 110, 100, 32, 111, 114, 32, 100, 117, 112, 32, 46]) = (⟨[], [bits .or .i64 z (bits .and .i64 x y)], [], Lib.itoa (bits .or .i64 z (bits .and .i64 x y)) ++ [32], st⟩, Lib.itoa (bits .or .i64 z (bits .and .i64 x y)) ++ [32], 0, 0) := by
  refine line3_does x y z _ _ [[114, 111, 116], [114, 111, 116], [97, 110, 100], [111, 114]] hx hy hz (fits_bits _ _ _) (by decide +kernel) (by decide) (fun f ws h => ?_) (by decide)
  show runs (f + 1 + 1 + 1 + 1) _ ws 3 = _
  rw [go_prim h (by omega) rfl rfl (S' := [y, z, x]) (R' := []) (by kernel_rfl), go_prim (drop_next h) (by omega) rfl rfl (S' := [z, x, y]) (R' := []) (by kernel_rfl), go_prim (drop_next (drop_next h)) (by omega) rfl rfl (S' := [z, bits .and .i64 x y]) (R' := []) (by kernel_rfl), go_prim (drop_next (drop_next (drop_next h))) (by omega) rfl rfl (S' := [bits .or .i64 z (bits .and .i64 x y)]) (R' := []) (by kernel_rfl)]
  rfl
theorem reck4 (x y z : Int) (hx : small x) (hy : small y) (hz : small z) : ∃ st, doLine new (line3 x y z [115, 119, 97, 112, 32, 111, 118, 101, 114, 32, 43, 32, 43, 32, 45, 32, 100, 117, 112, 32, 46]) = (⟨[], [wrap64 (x - wrap64 (z + wrap64 (y + z)))], [], Lib.itoa (wrap64 (x - wrap64 (z + wrap64 (y + z)))) ++ [32], st⟩, Lib.itoa (wrap64 (x - wrap64 (z + wrap64 (y + z)))) ++ [32], 0, 0) := by
  refine line3_does x y z _ _ [[115, 119, 97, 112], [111, 118, 101, 114], [43], [43], [45]] hx hy hz (fits_wrap _) (by decide +kernel) (by decide) (fun f ws h => ?_) (by decide)
  show runs (f + 1 + 1 + 1 + 1 + 1) _ ws 3 = _
  rw [go_prim h (by omega) rfl rfl (S' := [x, z, y]) (R' := []) (by kernel_rfl), go_prim (drop_next h) (by omega) rfl rfl (S' := [x, z, y, z]) (R' := []) (by kernel_rfl), go_prim (drop_next (drop_next h)) (by omega) rfl rfl (S' := [x, z, wrap64 (y + z)]) (R' := []) (by kernel_rfl), go_prim (drop_next (drop_next (drop_next h))) (by omega) rfl rfl (S' := [x, wrap64 (z + wrap64 (y + z))]) (R' := []) (by kernel_rfl), go_prim (drop_next (drop_next (drop_next (drop_next h)))) (by omega) rfl rfl (S' := [wrap64 (x - wrap64 (z + wrap64 (y + z)))]) (R' := []) (by kernel_rfl)]
  rfl
theorem reck5 (x y z : Int) (hx : small x) (hy : small y) (hz : small z) : ∃ st, doLine new (line3 x y z [62, 114, 32, 115, 119, 97, 112, 32, 114, 62, 32, 42, 32, 45, 32, 100, 117, 112, 32, 46]) = (⟨[], [wrap64 (y - wrap64 (x * z))], [], Lib.itoa (wrap64 (y - wrap64 (x * z))) ++ [32], st⟩, Lib.itoa (wrap64 (y - wrap64 (x * z))) ++ [32], 0, 0) := by
  refine line3_does x y z _ _ [[62, 114], [115, 119, 97, 112], [114, 62], [42], [45]] hx hy hz (fits_wrap _) (by decide +kernel) (by decide) (fun f ws h => ?_) (by decide)
  show runs (f + 1 + 1 + 1 + 1 + 1) _ ws 3 = _
  rw [go_prim h (by omega) rfl rfl (S' := [x, y]) (R' := [z]) (by kernel_rfl), go_prim (drop_next h) (by omega) rfl rfl (S' := [y, x]) (R' := [z]) (by kernel_rfl), go_prim (drop_next (drop_next h)) (by omega) rfl rfl (S' := [y, x, z]) (R' := []) (by kernel_rfl), go_prim (drop_next (drop_next (drop_next h))) (by omega) rfl rfl (S' := [y, wrap64 (x * z)]) (R' := []) (by kernel_rfl), go_prim (drop_next (drop_next (drop_next (drop_next h)))) (by omega) rfl rfl (S' := [wrap64 (y - wrap64 (x * z))]) (R' := []) (by kernel_rfl)]
  rfl
end N
end Go.Proofs.YtgnlokmeohffaaaDoor
/- Reckoned answers true, whatever the numbers: the walk. -/
namespace Go.Proofs.YtgnlokmeohffaaaDoor
open Go.RowKit

theorem tmod_small (a : Int) : -1000000000000000000 < a.tmod 1000000000000000000 ∧ a.tmod 1000000000000000000 < 1000000000000000000 := by
  have h1 : (a.tmod 1000000000000000000).natAbs < 1000000000000000000 := by
    rw [Int.natAbs_tmod]
    exact Nat.mod_lt _ (by decide)
  omega

theorem itoaStr_size (x : Int) (h : inI64 x) : (itoaStr x).size ≤ 20 := by
  have := itoa_len' x h.1 h.2
  simpa [itoaStr, ByteArray.size] using this

theorem append_bytes (a b : ByteArray) : (a ++ b).data.toList = a.data.toList ++ b.data.toList := by
  simp

/-- A line of Reckoned in the document's machine. -/
def ReckOk (x y z : Int) (word : List UInt8) (V : Int) : Prop := ∃ st, N.doLine N.new (N.line3 x y z word) = (⟨[], [V], [], Lib.itoa V ++ [32], st⟩, Lib.itoa V ++ [32], 0, 0)
theorem does_reck (B : Nat) (w1 : World) (mb : Nat) (x y z V : Int) (word : List UInt8) (X Y Z T wd : ByteArray) (hX : itoaStr x = X) (hY : itoaStr y = Y) (hZ : itoaStr z = Z) (hT : itoaStr V = T) (hwd : wd.data.toList ++ [32, 100, 117, 112, 32, 46] = word)
    (hL : ReckOk x y z word V) (hm : Solo B w1 mb N.new) :
    Calls Tryd.prog 9 #[.pointer (some ⟨mb, 0, none⟩), .string (X ++ ⟨#[32]⟩ ++ Y ++ ⟨#[9]⟩ ++ Z ++ ⟨#[32]⟩ ++ wd ++ ⟨#[32, 100, 117, 112, 32, 46]⟩), .string (T ++ ⟨#[32]⟩)] w1 fun r w' => r = .returned (.bool true) ∧ (∃ st, Solo B w' mb ⟨[], [V], [], Lib.itoa V ++ [32], st⟩) ∧ Below B w1 w' := by
  have hdata : (X ++ ⟨#[32]⟩ ++ Y ++ ⟨#[9]⟩ ++ Z ++ ⟨#[32]⟩ ++ wd ++ ⟨#[32, 100, 117, 112, 32, 46]⟩ : ByteArray).data.toList = N.line3 x y z word := by
    simp only [append_bytes]
    rw [← hX, ← hY, ← hZ, ← hwd]
    simp [itoaStr, N.line3]
  have hout : (T ++ ⟨#[32]⟩ : ByteArray).data.toList = Lib.itoa V ++ [32] := by rw [← hT]; simp [itoaStr]
  obtain ⟨st, hL⟩ := hL
  refine (hm.does _ _ (by simp [N.new]) (by rw [hdata, hout]; exact hL)).mono ?_
  rintro r w' ⟨rfl, h1, h2⟩
  exact ⟨rfl, ⟨st, h1⟩, h2⟩

set_option maxRecDepth 100000 in
set_option maxHeartbeats 1600000 in
theorem reck_0 (a b c how : Int) (w : World) (htab : TabOk w) (hh0 : -9223372036854775808 ≤ how) (hh1 : how ≤ 9223372036854775807) (Hpick : Hid ((if how < 0 then -(how + 1) else how) % 6 = 0)) :
    Calls Tryd.prog 3 #[.int .i64 a, .int .i64 b, .int .i64 c, .int .i64 how] w fun r w' => r = .returned (.bool true) ∧ Below w.heap.size w w' := by
  have Htab := hide htab
  have HH := hide (And.intro hh0 hh1)
  clear htab hh0 hh1
  go_enter Tryd.func3, Tryd.ntmps3
  go_wp2_with fail
  have Hx := hide (tmod_small a)
  have Hy := hide (tmod_small b)
  have Hz := hide (tmod_small c)
  generalize a.tmod 1000000000000000000 = x at *
  generalize b.tmod 1000000000000000000 = y at *
  generalize c.tmod 1000000000000000000 = z at *
  have Hix := hide (show inI64 x from ⟨by have := unhide Hx; omega, by have := unhide Hx; omega⟩)
  have Hiy := hide (show inI64 y from ⟨by have := unhide Hy; omega, by have := unhide Hy; omega⟩)
  have Hiz := hide (show inI64 z from ⟨by have := unhide Hz; omega, by have := unhide Hz; omega⟩)
  refine (Solo.new (B := w.heap.size) _ (Nat.le_refl _) (unhide Htab)).mono ?_
  rintro e w1 ⟨rfl, hw1⟩
  have Hw1 := hide hw1
  clear hw1
  go_wp2_with fail
  refine (pick_any how 6 _ (unhide HH).1 (unhide HH).2 (by omega) (by omega)).mono ?_
  rintro e w1' ⟨rfl, rfl⟩
  rw [unhide Hpick]
  go_wp2_with fail
  refine (digits_any x _ (unhide Hix).1 (unhide Hix).2).mono ?_
  rintro e w1' ⟨rfl, rfl⟩
  have sx := itoaStr_size x (unhide Hix)
  have sy := itoaStr_size y (unhide Hiy)
  have sz := itoaStr_size z (unhide Hiz)
  generalize hX : itoaStr x = X at *
  generalize hY : itoaStr y = Y at *
  generalize hZ : itoaStr z = Z at *
  have HX := hide hX
  have HY := hide hY
  have HZ := hide hZ
  clear hX hY hZ
  go_wp2_with fail
  refine (digits_any y _ (unhide Hiy).1 (unhide Hiy).2).mono ?_
  rintro e w1' ⟨rfl, rfl⟩
  rw [unhide HY]
  go_wp2_with fail
  refine (digits_any z _ (unhide Hiz).1 (unhide Hiz).2).mono ?_
  rintro e w1' ⟨rfl, rfl⟩
  rw [unhide HZ]
  go_wp2_with fail
  have hline : ReckOk x y z _ _ := N.reck0 x y z (unhide Hx) (unhide Hy) (unhide Hz)
  have hiv : inI64 (wrap64 (x * wrap64 (y + z))) := in_wrap _
  generalize wrap64 (x * wrap64 (y + z)) = V at *
  have HL := hide hline
  have HiV := hide hiv
  clear hline hiv
  refine (digits_any V _ (unhide HiV).1 (unhide HiV).2).mono ?_
  rintro e w1' ⟨rfl, rfl⟩
  have sv := itoaStr_size V (unhide HiV)
  generalize hT : itoaStr V = T at *
  have HT := hide hT
  clear hT
  go_wp2_with fail
  have hdoes := does_reck w.heap.size w1' w.heap.size x y z V _ X Y Z T ⟨#[43, 32, 42]⟩ (unhide HX) (unhide HY) (unhide HZ) (unhide HT) rfl (unhide HL) (unhide Hw1).2
  have HD := hide hdoes
  clear hdoes
  refine (unhide HD).mono ?_
  rintro e w2 ⟨rfl, ⟨st, hm2⟩, hmv⟩
  have HM2 := hide hm2
  have HMV := hide hmv
  clear hm2 hmv
  go_wp2_with fail
  refine (unhide HM2).stack.mono ?_
  rintro e w3 ⟨v, rfl, hown, hb3⟩
  obtain ⟨g, cap, rfl, _, _⟩ := hown.form (by simp)
  have hc : w3.cell? ⟨g, 0, none⟩ = some (.int .i64 V) := by
    have := hown.cells (g := g) rfl 0 (.int .i64 V) rfl
    rwa [add_lit] at this
  have HB3 := hide hb3
  clear hown hb3
  go_wp2
  go_ret
  exact ⟨rfl, (unhide Hw1).1.trans ((unhide HMV).trans ((unhide HB3).mono (unhide HM2).1))⟩

set_option maxRecDepth 100000 in
set_option maxHeartbeats 1600000 in
theorem reck_1 (a b c how : Int) (w : World) (htab : TabOk w) (hh0 : -9223372036854775808 ≤ how) (hh1 : how ≤ 9223372036854775807) (Hpick : Hid ((if how < 0 then -(how + 1) else how) % 6 = 1)) :
    Calls Tryd.prog 3 #[.int .i64 a, .int .i64 b, .int .i64 c, .int .i64 how] w fun r w' => r = .returned (.bool true) ∧ Below w.heap.size w w' := by
  have Htab := hide htab
  have HH := hide (And.intro hh0 hh1)
  clear htab hh0 hh1
  go_enter Tryd.func3, Tryd.ntmps3
  go_wp2_with fail
  have Hx := hide (tmod_small a)
  have Hy := hide (tmod_small b)
  have Hz := hide (tmod_small c)
  generalize a.tmod 1000000000000000000 = x at *
  generalize b.tmod 1000000000000000000 = y at *
  generalize c.tmod 1000000000000000000 = z at *
  have Hix := hide (show inI64 x from ⟨by have := unhide Hx; omega, by have := unhide Hx; omega⟩)
  have Hiy := hide (show inI64 y from ⟨by have := unhide Hy; omega, by have := unhide Hy; omega⟩)
  have Hiz := hide (show inI64 z from ⟨by have := unhide Hz; omega, by have := unhide Hz; omega⟩)
  refine (Solo.new (B := w.heap.size) _ (Nat.le_refl _) (unhide Htab)).mono ?_
  rintro e w1 ⟨rfl, hw1⟩
  have Hw1 := hide hw1
  clear hw1
  go_wp2_with fail
  refine (pick_any how 6 _ (unhide HH).1 (unhide HH).2 (by omega) (by omega)).mono ?_
  rintro e w1' ⟨rfl, rfl⟩
  rw [unhide Hpick]
  go_wp2_with fail
  refine (digits_any x _ (unhide Hix).1 (unhide Hix).2).mono ?_
  rintro e w1' ⟨rfl, rfl⟩
  have sx := itoaStr_size x (unhide Hix)
  have sy := itoaStr_size y (unhide Hiy)
  have sz := itoaStr_size z (unhide Hiz)
  generalize hX : itoaStr x = X at *
  generalize hY : itoaStr y = Y at *
  generalize hZ : itoaStr z = Z at *
  have HX := hide hX
  have HY := hide hY
  have HZ := hide hZ
  clear hX hY hZ
  go_wp2_with fail
  refine (digits_any y _ (unhide Hiy).1 (unhide Hiy).2).mono ?_
  rintro e w1' ⟨rfl, rfl⟩
  rw [unhide HY]
  go_wp2_with fail
  refine (digits_any z _ (unhide Hiz).1 (unhide Hiz).2).mono ?_
  rintro e w1' ⟨rfl, rfl⟩
  rw [unhide HZ]
  go_wp2_with fail
  have hline : ReckOk x y z _ _ := N.reck1 x y z (unhide Hx) (unhide Hy) (unhide Hz)
  have hiv : inI64 (bits .xor .i64 x (wrap64 (y - z))) := in_bits _ _ _
  generalize bits .xor .i64 x (wrap64 (y - z)) = V at *
  have HL := hide hline
  have HiV := hide hiv
  clear hline hiv
  refine (digits_any V _ (unhide HiV).1 (unhide HiV).2).mono ?_
  rintro e w1' ⟨rfl, rfl⟩
  have sv := itoaStr_size V (unhide HiV)
  generalize hT : itoaStr V = T at *
  have HT := hide hT
  clear hT
  go_wp2_with fail
  have hdoes := does_reck w.heap.size w1' w.heap.size x y z V _ X Y Z T ⟨#[45, 32, 120, 111, 114]⟩ (unhide HX) (unhide HY) (unhide HZ) (unhide HT) rfl (unhide HL) (unhide Hw1).2
  have HD := hide hdoes
  clear hdoes
  refine (unhide HD).mono ?_
  rintro e w2 ⟨rfl, ⟨st, hm2⟩, hmv⟩
  have HM2 := hide hm2
  have HMV := hide hmv
  clear hm2 hmv
  go_wp2_with fail
  refine (unhide HM2).stack.mono ?_
  rintro e w3 ⟨v, rfl, hown, hb3⟩
  obtain ⟨g, cap, rfl, _, _⟩ := hown.form (by simp)
  have hc : w3.cell? ⟨g, 0, none⟩ = some (.int .i64 V) := by
    have := hown.cells (g := g) rfl 0 (.int .i64 V) rfl
    rwa [add_lit] at this
  have HB3 := hide hb3
  clear hown hb3
  go_wp2
  go_ret
  exact ⟨rfl, (unhide Hw1).1.trans ((unhide HMV).trans ((unhide HB3).mono (unhide HM2).1))⟩

set_option maxRecDepth 100000 in
set_option maxHeartbeats 1600000 in
theorem reck_2 (a b c how : Int) (w : World) (htab : TabOk w) (hh0 : -9223372036854775808 ≤ how) (hh1 : how ≤ 9223372036854775807) (Hpick : Hid ((if how < 0 then -(how + 1) else how) % 6 = 2)) :
    Calls Tryd.prog 3 #[.int .i64 a, .int .i64 b, .int .i64 c, .int .i64 how] w fun r w' => r = .returned (.bool true) ∧ Below w.heap.size w w' := by
  have Htab := hide htab
  have HH := hide (And.intro hh0 hh1)
  clear htab hh0 hh1
  go_enter Tryd.func3, Tryd.ntmps3
  go_wp2_with fail
  have Hx := hide (tmod_small a)
  have Hy := hide (tmod_small b)
  have Hz := hide (tmod_small c)
  generalize a.tmod 1000000000000000000 = x at *
  generalize b.tmod 1000000000000000000 = y at *
  generalize c.tmod 1000000000000000000 = z at *
  have Hix := hide (show inI64 x from ⟨by have := unhide Hx; omega, by have := unhide Hx; omega⟩)
  have Hiy := hide (show inI64 y from ⟨by have := unhide Hy; omega, by have := unhide Hy; omega⟩)
  have Hiz := hide (show inI64 z from ⟨by have := unhide Hz; omega, by have := unhide Hz; omega⟩)
  refine (Solo.new (B := w.heap.size) _ (Nat.le_refl _) (unhide Htab)).mono ?_
  rintro e w1 ⟨rfl, hw1⟩
  have Hw1 := hide hw1
  clear hw1
  go_wp2_with fail
  refine (pick_any how 6 _ (unhide HH).1 (unhide HH).2 (by omega) (by omega)).mono ?_
  rintro e w1' ⟨rfl, rfl⟩
  rw [unhide Hpick]
  go_wp2_with fail
  refine (digits_any x _ (unhide Hix).1 (unhide Hix).2).mono ?_
  rintro e w1' ⟨rfl, rfl⟩
  have sx := itoaStr_size x (unhide Hix)
  have sy := itoaStr_size y (unhide Hiy)
  have sz := itoaStr_size z (unhide Hiz)
  generalize hX : itoaStr x = X at *
  generalize hY : itoaStr y = Y at *
  generalize hZ : itoaStr z = Z at *
  have HX := hide hX
  have HY := hide hY
  have HZ := hide hZ
  clear hX hY hZ
  go_wp2_with fail
  refine (digits_any y _ (unhide Hiy).1 (unhide Hiy).2).mono ?_
  rintro e w1' ⟨rfl, rfl⟩
  rw [unhide HY]
  go_wp2_with fail
  refine (digits_any z _ (unhide Hiz).1 (unhide Hiz).2).mono ?_
  rintro e w1' ⟨rfl, rfl⟩
  rw [unhide HZ]
  go_wp2_with fail
  have hline : ReckOk x y z _ _ := N.reck2 x y z (unhide Hx) (unhide Hy) (unhide Hz)
  have hiv : inI64 (wrap64 (x + wrap64 (y * z))) := in_wrap _
  generalize wrap64 (x + wrap64 (y * z)) = V at *
  have HL := hide hline
  have HiV := hide hiv
  clear hline hiv
  refine (digits_any V _ (unhide HiV).1 (unhide HiV).2).mono ?_
  rintro e w1' ⟨rfl, rfl⟩
  have sv := itoaStr_size V (unhide HiV)
  generalize hT : itoaStr V = T at *
  have HT := hide hT
  clear hT
  go_wp2_with fail
  have hdoes := does_reck w.heap.size w1' w.heap.size x y z V _ X Y Z T ⟨#[42, 32, 43]⟩ (unhide HX) (unhide HY) (unhide HZ) (unhide HT) rfl (unhide HL) (unhide Hw1).2
  have HD := hide hdoes
  clear hdoes
  refine (unhide HD).mono ?_
  rintro e w2 ⟨rfl, ⟨st, hm2⟩, hmv⟩
  have HM2 := hide hm2
  have HMV := hide hmv
  clear hm2 hmv
  go_wp2_with fail
  refine (unhide HM2).stack.mono ?_
  rintro e w3 ⟨v, rfl, hown, hb3⟩
  obtain ⟨g, cap, rfl, _, _⟩ := hown.form (by simp)
  have hc : w3.cell? ⟨g, 0, none⟩ = some (.int .i64 V) := by
    have := hown.cells (g := g) rfl 0 (.int .i64 V) rfl
    rwa [add_lit] at this
  have HB3 := hide hb3
  clear hown hb3
  go_wp2
  go_ret
  exact ⟨rfl, (unhide Hw1).1.trans ((unhide HMV).trans ((unhide HB3).mono (unhide HM2).1))⟩

set_option maxRecDepth 100000 in
set_option maxHeartbeats 1600000 in
theorem reck_3 (a b c how : Int) (w : World) (htab : TabOk w) (hh0 : -9223372036854775808 ≤ how) (hh1 : how ≤ 9223372036854775807) (Hpick : Hid ((if how < 0 then -(how + 1) else how) % 6 = 3)) :
    Calls Tryd.prog 3 #[.int .i64 a, .int .i64 b, .int .i64 c, .int .i64 how] w fun r w' => r = .returned (.bool true) ∧ Below w.heap.size w w' := by
  have Htab := hide htab
  have HH := hide (And.intro hh0 hh1)
  clear htab hh0 hh1
  go_enter Tryd.func3, Tryd.ntmps3
  go_wp2_with fail
  have Hx := hide (tmod_small a)
  have Hy := hide (tmod_small b)
  have Hz := hide (tmod_small c)
  generalize a.tmod 1000000000000000000 = x at *
  generalize b.tmod 1000000000000000000 = y at *
  generalize c.tmod 1000000000000000000 = z at *
  have Hix := hide (show inI64 x from ⟨by have := unhide Hx; omega, by have := unhide Hx; omega⟩)
  have Hiy := hide (show inI64 y from ⟨by have := unhide Hy; omega, by have := unhide Hy; omega⟩)
  have Hiz := hide (show inI64 z from ⟨by have := unhide Hz; omega, by have := unhide Hz; omega⟩)
  refine (Solo.new (B := w.heap.size) _ (Nat.le_refl _) (unhide Htab)).mono ?_
  rintro e w1 ⟨rfl, hw1⟩
  have Hw1 := hide hw1
  clear hw1
  go_wp2_with fail
  refine (pick_any how 6 _ (unhide HH).1 (unhide HH).2 (by omega) (by omega)).mono ?_
  rintro e w1' ⟨rfl, rfl⟩
  rw [unhide Hpick]
  go_wp2_with fail
  refine (digits_any x _ (unhide Hix).1 (unhide Hix).2).mono ?_
  rintro e w1' ⟨rfl, rfl⟩
  have sx := itoaStr_size x (unhide Hix)
  have sy := itoaStr_size y (unhide Hiy)
  have sz := itoaStr_size z (unhide Hiz)
  generalize hX : itoaStr x = X at *
  generalize hY : itoaStr y = Y at *
  generalize hZ : itoaStr z = Z at *
  have HX := hide hX
  have HY := hide hY
  have HZ := hide hZ
  clear hX hY hZ
  go_wp2_with fail
  refine (digits_any y _ (unhide Hiy).1 (unhide Hiy).2).mono ?_
  rintro e w1' ⟨rfl, rfl⟩
  rw [unhide HY]
  go_wp2_with fail
  refine (digits_any z _ (unhide Hiz).1 (unhide Hiz).2).mono ?_
  rintro e w1' ⟨rfl, rfl⟩
  rw [unhide HZ]
  go_wp2_with fail
  have hline : ReckOk x y z _ _ := N.reck3 x y z (unhide Hx) (unhide Hy) (unhide Hz)
  have hiv : inI64 (bits .or .i64 z (bits .and .i64 x y)) := in_bits _ _ _
  generalize bits .or .i64 z (bits .and .i64 x y) = V at *
  have HL := hide hline
  have HiV := hide hiv
  clear hline hiv
  refine (digits_any V _ (unhide HiV).1 (unhide HiV).2).mono ?_
  rintro e w1' ⟨rfl, rfl⟩
  have sv := itoaStr_size V (unhide HiV)
  generalize hT : itoaStr V = T at *
  have HT := hide hT
  clear hT
  go_wp2_with fail
  have hdoes := does_reck w.heap.size w1' w.heap.size x y z V _ X Y Z T ⟨#[114, 111, 116, 32, 114, 111, 116, 32, 97, 110, 100, 32, 111, 114]⟩ (unhide HX) (unhide HY) (unhide HZ) (unhide HT) rfl (unhide HL) (unhide Hw1).2
  have HD := hide hdoes
  clear hdoes
  refine (unhide HD).mono ?_
  rintro e w2 ⟨rfl, ⟨st, hm2⟩, hmv⟩
  have HM2 := hide hm2
  have HMV := hide hmv
  clear hm2 hmv
  go_wp2_with fail
  refine (unhide HM2).stack.mono ?_
  rintro e w3 ⟨v, rfl, hown, hb3⟩
  obtain ⟨g, cap, rfl, _, _⟩ := hown.form (by simp)
  have hc : w3.cell? ⟨g, 0, none⟩ = some (.int .i64 V) := by
    have := hown.cells (g := g) rfl 0 (.int .i64 V) rfl
    rwa [add_lit] at this
  have HB3 := hide hb3
  clear hown hb3
  go_wp2
  go_ret
  exact ⟨rfl, (unhide Hw1).1.trans ((unhide HMV).trans ((unhide HB3).mono (unhide HM2).1))⟩

set_option maxRecDepth 100000 in
set_option maxHeartbeats 1600000 in
theorem reck_4 (a b c how : Int) (w : World) (htab : TabOk w) (hh0 : -9223372036854775808 ≤ how) (hh1 : how ≤ 9223372036854775807) (Hpick : Hid ((if how < 0 then -(how + 1) else how) % 6 = 4)) :
    Calls Tryd.prog 3 #[.int .i64 a, .int .i64 b, .int .i64 c, .int .i64 how] w fun r w' => r = .returned (.bool true) ∧ Below w.heap.size w w' := by
  have Htab := hide htab
  have HH := hide (And.intro hh0 hh1)
  clear htab hh0 hh1
  go_enter Tryd.func3, Tryd.ntmps3
  go_wp2_with fail
  have Hx := hide (tmod_small a)
  have Hy := hide (tmod_small b)
  have Hz := hide (tmod_small c)
  generalize a.tmod 1000000000000000000 = x at *
  generalize b.tmod 1000000000000000000 = y at *
  generalize c.tmod 1000000000000000000 = z at *
  have Hix := hide (show inI64 x from ⟨by have := unhide Hx; omega, by have := unhide Hx; omega⟩)
  have Hiy := hide (show inI64 y from ⟨by have := unhide Hy; omega, by have := unhide Hy; omega⟩)
  have Hiz := hide (show inI64 z from ⟨by have := unhide Hz; omega, by have := unhide Hz; omega⟩)
  refine (Solo.new (B := w.heap.size) _ (Nat.le_refl _) (unhide Htab)).mono ?_
  rintro e w1 ⟨rfl, hw1⟩
  have Hw1 := hide hw1
  clear hw1
  go_wp2_with fail
  refine (pick_any how 6 _ (unhide HH).1 (unhide HH).2 (by omega) (by omega)).mono ?_
  rintro e w1' ⟨rfl, rfl⟩
  rw [unhide Hpick]
  go_wp2_with fail
  refine (digits_any x _ (unhide Hix).1 (unhide Hix).2).mono ?_
  rintro e w1' ⟨rfl, rfl⟩
  have sx := itoaStr_size x (unhide Hix)
  have sy := itoaStr_size y (unhide Hiy)
  have sz := itoaStr_size z (unhide Hiz)
  generalize hX : itoaStr x = X at *
  generalize hY : itoaStr y = Y at *
  generalize hZ : itoaStr z = Z at *
  have HX := hide hX
  have HY := hide hY
  have HZ := hide hZ
  clear hX hY hZ
  go_wp2_with fail
  refine (digits_any y _ (unhide Hiy).1 (unhide Hiy).2).mono ?_
  rintro e w1' ⟨rfl, rfl⟩
  rw [unhide HY]
  go_wp2_with fail
  refine (digits_any z _ (unhide Hiz).1 (unhide Hiz).2).mono ?_
  rintro e w1' ⟨rfl, rfl⟩
  rw [unhide HZ]
  go_wp2_with fail
  have hline : ReckOk x y z _ _ := N.reck4 x y z (unhide Hx) (unhide Hy) (unhide Hz)
  have hiv : inI64 (wrap64 (x - wrap64 (z + wrap64 (y + z)))) := in_wrap _
  generalize wrap64 (x - wrap64 (z + wrap64 (y + z))) = V at *
  have HL := hide hline
  have HiV := hide hiv
  clear hline hiv
  refine (digits_any V _ (unhide HiV).1 (unhide HiV).2).mono ?_
  rintro e w1' ⟨rfl, rfl⟩
  have sv := itoaStr_size V (unhide HiV)
  generalize hT : itoaStr V = T at *
  have HT := hide hT
  clear hT
  go_wp2_with fail
  have hdoes := does_reck w.heap.size w1' w.heap.size x y z V _ X Y Z T ⟨#[115, 119, 97, 112, 32, 111, 118, 101, 114, 32, 43, 32, 43, 32, 45]⟩ (unhide HX) (unhide HY) (unhide HZ) (unhide HT) rfl (unhide HL) (unhide Hw1).2
  have HD := hide hdoes
  clear hdoes
  refine (unhide HD).mono ?_
  rintro e w2 ⟨rfl, ⟨st, hm2⟩, hmv⟩
  have HM2 := hide hm2
  have HMV := hide hmv
  clear hm2 hmv
  go_wp2_with fail
  refine (unhide HM2).stack.mono ?_
  rintro e w3 ⟨v, rfl, hown, hb3⟩
  obtain ⟨g, cap, rfl, _, _⟩ := hown.form (by simp)
  have hc : w3.cell? ⟨g, 0, none⟩ = some (.int .i64 V) := by
    have := hown.cells (g := g) rfl 0 (.int .i64 V) rfl
    rwa [add_lit] at this
  have HB3 := hide hb3
  clear hown hb3
  go_wp2
  go_ret
  exact ⟨rfl, (unhide Hw1).1.trans ((unhide HMV).trans ((unhide HB3).mono (unhide HM2).1))⟩

set_option maxRecDepth 100000 in
set_option maxHeartbeats 1600000 in
theorem reck_5 (a b c how : Int) (w : World) (htab : TabOk w) (hh0 : -9223372036854775808 ≤ how) (hh1 : how ≤ 9223372036854775807) (Hpick : Hid ((if how < 0 then -(how + 1) else how) % 6 = 5)) :
    Calls Tryd.prog 3 #[.int .i64 a, .int .i64 b, .int .i64 c, .int .i64 how] w fun r w' => r = .returned (.bool true) ∧ Below w.heap.size w w' := by
  have Htab := hide htab
  have HH := hide (And.intro hh0 hh1)
  clear htab hh0 hh1
  go_enter Tryd.func3, Tryd.ntmps3
  go_wp2_with fail
  have Hx := hide (tmod_small a)
  have Hy := hide (tmod_small b)
  have Hz := hide (tmod_small c)
  generalize a.tmod 1000000000000000000 = x at *
  generalize b.tmod 1000000000000000000 = y at *
  generalize c.tmod 1000000000000000000 = z at *
  have Hix := hide (show inI64 x from ⟨by have := unhide Hx; omega, by have := unhide Hx; omega⟩)
  have Hiy := hide (show inI64 y from ⟨by have := unhide Hy; omega, by have := unhide Hy; omega⟩)
  have Hiz := hide (show inI64 z from ⟨by have := unhide Hz; omega, by have := unhide Hz; omega⟩)
  refine (Solo.new (B := w.heap.size) _ (Nat.le_refl _) (unhide Htab)).mono ?_
  rintro e w1 ⟨rfl, hw1⟩
  have Hw1 := hide hw1
  clear hw1
  go_wp2_with fail
  refine (pick_any how 6 _ (unhide HH).1 (unhide HH).2 (by omega) (by omega)).mono ?_
  rintro e w1' ⟨rfl, rfl⟩
  rw [unhide Hpick]
  go_wp2_with fail
  refine (digits_any x _ (unhide Hix).1 (unhide Hix).2).mono ?_
  rintro e w1' ⟨rfl, rfl⟩
  have sx := itoaStr_size x (unhide Hix)
  have sy := itoaStr_size y (unhide Hiy)
  have sz := itoaStr_size z (unhide Hiz)
  generalize hX : itoaStr x = X at *
  generalize hY : itoaStr y = Y at *
  generalize hZ : itoaStr z = Z at *
  have HX := hide hX
  have HY := hide hY
  have HZ := hide hZ
  clear hX hY hZ
  go_wp2_with fail
  refine (digits_any y _ (unhide Hiy).1 (unhide Hiy).2).mono ?_
  rintro e w1' ⟨rfl, rfl⟩
  rw [unhide HY]
  go_wp2_with fail
  refine (digits_any z _ (unhide Hiz).1 (unhide Hiz).2).mono ?_
  rintro e w1' ⟨rfl, rfl⟩
  rw [unhide HZ]
  go_wp2_with fail
  have hline : ReckOk x y z _ _ := N.reck5 x y z (unhide Hx) (unhide Hy) (unhide Hz)
  have hiv : inI64 (wrap64 (y - wrap64 (x * z))) := in_wrap _
  generalize wrap64 (y - wrap64 (x * z)) = V at *
  have HL := hide hline
  have HiV := hide hiv
  clear hline hiv
  refine (digits_any V _ (unhide HiV).1 (unhide HiV).2).mono ?_
  rintro e w1' ⟨rfl, rfl⟩
  have sv := itoaStr_size V (unhide HiV)
  generalize hT : itoaStr V = T at *
  have HT := hide hT
  clear hT
  go_wp2_with fail
  have hdoes := does_reck w.heap.size w1' w.heap.size x y z V _ X Y Z T ⟨#[62, 114, 32, 115, 119, 97, 112, 32, 114, 62, 32, 42, 32, 45]⟩ (unhide HX) (unhide HY) (unhide HZ) (unhide HT) rfl (unhide HL) (unhide Hw1).2
  have HD := hide hdoes
  clear hdoes
  refine (unhide HD).mono ?_
  rintro e w2 ⟨rfl, ⟨st, hm2⟩, hmv⟩
  have HM2 := hide hm2
  have HMV := hide hmv
  clear hm2 hmv
  go_wp2_with fail
  refine (unhide HM2).stack.mono ?_
  rintro e w3 ⟨v, rfl, hown, hb3⟩
  obtain ⟨g, cap, rfl, _, _⟩ := hown.form (by simp)
  have hc : w3.cell? ⟨g, 0, none⟩ = some (.int .i64 V) := by
    have := hown.cells (g := g) rfl 0 (.int .i64 V) rfl
    rwa [add_lit] at this
  have HB3 := hide hb3
  clear hown hb3
  go_wp2
  go_ret
  exact ⟨rfl, (unhide Hw1).1.trans ((unhide HMV).trans ((unhide HB3).mono (unhide HM2).1))⟩


theorem reckoned_walk (a b c how : Int) (w : World) (htab : TabOk w) (hh0 : -9223372036854775808 ≤ how) (hh1 : how ≤ 9223372036854775807) :
    Calls Tryd.prog 3 #[.int .i64 a, .int .i64 b, .int .i64 c, .int .i64 how] w fun r w' => r = .returned (.bool true) ∧ Below w.heap.size w w' := by
  have h6 : ∀ n : Int, n % 6 = 0 ∨ n % 6 = 1 ∨ n % 6 = 2 ∨ n % 6 = 3 ∨ n % 6 = 4 ∨ n % 6 = 5 := fun n => by omega
  rcases h6 (if how < 0 then -(how + 1) else how) with h | h | h | h | h | h
  · exact reck_0 a b c how w htab hh0 hh1 (hide h)
  · exact reck_1 a b c how w htab hh0 hh1 (hide h)
  · exact reck_2 a b c how w htab hh0 hh1 (hide h)
  · exact reck_3 a b c how w htab hh0 hh1 (hide h)
  · exact reck_4 a b c how w htab hh0 hh1 (hide h)
  · exact reck_5 a b c how w htab hh0 hh1 (hide h)
end Go.Proofs.YtgnlokmeohffaaaDoor
