/- Parts of the proof: see the last text. -/
import Derived.Test.YtgnlokmeohffaaaGreatDoorZ5B2
/- Forgotten's lines, in plain terms. -/
namespace Go.Proofs.YtgnlokmeohffaaaGreatDoor
namespace N
open Go.RowKit

theorem toR_ok {all : List Ent} {S R : List Int} {out : Txt} {st : Nat} {x : Int} (hS : S.length ≤ 16) (hR : R.length + 1 ≤ 16) (ho : out.length ≤ 300) : prim ⟨all, S ++ [x], R, out, st⟩ [62, 114] = (⟨all, S, R ++ [x], out, st⟩, 0, none) := by
  rw [prim_ok [62, 114] [x] 1 0 0 1 rfl rfl (Nat.zero_le _) rfl hS hR ho]
  show (does ⟨all, S ++ [x], R, out ++ [], st⟩ [62, 114] [x] S, (0 : Int), none) = _
  rw [List.append_nil]
  rfl

/-- ': w bits ; 5 6 >r' -/
theorem w56_line (js : List Nat) (hj : ∀ j ∈ js, j < 14) (hl : js.length ≤ 5) (o : Txt) (t : Nat) : ∃ st, doLine ⟨laidAll 3, [], [], o, t⟩ (madeTxt tW js ++ [32, 53, 32, 54, 32, 62, 114]) = (⟨laidAll 3 ++ [wEnt tW js], [5], [6], [], st⟩, [], 0, 0) := by
  have hl1 := made_len tW js hl (by decide)
  have hsp : L.split (madeTxt tW js ++ [32, 53, 32, 54, 32, 62, 114]) = [58] :: tW :: (bitsWs js ++ [59] :: [[53], [54], [62, 114]]) := by
    rw [show madeTxt tW js ++ [32, 53, 32, 54, 32, 62, 114] = madeTxt tW js ++ 32 :: [53, 32, 54, 32, 62, 114] from rfl, split_blank 32 (by decide), made_split tW js hj (by decide +kernel)]
    rw [show L.split [53, 32, 54, 32, 62, 114] = [[53], [54], [62, 114]] by decide +kernel]
    simp
  refine ⟨4, ?_⟩
  rw [doLine_eq _ _ _ (by simp only [List.length_append, List.length_cons, List.length_nil]; omega) hsp]
  generalize hws : [58] :: tW :: (bitsWs js ++ [59] :: [[53], [54], [62, 114]]) = ws at *
  have h0 : ws.drop 0 = [58] :: tW :: (bitsWs js ++ [59] :: [[53], [54], [62, 114]]) := by rw [← hws]; rfl
  have hL : ws.length = (bitsWs js).length + 6 := by rw [← hws]; simp
  have h1 := one_def ⟨laidAll 3, [], [], [], 0 + 1⟩ (laid_known [] rfl _ _ _ _) js tW 0 ws _ hj (by omega) h0 (by decide +kernel) (by decide +kernel) (by decide)
  rw [flat_laid js hj] at h1
  dsimp only at h1
  have h3 : ws.drop (0 + (bitsWs js).length + 3) = [53] :: [54] :: [62, 114] :: [] := by
    have := drop_next (drop_next h0)
    rw [show 0 + (bitsWs js).length + 3 = 0 + 1 + 1 + (bitsWs js).length + 1 by omega, ← List.drop_drop, ← List.drop_drop, this, List.drop_left]
    rfl
  have key : runs (ws.length + 1) ⟨laidAll 3, [], [], [], 0⟩ ws 0 = (⟨laidAll 3 ++ [wEnt tW js], [5], [6], [], 4⟩, 0, 0) := by
    rw [hL, runs_go (m := ⟨laidAll 3, [], [], [], 0⟩) (drop_get h0) (by simp) h1, show (bitsWs js).length + 6 = (bitsWs js).length + 3 + 1 + 1 + 1 from rfl]
    rw [show (laidAll 3 ++ [⟨tW, 1, 0, js.flatMap bitCells, true, false⟩] : List Ent) = laidAll 3 ++ [wEnt tW js] from rfl]
    rw [runs_word h3 (by omega) rfl (c := ⟨1, 5, []⟩) rfl (cell_number (by simp)), runs_word (drop_next h3) (by omega) rfl (c := ⟨1, 6, []⟩) rfl (cell_number (by simp)), runs_word (drop_next (drop_next h3)) (by omega) rfl (c := ⟨3, 0, [62, 114]⟩) rfl (cell_prim (toR_ok (by simp) (by simp) (by simp)))]
    exact runs_end (List.getElem?_eq_none (by omega))
  show ((runs (ws.length + 1) ⟨laidAll 3, [], [], [], 0⟩ ws 0).1, (runs (ws.length + 1) ⟨laidAll 3, [], [], [], 0⟩ ws 0).1.out, (runs (ws.length + 1) ⟨laidAll 3, [], [], [], 0⟩ ws 0).2) = _
  rw [key]

/-- 'w', whatever is gone behind it. -/
theorem w_does (js : List Nat) (rest : List Ent) (n : Int) (hn : fitsInt n) (hj : ∀ j ∈ js, j < 14) (hl : js.length ≤ 5) (S R : List Int) (hS : S.length ≤ 10) (hR : R.length ≤ 16) (hm : ∀ out st, meaning ⟨laidAll n ++ wEnt tW js :: rest, S, R, out, st⟩ tW = some ⟨2, 4, []⟩) (o : Txt) (t : Nat) :
    ∃ st, doLine ⟨laidAll n ++ wEnt tW js :: rest, S, R, o, t⟩ tW = (⟨laidAll (bitsV js n) ++ wEnt tW js :: rest, S, R, bitsTells js n, st⟩, bitsTells js n, 0, 0) := by
  refine ⟨0 + 1 + bitsCost js, ?_⟩
  rw [doLine_eq _ _ [tW] (by decide) (by decide +kernel)]
  have key : runs 2 ⟨laidAll n ++ wEnt tW js :: rest, S, R, [], 0⟩ [tW] 0 = (⟨laidAll (bitsV js n) ++ wEnt tW js :: rest, S, R, bitsTells js n, 0 + 1 + bitsCost js⟩, 0, 0) := by
    refine (runs_word (f := 1) (s := tW) (t := []) rfl (by omega) rfl (c := ⟨2, 4, []⟩) (hm _ _) ((cell_own (j := 4) rfl).trans (w_owns tW js hj hl hn hS hR (by omega) (by simp) (by omega) (by decide)))).trans ?_
    exact runs_end (f := 0) rfl
  show ((runs 2 ⟨laidAll n ++ wEnt tW js :: rest, S, R, [], 0⟩ [tW] 0).1, (runs 2 ⟨laidAll n ++ wEnt tW js :: rest, S, R, [], 0⟩ [tW] 0).1.out, (runs 2 ⟨laidAll n ++ wEnt tW js :: rest, S, R, [], 0⟩ [tW] 0).2) = _
  rw [key]

def tMark : Txt := [109, 97, 114, 107, 101, 114]
def tVar : Txt := [118, 97, 114, 105, 97, 98, 108, 101]
def tCon : Txt := [99, 111, 110, 115, 116, 97, 110, 116]
theorem name_ok (m : Mach) (nm : Txt) (hf : nameFits nm = true) (hb : L.isBold nm = false) (hc : m.all.length < 40) : nameErr m (some nm) true = 0 := by
  have hcm := count_le m
  unfold nameErr
  simp only [hb, hf, Bool.not_true, Bool.and_false, Bool.or_self, Bool.false_eq_true, if_false, true_and]
  rw [if_neg (by omega)]
theorem one_marker (m : Mach) (ws : List Txt) (p : Nat) (nm : Txt) (hp : ws[p + 1]? = some nm) (hf : nameFits nm = true) (hb : L.isBold nm = false) (hc : m.all.length < 40) : one m ws p tMark = ({ m with all := m.all ++ [⟨nm, 4, 0, [], true, false⟩] }, 0, 0, p + 2) := by
  have e : one m ws p tMark = if nameErr m ws[p + 1]? true ≠ 0 then (m, nameErr m ws[p + 1]? true, p, p + 2) else ({ m with all := m.all ++ [⟨(ws[p + 1]?).getD [], 4, 0, [], true, false⟩] }, 0, 0, p + 2) := rfl
  rw [e, hp, name_ok m nm hf hb hc]
  rfl
theorem one_variable (m : Mach) (ws : List Txt) (p : Nat) (nm : Txt) (hp : ws[p + 1]? = some nm) (hf : nameFits nm = true) (hb : L.isBold nm = false) (hc : m.all.length < 40) : one m ws p tVar = ({ m with all := m.all ++ [⟨nm, 2, 0, [], true, false⟩] }, 0, 0, p + 2) := by
  have e : one m ws p tVar = if nameErr m ws[p + 1]? true ≠ 0 then (m, nameErr m ws[p + 1]? true, p, p + 2) else ({ m with all := m.all ++ [⟨(ws[p + 1]?).getD [], 2, 0, [], true, false⟩] }, 0, 0, p + 2) := rfl
  rw [e, hp, name_ok m nm hf hb hc]
  rfl
theorem one_constant (all : List Ent) (S R : List Int) (out : Txt) (st : Nat) (x : Int) (ws : List Txt) (p : Nat) (nm : Txt) (hp : ws[p + 1]? = some nm) (hf : nameFits nm = true) (hb : L.isBold nm = false) (hc : all.length < 40) : one ⟨all, S ++ [x], R, out, st⟩ ws p tCon = (⟨all ++ [⟨nm, 3, x, [], true, false⟩], S, R, out, st⟩, 0, 0, p + 2) := by
  have e : one ⟨all, S ++ [x], R, out, st⟩ ws p tCon = if nameErr ⟨all, S ++ [x], R, out, st⟩ ws[p + 1]? true ≠ 0 then (⟨all, S ++ [x], R, out, st⟩, nameErr ⟨all, S ++ [x], R, out, st⟩ ws[p + 1]? true, p, p + 2) else
    match pop ⟨all, S ++ [x], R, out, st⟩ with
    | none => (⟨all, S ++ [x], R, out, st⟩, 6, p, p + 2)
    | some (m1, n) => ({ m1 with all := m1.all ++ [⟨(ws[p + 1]?).getD [], 3, n, [], true, false⟩] }, 0, 0, p + 2) := rfl
  rw [e, hp, name_ok ⟨all, S ++ [x], R, out, st⟩ nm hf hb hc, pop_ok]
  rfl

/-- 'marker z : a bits ; : w bits ; variable x 9 constant k z' -/
def goneTxt (js : List Nat) : Txt := [109, 97, 114, 107, 101, 114, 32, 122, 32] ++ (madeTxt [97] js ++ (32 :: (madeTxt tW js ++ [32, 118, 97, 114, 105, 97, 98, 108, 101, 32, 120, 32, 57, 32, 99, 111, 110, 115, 116, 97, 110, 116, 32, 107, 32, 122])))
def goneRest (A B : List Cell) : List Ent := [⟨[122], 4, 0, [], true, true⟩, ⟨[97], 1, 0, A, true, true⟩, ⟨tW, 1, 0, B, true, true⟩, ⟨[120], 2, 0, [], true, true⟩, ⟨[107], 3, 9, [], true, true⟩]
theorem gone_line (js more : List Nat) (n : Int) (hj : ∀ j ∈ more, j < 14) (hl : more.length ≤ 5) (S R : List Int) (hS : S.length ≤ 10) (o : Txt) (t : Nat) : ∃ A B st, doLine ⟨laidAll n ++ [wEnt tW js], S, R, o, t⟩ (goneTxt more) = (⟨laidAll n ++ wEnt tW js :: goneRest A B, S, R, [], st⟩, [], 0, 0) := by
  have hl1 := made_len tW more hl (by decide)
  have hl2 := made_len [97] more hl (by decide)
  have hsp : L.split (goneTxt more) = tMark :: [122] :: [58] :: [97] :: (bitsWs more ++ [59] :: [58] :: tW :: (bitsWs more ++ [59] :: [tVar, [120], [57], tCon, [107], [122]])) := by
    unfold goneTxt
    rw [show [109, 97, 114, 107, 101, 114, 32, 122, 32] ++ (madeTxt [97] more ++ (32 :: (madeTxt tW more ++ [32, 118, 97, 114, 105, 97, 98, 108, 101, 32, 120, 32, 57, 32, 99, 111, 110, 115, 116, 97, 110, 116, 32, 107, 32, 122]))) =
      [109, 97, 114, 107, 101, 114, 32, 122] ++ 32 :: (madeTxt [97] more ++ (32 :: (madeTxt tW more ++ 32 :: [118, 97, 114, 105, 97, 98, 108, 101, 32, 120, 32, 57, 32, 99, 111, 110, 115, 116, 97, 110, 116, 32, 107, 32, 122]))) from rfl]
    rw [split_blank 32 (by decide), split_blank 32 (by decide), split_blank 32 (by decide), made_split [97] more hj (by decide +kernel), made_split tW more hj (by decide +kernel)]
    rw [show L.split [109, 97, 114, 107, 101, 114, 32, 122] = [tMark, [122]] by decide +kernel, show L.split [118, 97, 114, 105, 97, 98, 108, 101, 32, 120, 32, 57, 32, 99, 111, 110, 115, 116, 97, 110, 116, 32, 107, 32, 122] = [tVar, [120], [57], tCon, [107], [122]] by decide +kernel]
    simp
  have hlen : (goneTxt more).length ≤ 500 := by
    unfold goneTxt
    simp only [List.length_append, List.length_cons, List.length_nil]
    omega
  rw [doLine_eq _ _ _ hlen hsp]
  generalize hws : tMark :: [122] :: [58] :: [97] :: (bitsWs more ++ [59] :: [58] :: tW :: (bitsWs more ++ [59] :: [tVar, [120], [57], tCon, [107], [122]])) = ws at *
  have h0 : ws.drop 0 = tMark :: [122] :: [58] :: [97] :: (bitsWs more ++ [59] :: [58] :: tW :: (bitsWs more ++ [59] :: [tVar, [120], [57], tCon, [107], [122]])) := by rw [← hws]; rfl
  have hL : ws.length = 2 * (bitsWs more).length + 14 := by rw [← hws]; simp; omega
  have h2 : ws.drop 2 = [58] :: [97] :: (bitsWs more ++ [59] :: [58] :: tW :: (bitsWs more ++ [59] :: [tVar, [120], [57], tCon, [107], [122]])) := drop_next (drop_next h0)
  have h3 : ws.drop (2 + (bitsWs more).length + 3) = [58] :: tW :: (bitsWs more ++ [59] :: [tVar, [120], [57], tCon, [107], [122]]) := by
    have := drop_next (drop_next h2)
    rw [show 2 + (bitsWs more).length + 3 = 2 + 1 + 1 + (bitsWs more).length + 1 by omega, ← List.drop_drop, ← List.drop_drop, this, List.drop_left]
    rfl
  have h4 : ws.drop (2 + (bitsWs more).length + 3 + (bitsWs more).length + 3) = tVar :: [120] :: [57] :: tCon :: [107] :: [122] :: [] := by
    have := drop_next (drop_next h3)
    rw [show 2 + (bitsWs more).length + 3 + (bitsWs more).length + 3 = 2 + (bitsWs more).length + 3 + 1 + 1 + (bitsWs more).length + 1 by omega, ← List.drop_drop, ← List.drop_drop, this, List.drop_left]
    rfl
  have h5 := drop_next h4
  have h6 := drop_next h5
  have h7 := drop_next h6
  have h8 := drop_next h7
  have h9 := drop_next h8
  have hm1 := one_marker ⟨laidAll n ++ [wEnt tW js], S, R, [], 0 + 1⟩ ws 0 [122] (drop_get (drop_next h0)) (by decide +kernel) (by decide +kernel) (by simp [laidAll])
  dsimp only at hm1
  have hkn1 : Known ⟨laidAll n ++ [wEnt tW js] ++ [⟨[122], 4, 0, [], true, false⟩], S, R, [], 0 + 1 + 1⟩ := ⟨⟨0, rfl⟩, ⟨1, rfl⟩, ⟨2, rfl⟩, ⟨3, rfl⟩⟩
  have hd1 := one_def _ hkn1 more [97] 2 ws _ hj (by omega) h2 (by decide +kernel) (by decide +kernel) (by simp [laidAll])
  generalize more.flatMap (bitOf ⟨laidAll n ++ [wEnt tW js] ++ [⟨[122], 4, 0, [], true, false⟩], S, R, [], 0 + 1 + 1⟩) = A at hd1
  dsimp only at hd1
  have hkn2 : Known ⟨laidAll n ++ [wEnt tW js] ++ [⟨[122], 4, 0, [], true, false⟩] ++ [⟨[97], 1, 0, A, true, false⟩], S, R, [], 0 + 1 + 1 + 1⟩ := ⟨⟨6, rfl⟩, ⟨1, rfl⟩, ⟨2, rfl⟩, ⟨3, rfl⟩⟩
  have hd2 := one_def _ hkn2 more tW (2 + (bitsWs more).length + 3) ws _ hj (by omega) h3 (by decide +kernel) (by decide +kernel) (by simp [laidAll])
  generalize more.flatMap (bitOf ⟨laidAll n ++ [wEnt tW js] ++ [⟨[122], 4, 0, [], true, false⟩] ++ [⟨[97], 1, 0, A, true, false⟩], S, R, [], 0 + 1 + 1 + 1⟩) = B at hd2
  dsimp only at hd2
  generalize hp4 : 2 + (bitsWs more).length + 3 + (bitsWs more).length + 3 = p4 at *
  have hv := one_variable ⟨laidAll n ++ [wEnt tW js] ++ [⟨[122], 4, 0, [], true, false⟩] ++ [⟨[97], 1, 0, A, true, false⟩] ++ [⟨tW, 1, 0, B, true, false⟩], S, R, [], 0 + 1 + 1 + 1 + 1⟩ ws p4 [120] (drop_get h5) (by decide +kernel) (by decide +kernel) (by simp [laidAll])
  dsimp only at hv
  have hcn := one_constant (laidAll n ++ [wEnt tW js] ++ [⟨[122], 4, 0, [], true, false⟩] ++ [⟨[97], 1, 0, A, true, false⟩] ++ [⟨tW, 1, 0, B, true, false⟩] ++ [⟨[120], 2, 0, [], true, false⟩]) S R [] (0 + 1 + 1 + 1 + 1 + 1 + 1) 9 ws (p4 + 1 + 1 + 1) [107] (drop_get h8) (by decide +kernel) (by decide +kernel) (by simp [laidAll])
  refine ⟨A, B, 7, ?_⟩
  have key : runs (ws.length + 1) ⟨laidAll n ++ [wEnt tW js], S, R, [], 0⟩ ws 0 = (⟨laidAll n ++ wEnt tW js :: goneRest A B, S, R, [], 7⟩, 0, 0) := by
    rw [hL, show 2 * (bitsWs more).length + 14 + 1 = (2 * (bitsWs more).length + 7) + 1 + 1 + 1 + 1 + 1 + 1 + 1 + 1 by omega]
    rw [runs_go (m := ⟨laidAll n ++ [wEnt tW js], S, R, [], 0⟩) (drop_get h0) (by simp) hm1]
    rw [runs_go (drop_get h2) (by simp) hd1]
    rw [runs_go (drop_get h3) (by simp) hd2]
    rw [runs_go (drop_get h4) (by simp) hv]
    rw [runs_word h6 (by omega) rfl (c := ⟨1, 9, []⟩) rfl (cell_number (by omega))]
    rw [runs_go (m := ⟨_, S ++ [9], R, [], _⟩) (drop_get h7) (by simp) hcn]
    refine (runs_word (all := laidAll n ++ [wEnt tW js] ++ [⟨[122], 4, 0, [], true, false⟩] ++ [⟨[97], 1, 0, A, true, false⟩] ++ [⟨tW, 1, 0, B, true, false⟩] ++ [⟨[120], 2, 0, [], true, false⟩] ++ [⟨[107], 3, 9, [], true, false⟩]) h9 (by omega) rfl (c := ⟨2, 5, []⟩) rfl (m' := ⟨laidAll n ++ wEnt tW js :: goneRest A B, S, R, [], 7⟩) ((cell_own (j := 5) rfl).trans rfl)).trans ?_
    exact runs_end (List.getElem?_eq_none (by omega))
  show ((runs (ws.length + 1) ⟨laidAll n ++ [wEnt tW js], S, R, [], 0⟩ ws 0).1, (runs (ws.length + 1) ⟨laidAll n ++ [wEnt tW js], S, R, [], 0⟩ ws 0).1.out, (runs (ws.length + 1) ⟨laidAll n ++ [wEnt tW js], S, R, [], 0⟩ ws 0).2) = _
  rw [key]
end N
end Go.Proofs.YtgnlokmeohffaaaGreatDoor
/- Forgotten answers true, whatever the numbers: the walk. -/
namespace Go.Proofs.YtgnlokmeohffaaaGreatDoor
open Go.RowKit

theorem hold_of {m : N.Mach} (h : m.all.length ≤ 100) : m.all.length + 1000 ≤ 1000000000000 := by omega
def seeTxt (js : List Nat) : N.Txt := [58] ++ ((js.flatMap N.bitCells).map N.cellTxt).flatten
def fiveNames : List N.Txt := [[97], [98], [118], [107], [119]]
theorem see_one (js : List Nat) (n : Int) (S R : List Int) (o : N.Txt) (t : Nat) : N.see ⟨N.laidAll n ++ [N.wEnt N.tW js], S, R, o, t⟩ [119] = (seeTxt js, 0) := rfl
theorem see_two (js : List Nat) (n : Int) (A B : List N.Cell) (S R : List Int) (o : N.Txt) (t : Nat) : N.see ⟨N.laidAll n ++ N.wEnt N.tW js :: N.goneRest A B, S, R, o, t⟩ [119] = (seeTxt js, 0) := rfl
theorem words_one (js : List Nat) (n : Int) (S R : List Int) (o : N.Txt) (t : Nat) : N.words ⟨N.laidAll n ++ [N.wEnt N.tW js], S, R, o, t⟩ = fiveNames := rfl
theorem words_two (js : List Nat) (n : Int) (A B : List N.Cell) (S R : List Int) (o : N.Txt) (t : Nat) : N.words ⟨N.laidAll n ++ N.wEnt N.tW js :: N.goneRest A B, S, R, o, t⟩ = fiveNames := rfl

set_option maxRecDepth 100000 in
set_option maxHeartbeats 3200000 in
theorem forgotten_walk (a0 : Option Addr) (l0 c0 : Nat) (z0 : List Int) (a1 : Option Addr) (l1 c1 : Nat) (z1 : List Int) (w : World) (hi0 : Ints w a0 l0 z0) (hi1 : Ints w a1 l1 z1) (htab : TabOk w) :
    Calls Tryz.prog 7 #[.slice a0 l0 c0, .slice a1 l1 c1] w fun r w' => r = .returned (.bool true) ∧ Below w.heap.size w w' := by
  have Htab := hide htab
  have HI := hide (And.intro hi0 hi1)
  have hj0 := rawBits_lt z0
  have hn0 := rawBits_len z0
  have hj1 := rawBits_lt z1
  have hn1 := rawBits_len z1
  have HJ := hide (And.intro (And.intro hj0 hn0) (And.intro hj1 hn1))
  clear htab hi0 hi1 hj0 hn0 hj1 hn1
  have hf3 : N.fitsInt 3 := ⟨by omega, by omega⟩
  have HF3 := hide hf3
  clear hf3
  go_enter Tryz.func7, Tryz.ntmps7
  go_wp2_with fail
  refine (laid_any w (unhide Htab)).mono ?_
  rintro e w1 ⟨mb, rfl, h1, hb1⟩
  have H1 := hide (And.intro h1 hb1)
  clear h1 hb1
  go_wp2_with fail
  refine (makes_any w1 ⟨#[119]⟩ a0 l0 c0 z0 ((unhide HI).1.below (unhide H1).2) (by decide)).mono ?_
  rintro e w2 ⟨M1, rfl, hM1, hb2⟩
  have sM1 : M1.size ≤ 201 := by rw [Lib.size_eq, hM1]; exact N.made_len _ _ (unhide HJ).1.2 (by decide)
  have H2 := hide (And.intro hM1 (And.intro ((unhide H1).1.below hb2) ((unhide H1).2.trans (hb2.mono (unhide H1).2.size))))
  clear hM1 hb2
  go_wp2_with fail
  obtain ⟨st3, hl3⟩ := N.w56_line (rawBits z0) (unhide HJ).1.1 (unhide HJ).1.2 [] 8
  have hd3 := (unhide H2).2.1.does (m' := ⟨N.laidAll 3 ++ [N.wEnt N.tW (rawBits z0)], [5], [6], [], st3⟩) (M1 ++ ⟨#[32, 53, 32, 54, 32, 62, 114]⟩) ⟨#[]⟩ (hold_of (by decide)) (by rw [bytes_app, (unhide H2).1]; exact hl3)
  refine hd3.mono ?_
  rintro e w3 ⟨rfl, h3, hb3⟩
  have H3 := hide (And.intro h3 ((unhide H2).2.2.trans hb3))
  clear h3 hb3 hd3 hl3
  go_wp2_with fail
  refine (unhide H3).1.words.mono ?_
  rintro e w4 ⟨v4, rfl, ho4, hb4, _⟩
  rw [words_one] at ho4
  obtain ⟨x4, y4, rfl, _, _⟩ := owns_slice ho4
  have H4 := hide (And.intro ho4 (And.intro ((unhide H3).1.sole.more hb4 (fun k => (Value.slice x4 fiveNames.length y4).ownBlock = some k) (fun k hk => ho4.lt k hk)) ((unhide H3).2.trans (hb4.mono (unhide H3).1.1))))
  clear ho4 hb4
  go_wp2_with fail
  refine ((unhide H4).2.1.solo.see ⟨#[119]⟩).mono ?_
  rw [show (⟨#[119]⟩ : ByteArray).data.toList = [119] from rfl, see_one]
  rintro e w5 ⟨rfl, hb5⟩
  generalize hTX : (⟨(seeTxt (rawBits z0)).toArray⟩ : ByteArray) = TX at *
  have HTX := hide hTX
  have H5 := hide (And.intro ((unhide H4).2.1.below hb5) (And.intro ((unhide H4).2.2.trans (hb5.mono (unhide H4).2.1.1)) (owns_kept (unhide H4).1 fun k e => hb5.block k ((unhide H4).1.lt k e).2)))
  clear hb5 hTX
  go_wp2_with fail
  obtain ⟨st6, hl6⟩ := N.w_does (rawBits z0) [] 3 (unhide HF3) (unhide HJ).1.1 (unhide HJ).1.2 [5] [6] (by simp) (by simp) (fun _ _ => rfl) [] st3
  have hd6 := (unhide H5).1.do ⟨#[119]⟩ (hold_of (by simp [N.laidAll]))
  rw [show (⟨#[119]⟩ : ByteArray).data.toList = N.tW from rfl, hl6] at hd6
  refine hd6.mono ?_
  rintro e w6 ⟨rfl, h6, hb6, hk6⟩
  have hv6 : ansVal (⟨N.laidAll (N.bitsV (rawBits z0) 3) ++ [N.wEnt N.tW (rawBits z0)], [5], [6], N.bitsTells (rawBits z0) 3, st6⟩, N.bitsTells (rawBits z0) 3, 0, 0) = .agg #[.string ⟨(N.bitsTells (rawBits z0) 3).toArray⟩, .int .i64 0, .int .i64 0] := rfl
  rw [hv6]
  generalize (⟨(N.bitsTells (rawBits z0) 3).toArray⟩ : ByteArray) = T6 at *
  have hbA : Below w6.heap.size w6 (w6.alloc (Obj.cells #[Value.string T6, Value.int .i64 0, Value.int .i64 0] 36)) := (Below.refl _ _).alloc (Nat.le_refl _) _
  have hnA := heap_alloc_new w6 (Obj.cells #[Value.string T6, Value.int .i64 0, Value.int .i64 0] 36)
  have hr6 := owns_kept (unhide H5).2.2 fun k e => hk6 k (.inr e)
  have H6 := hide (And.intro (h6.more hbA (fun k => k = w6.heap.size) (fun k hk => ⟨by omega, by have := heap_lt hnA; omega⟩)) (And.intro (((unhide H5).2.1.trans hb6).trans (hbA.mono h6.1)) (And.intro (owns_kept hr6 fun k e => hbA.block k (hr6.lt k e).2) hnA)))
  clear hd6 hl6 h6 hb6 hk6 hv6 hbA hnA hr6
  go_wp2_with fail
  generalize (w6.alloc (Obj.cells #[Value.string T6, Value.int .i64 0, Value.int .i64 0] 36)) = w7 at *
  refine (unhide H6).1.solo.stack.mono ?_
  rintro e w8 ⟨v8, rfl, ho8, hb8⟩
  obtain ⟨x8, y8, rfl, _, _⟩ := owns_slice ho8
  have h6x := unhide H6
  have H8 := hide (And.intro (h6x.1.more hb8 (fun k => (Value.slice x8 ([5] : List Int).length y8).ownBlock = some k) (fun k hk => ho8.lt k hk)) (And.intro (h6x.2.1.trans (hb8.mono h6x.1.1)) (And.intro (owns_kept h6x.2.2.1 fun k e => hb8.block k (h6x.2.2.1.lt k e).2) (And.intro ((hb8.block _ (heap_lt h6x.2.2.2)).trans h6x.2.2.2) ho8))))
  clear ho8 hb8 h6x
  go_wp2_with fail
  refine (makes_any w8 ⟨#[97]⟩ a1 l1 c1 z1 ((unhide HI).2.below (unhide H8).2.1) (by decide)).mono ?_
  rintro e w9 ⟨M2, rfl, hM2, hb9⟩
  have sM2 : M2.size ≤ 201 := by rw [Lib.size_eq, hM2]; exact N.made_len _ _ (unhide HJ).2.2 (by decide)
  have H9 := hide (And.intro hM2 hb9)
  clear hM2 hb9
  go_wp2_with fail
  refine (makes_any w9 ⟨#[119]⟩ a1 l1 c1 z1 ((unhide HI).2.below ((unhide H8).2.1.trans ((unhide H9).2.mono (unhide H8).1.1))) (by decide)).mono ?_
  rintro e w10 ⟨M3, rfl, hM3, hb10⟩
  have sM3 : M3.size ≤ 201 := by rw [Lib.size_eq, hM3]; exact N.made_len _ _ (unhide HJ).2.2 (by decide)
  have hb810 := (unhide H9).2.trans (hb10.mono (unhide H9).2.size)
  have h8x := unhide H8
  have H10 := hide (And.intro hM3 (And.intro (h8x.1.below hb810) (And.intro (h8x.2.1.trans (hb810.mono h8x.1.1)) (And.intro (owns_kept h8x.2.2.1 fun k e => hb810.block k (h8x.2.2.1.lt k e).2) (And.intro ((hb810.block _ (heap_lt h8x.2.2.2.1)).trans h8x.2.2.2.1) (owns_kept h8x.2.2.2.2 fun k e => hb810.block k (h8x.2.2.2.2.lt k e).2))))))
  clear hM3 hb10 hb810 h8x
  go_wp2_with fail
  obtain ⟨A, B, st11, hl11⟩ := N.gone_line (rawBits z0) (rawBits z1) (N.bitsV (rawBits z0) 3) (unhide HJ).2.1 (unhide HJ).2.2 [5] [6] (by simp) (N.bitsTells (rawBits z0) 3) st6
  have h10x := unhide H10
  have hd11 := h10x.2.1.does (m' := ⟨N.laidAll (N.bitsV (rawBits z0) 3) ++ N.wEnt N.tW (rawBits z0) :: N.goneRest A B, [5], [6], [], st11⟩) (⟨#[109, 97, 114, 107, 101, 114, 32, 122, 32]⟩ ++ M2 ++ ⟨#[32]⟩ ++ M3 ++ ⟨#[32, 118, 97, 114, 105, 97, 98, 108, 101, 32, 120, 32, 57, 32, 99, 111, 110, 115, 116, 97, 110, 116, 32, 107, 32, 122]⟩) ⟨#[]⟩ (hold_of (by simp [N.laidAll])) (by
    rw [bytes_app, bytes_app, bytes_app, bytes_app, h10x.1, (unhide H9).1]
    refine Eq.trans ?_ hl11
    congr 1
    simp [N.goneTxt, N.tW])
  refine hd11.mono ?_
  rintro e w11 ⟨rfl, h11, hb11, hk11⟩
  have H11 := hide (And.intro h11 (And.intro (h10x.2.2.1.trans hb11) (And.intro (owns_kept h10x.2.2.2.1 fun k e => hk11 k (.inl (.inl (.inr e)))) (And.intro ((hk11 _ (.inl (.inr rfl))).trans h10x.2.2.2.2.1) (owns_kept h10x.2.2.2.2.2 fun k e => hk11 k (.inr e))))))
  clear hd11 hl11 h11 hb11 hk11 h10x
  go_wp2_with fail
  refine (unhide H11).1.solo.words.mono ?_
  rintro e w12 ⟨v12, rfl, ho12, hb12, _⟩
  rw [words_two] at ho12
  obtain ⟨x12, y12, rfl, _, _⟩ := owns_slice ho12
  have h11x := unhide H11
  have H12 := hide (And.intro (h11x.1.more hb12 (fun k => (Value.slice x12 fiveNames.length y12).ownBlock = some k) (fun k hk => ho12.lt k hk)) (And.intro (h11x.2.1.trans (hb12.mono h11x.1.1)) (And.intro (owns_kept h11x.2.2.1 fun k e => hb12.block k (h11x.2.2.1.lt k e).2) (And.intro ((hb12.block _ (heap_lt h11x.2.2.2.1)).trans h11x.2.2.2.1) (And.intro (owns_kept h11x.2.2.2.2 fun k e => hb12.block k (h11x.2.2.2.2.lt k e).2) ho12)))))
  clear ho12 hb12 h11x
  go_wp2_with fail
  refine ((unhide H12).1.solo.see ⟨#[119]⟩).mono ?_
  rw [show (⟨#[119]⟩ : ByteArray).data.toList = [119] from rfl, see_two]
  rintro e w13 ⟨rfl, hb13⟩
  rw [unhide HTX]
  have h12x := unhide H12
  have H13 := hide (And.intro (h12x.1.below hb13) (And.intro (h12x.2.1.trans (hb13.mono h12x.1.1)) (And.intro (owns_kept h12x.2.2.1 fun k e => hb13.block k (h12x.2.2.1.lt k e).2) (And.intro ((hb13.block _ (heap_lt h12x.2.2.2.1)).trans h12x.2.2.2.1) (And.intro (owns_kept h12x.2.2.2.2.1 fun k e => hb13.block k (h12x.2.2.2.2.1.lt k e).2) (owns_kept h12x.2.2.2.2.2 fun k e => hb13.block k (h12x.2.2.2.2.2.lt k e).2))))))
  clear hb13 h12x
  go_wp2_with fail
  obtain ⟨st14, hl14⟩ := N.w_does (rawBits z0) (N.goneRest A B) (N.bitsV (rawBits z0) 3) (N.bitsV_fits _ (unhide HF3)) (unhide HJ).1.1 (unhide HJ).1.2 [5] [6] (by simp) (by simp) (fun _ _ => rfl) [] st11
  have h13x := unhide H13
  have hd14 := h13x.1.do ⟨#[119]⟩ (hold_of (by simp [N.laidAll, N.goneRest]))
  rw [show (⟨#[119]⟩ : ByteArray).data.toList = N.tW from rfl, hl14] at hd14
  refine hd14.mono ?_
  rintro e w14 ⟨rfl, h14, hb14, hk14⟩
  have hv14 : ansVal (⟨N.laidAll (N.bitsV (rawBits z0) (N.bitsV (rawBits z0) 3)) ++ N.wEnt N.tW (rawBits z0) :: N.goneRest A B, [5], [6], N.bitsTells (rawBits z0) (N.bitsV (rawBits z0) 3), st14⟩, N.bitsTells (rawBits z0) (N.bitsV (rawBits z0) 3), 0, 0) = .agg #[.string ⟨(N.bitsTells (rawBits z0) (N.bitsV (rawBits z0) 3)).toArray⟩, .int .i64 0, .int .i64 0] := rfl
  rw [hv14]
  generalize (⟨(N.bitsTells (rawBits z0) (N.bitsV (rawBits z0) 3)).toArray⟩ : ByteArray) = T14 at *
  have hbA : Below w14.heap.size w14 (w14.alloc (Obj.cells #[Value.string T14, Value.int .i64 0, Value.int .i64 0] 36)) := (Below.refl _ _).alloc (Nat.le_refl _) _
  have hnA := heap_alloc_new w14 (Obj.cells #[Value.string T14, Value.int .i64 0, Value.int .i64 0] 36)
  have r1 := owns_kept h13x.2.2.1 fun k e => hk14 k (.inl (.inl (.inl (.inr e))))
  have r2 := (hk14 _ (.inl (.inl (.inr rfl)))).trans h13x.2.2.2.1
  have r3 := owns_kept h13x.2.2.2.2.1 fun k e => hk14 k (.inl (.inr e))
  have r4 := owns_kept h13x.2.2.2.2.2 fun k e => hk14 k (.inr e)
  have H14 := hide (And.intro (h14.solo.below hbA) (And.intro ((h13x.2.1.trans hb14).trans (hbA.mono h14.1)) (And.intro (owns_kept r1 fun k e => hbA.block k (r1.lt k e).2) (And.intro ((hbA.block _ (heap_lt r2)).trans r2) (And.intro (owns_kept r3 fun k e => hbA.block k (r3.lt k e).2) (And.intro (owns_kept r4 fun k e => hbA.block k (r4.lt k e).2) hnA))))))
  clear hd14 hl14 h14 hb14 hk14 hv14 hbA hnA r1 r2 r3 r4 h13x
  go_wp2_with fail
  generalize (w14.alloc (Obj.cells #[Value.string T14, Value.int .i64 0, Value.int .i64 0] 36)) = w15 at *
  refine (unhide H14).1.stack.mono ?_
  rintro e w16 ⟨v16, rfl, ho16, hb16⟩
  obtain ⟨x16, y16, rfl, _, _⟩ := owns_slice ho16
  have H16 := hide (And.intro ho16 hb16)
  clear ho16 hb16
  go_wp2_with fail
  refine ((unhide H14).1.below (unhide H16).2).aside.mono ?_
  rintro e w17 ⟨v17, rfl, ho17, hb17⟩
  obtain ⟨g17, y17, rfl, _, _⟩ := ho17.form (by simp)
  have H17 := hide (And.intro ho17 (And.intro ((unhide H16).2.trans (hb17.mono (unhide H16).2.size)) (owns_kept (unhide H16).1 fun k e => hb17.block k ((unhide H16).1.lt k e).2)))
  clear ho17 hb17
  go_wp2_with fail
  have h14x := unhide H14
  have h17x := unhide H17
  refine (same_texts w17 _ _ _ _ fiveNames (by decide) (owns_kept h14x.2.2.1 fun k e => h17x.2.1.block k (h14x.2.2.1.lt k e).2) (owns_kept h14x.2.2.2.2.2.1 fun k e => h17x.2.1.block k (h14x.2.2.2.2.2.1.lt k e).2)).mono ?_
  rintro e w18 ⟨rfl, hb18⟩
  have H18 := hide (And.intro (h17x.2.1.trans (hb18.mono h17x.2.1.size)) (And.intro hb18 (owns_kept h17x.2.2 fun k e => hb18.block k (h17x.2.2.lt k e).2)))
  clear hb18 h14x h17x
  go_wp2_with fail
  have h14x := unhide H14
  have h18x := unhide H18
  refine (same_ints w18 _ _ _ _ [5] (by decide) (owns_kept h14x.2.2.2.2.1 fun k e => h18x.1.block k (h14x.2.2.2.2.1.lt k e).2) h18x.2.2).mono ?_
  rintro e w19 ⟨rfl, hb19⟩
  have hb15 := h18x.1.trans (hb19.mono h18x.1.size)
  have tA1 := (hb15.block _ (heap_lt h14x.2.2.2.1)).trans h14x.2.2.2.1
  have tA2 := (hb15.block _ (heap_lt h14x.2.2.2.2.2.2)).trans h14x.2.2.2.2.2.2
  have p1 : w19.cell? ⟨w6.heap.size, 1, none⟩ = some (.int .i64 0) := cell_of_block tA1 rfl
  have p2 : w19.cell? ⟨w14.heap.size, 1, none⟩ = some (.int .i64 0) := cell_of_block tA2 rfl
  have hs19 := owns_kept h14x.2.2.2.2.1 fun k e => hb15.block k (h14x.2.2.2.2.1.lt k e).2
  obtain ⟨g8, hg8⟩ : ∃ g, x8 = some ⟨g, 0, none⟩ := by
    obtain ⟨g, c, hv, _, _⟩ := hs19.form (by simp)
    injection hv with hv _ _
    exact ⟨g, hv⟩
  subst hg8
  have p3 : w19.cell? ⟨g8, 0, none⟩ = some (.int .i64 5) := by
    have := hs19.cells (g := g8) rfl 0 (.int .i64 5) rfl
    rwa [add_lit] at this
  have hb1719 := (unhide H18).2.1.trans (hb19.mono (unhide H18).2.1.size)
  have p4 : w19.cell? ⟨g17, 0, none⟩ = some (.int .i64 6) := by
    have h17x := unhide H17
    have := (owns_kept h17x.1 fun k e => hb1719.block k (h17x.1.lt k e).2).cells (g := g17) rfl 0 (.int .i64 6) rfl
    rwa [add_lit] at this
  have H19 := hide (h14x.2.1.trans (hb15.mono h14x.1.1))
  have hTT : (TX.toList == TX.toList) = true := by simp
  have hTN : (TX.toList != TX.toList) = false := by simp
  clear hb19 hb15 tA1 tA2 hs19 h14x h18x hb1719
  go_wp2
  go_ret
  exact ⟨rfl, unhide H19⟩
end Go.Proofs.YtgnlokmeohffaaaGreatDoor
