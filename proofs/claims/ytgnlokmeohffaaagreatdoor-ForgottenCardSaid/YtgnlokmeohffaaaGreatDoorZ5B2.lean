/- Parts of the proof: see the last text. -/
import Derived.Deep.RegionLaw
import Derived.Deep.DrawnRows
import Derived.Test.YtgnlokmeohffaaaGreatDoorZ5B1
/- The bits of which bodies are made: read into a definition. (Written by tools/mkbits.py.) -/
namespace Go.Proofs.YtgnlokmeohffaaaGreatDoor
namespace N
open Go.RowKit

def bitTxt : Nat → Txt
  | 0 => [49, 32, 46]
  | 1 => [50, 32, 51, 32, 43, 32, 46]
  | 2 => [53, 32, 48, 32, 100, 111, 32, 105, 32, 46, 32, 108, 111, 111, 112]
  | 3 => [49, 32, 105, 102, 32, 55, 32, 46, 32, 101, 108, 115, 101, 32, 56, 32, 46, 32, 116, 104, 101, 110]
  | 4 => [48, 32, 105, 102, 32, 55, 32, 46, 32, 101, 108, 115, 101, 32, 57, 32, 46, 32, 116, 104, 101, 110]
  | 5 => [54, 53, 32, 101, 109, 105, 116]
  | 6 => [97]
  | 7 => [98]
  | 8 => [118, 32, 64, 32, 46]
  | 9 => [118, 32, 64, 32, 49, 32, 43, 32, 118, 32, 33]
  | 10 => [107, 32, 46]
  | 11 => [51, 32, 98, 101, 103, 105, 110, 32, 100, 117, 112, 32, 46, 32, 49, 32, 45, 32, 100, 117, 112, 32, 110, 111, 116, 32, 117, 110, 116, 105, 108, 32, 100, 114, 111, 112]
  | 12 => [39, 32, 97, 32, 101, 120, 101, 99, 117, 116, 101]
  | _ => [99, 114]
def bitWs : Nat → List Txt
  | 0 => [[49], [46]]
  | 1 => [[50], [51], [43], [46]]
  | 2 => [[53], [48], wDo, wI, [46], wLoop]
  | 3 => [[49], wIf, [55], [46], wElse, [56], [46], wThen]
  | 4 => [[48], wIf, [55], [46], wElse, [57], [46], wThen]
  | 5 => [[54, 53], wEmit]
  | 6 => [[97]]
  | 7 => [[98]]
  | 8 => [[118], [64], [46]]
  | 9 => [[118], [64], [49], [43], [118], [33]]
  | 10 => [[107], [46]]
  | 11 => [[51], wBegin, [100, 117, 112], [46], [49], [45], [100, 117, 112], [110, 111, 116], wUntil, [100, 114, 111, 112]]
  | 12 => [[39], [97], [101, 120, 101, 99, 117, 116, 101]]
  | _ => [[99, 114]]
theorem bit_split : ∀ j, j < 14 → L.split (bitTxt j) = bitWs j := by decide +kernel
/-- What a word means that is not bold. -/
def readCell (m : Mach) (s : Txt) : Cell := (meaning m s).getD ⟨0, 0, []⟩
/-- What a bit is read into. -/
def bitOf (m : Mach) : Nat → List Cell
  | 0 => [readCell m [49], readCell m [46]]
  | 1 => [readCell m [50], readCell m [51], readCell m [43], readCell m [46]]
  | 2 => [readCell m [53], readCell m [48], ⟨4, 0, wDo⟩, ⟨4, 0, wI⟩, readCell m [46], ⟨4, 0, wLoop⟩]
  | 3 => [readCell m [49], ⟨4, 0, wIf⟩, readCell m [55], readCell m [46], ⟨4, 0, wElse⟩, readCell m [56], readCell m [46], ⟨4, 0, wThen⟩]
  | 4 => [readCell m [48], ⟨4, 0, wIf⟩, readCell m [55], readCell m [46], ⟨4, 0, wElse⟩, readCell m [57], readCell m [46], ⟨4, 0, wThen⟩]
  | 5 => [readCell m [54, 53], readCell m wEmit]
  | 6 => [readCell m [97]]
  | 7 => [readCell m [98]]
  | 8 => [readCell m [118], readCell m [64], readCell m [46]]
  | 9 => [readCell m [118], readCell m [64], readCell m [49], readCell m [43], readCell m [118], readCell m [33]]
  | 10 => [readCell m [107], readCell m [46]]
  | 11 => [readCell m [51], ⟨4, 0, wBegin⟩, readCell m [100, 117, 112], readCell m [46], readCell m [49], readCell m [45], readCell m [100, 117, 112], readCell m [110, 111, 116], ⟨4, 0, wUntil⟩, readCell m [100, 114, 111, 112]]
  | 12 => [⟨1, 1000 + ((newest m [97]).getD 0 : Nat), []⟩, readCell m [101, 120, 101, 99, 117, 116, 101]]
  | _ => [readCell m [99, 114]]
/-- What it is at a, b, v, k. -/
def bitCells : Nat → List Cell
  | 0 => [⟨1, 1, []⟩, ⟨3, 0, [46]⟩]
  | 1 => [⟨1, 2, []⟩, ⟨1, 3, []⟩, ⟨3, 0, [43]⟩, ⟨3, 0, [46]⟩]
  | 2 => [⟨1, 5, []⟩, ⟨1, 0, []⟩, ⟨4, 0, wDo⟩, ⟨4, 0, wI⟩, ⟨3, 0, [46]⟩, ⟨4, 0, wLoop⟩]
  | 3 => [⟨1, 1, []⟩, ⟨4, 0, wIf⟩, ⟨1, 7, []⟩, ⟨3, 0, [46]⟩, ⟨4, 0, wElse⟩, ⟨1, 8, []⟩, ⟨3, 0, [46]⟩, ⟨4, 0, wThen⟩]
  | 4 => [⟨1, 0, []⟩, ⟨4, 0, wIf⟩, ⟨1, 7, []⟩, ⟨3, 0, [46]⟩, ⟨4, 0, wElse⟩, ⟨1, 9, []⟩, ⟨3, 0, [46]⟩, ⟨4, 0, wThen⟩]
  | 5 => [⟨1, 65, []⟩, ⟨3, 0, wEmit⟩]
  | 6 => [⟨2, 0, []⟩]
  | 7 => [⟨2, 1, []⟩]
  | 8 => [⟨2, 2, []⟩, ⟨3, 0, [64]⟩, ⟨3, 0, [46]⟩]
  | 9 => [⟨2, 2, []⟩, ⟨3, 0, [64]⟩, ⟨1, 1, []⟩, ⟨3, 0, [43]⟩, ⟨2, 2, []⟩, ⟨3, 0, [33]⟩]
  | 10 => [⟨2, 3, []⟩, ⟨3, 0, [46]⟩]
  | 11 => [⟨1, 3, []⟩, ⟨4, 0, wBegin⟩, ⟨3, 0, [100, 117, 112]⟩, ⟨3, 0, [46]⟩, ⟨1, 1, []⟩, ⟨3, 0, [45]⟩, ⟨3, 0, [100, 117, 112]⟩, ⟨3, 0, [110, 111, 116]⟩, ⟨4, 0, wUntil⟩, ⟨3, 0, [100, 114, 111, 112]⟩]
  | 12 => [⟨1, 1000, []⟩, ⟨3, 0, [101, 120, 101, 99, 117, 116, 101]⟩]
  | _ => [⟨3, 0, [99, 114]⟩]
theorem bit_laid (o : Txt) (S R : List Int) (st : Nat) : ∀ j, j < 14 → bitOf ⟨laidAll 3, S, R, o, st⟩ j = bitCells j := by
  intro j hj
  have h : j = 0 ∨ j = 1 ∨ j = 2 ∨ j = 3 ∨ j = 4 ∨ j = 5 ∨ j = 6 ∨ j = 7 ∨ j = 8 ∨ j = 9 ∨ j = 10 ∨ j = 11 ∨ j = 12 ∨ j = 13 := by omega
  rcases h with rfl | rfl | rfl | rfl | rfl | rfl | rfl | rfl | rfl | rfl | rfl | rfl | rfl | rfl <;> rfl

theorem means_prim (m : Mach) (s : Txt) (h : isPrim s = true) : meaning m s = some (readCell m s) := by
  unfold readCell meaning
  cases newest m s with
  | some k => rfl
  | none => simp only [h, if_true, Option.getD_some]
theorem means_num (m : Mach) (s : Txt) (x : Int) (h : L.number s = some x) : meaning m s = some (readCell m s) := by
  unfold readCell meaning
  cases newest m s with
  | some k => rfl
  | none => simp only [prim_of_number h, h, Bool.false_eq_true, if_false, Option.map_some, Option.getD_some]
theorem means_own (m : Mach) (s : Txt) (k : Nat) (h : newest m s = some k) : meaning m s = some (readCell m s) := by
  unfold readCell meaning
  rw [h]
  rfl
/-- a, b, v, k are there. -/
structure Known (m : Mach) : Prop where
  a : ∃ k, newest m [97] = some k
  b : ∃ k, newest m [98] = some k
  v : ∃ k, newest m [118] = some k
  k : ∃ k, newest m [107] = some k

def bitFuel : Nat → Nat
  | 12 => 2
  | j => (bitWs j).length
section
variable (m : Mach) (f p : Nat) (ws t : List Txt) (b : List Cell)

theorem read_bit0 (hd : ws.drop p = bitWs 0 ++ t) (hb : b.length + 10 ≤ 60) : reads m ws (f + 2) p [] b = reads m ws f (p + 2) [] (b ++ bitOf m 0) := by
  have h0 : ws.drop p = [49] :: [46] :: t := hd
  have h1 := drop_next h0
  rw [show f + 2 = f + 1 + 1 from rfl]
  rw [reads_cell (drop_get h0) rfl (means_num m _ 1 rfl) (by omega)]
  rw [reads_cell (drop_get h1) rfl (means_prim m _ rfl) (by simp; omega)]
  simp only [List.append_assoc]
  rfl
theorem read_bit1 (hd : ws.drop p = bitWs 1 ++ t) (hb : b.length + 10 ≤ 60) : reads m ws (f + 4) p [] b = reads m ws f (p + 4) [] (b ++ bitOf m 1) := by
  have h0 : ws.drop p = [50] :: [51] :: [43] :: [46] :: t := hd
  have h1 := drop_next h0
  have h2 := drop_next h1
  have h3 := drop_next h2
  rw [show f + 4 = f + 1 + 1 + 1 + 1 from rfl]
  rw [reads_cell (drop_get h0) rfl (means_num m _ 2 rfl) (by omega)]
  rw [reads_cell (drop_get h1) rfl (means_num m _ 3 rfl) (by simp; omega)]
  rw [reads_cell (drop_get h2) rfl (means_prim m _ rfl) (by simp; omega)]
  rw [reads_cell (drop_get h3) rfl (means_prim m _ rfl) (by simp; omega)]
  simp only [List.append_assoc]
  rfl
theorem read_bit2 (hd : ws.drop p = bitWs 2 ++ t) (hb : b.length + 10 ≤ 60) : reads m ws (f + 6) p [] b = reads m ws f (p + 6) [] (b ++ bitOf m 2) := by
  have h0 : ws.drop p = [53] :: [48] :: wDo :: wI :: [46] :: wLoop :: t := hd
  have h1 := drop_next h0
  have h2 := drop_next h1
  have h3 := drop_next h2
  have h4 := drop_next h3
  have h5 := drop_next h4
  rw [show f + 6 = f + 1 + 1 + 1 + 1 + 1 + 1 from rfl]
  rw [reads_cell (drop_get h0) rfl (means_num m _ 5 rfl) (by omega)]
  rw [reads_cell (drop_get h1) rfl (means_num m _ 0 rfl) (by simp; omega)]
  rw [reads_bold (o' := [wDo]) (drop_get h2) rfl rfl rfl rfl (by simp; omega)]
  rw [reads_bold (o' := [wDo]) (drop_get h3) rfl rfl rfl rfl (by simp; omega)]
  rw [reads_cell (drop_get h4) rfl (means_prim m _ rfl) (by simp; omega)]
  rw [reads_bold (o' := []) (drop_get h5) rfl rfl rfl rfl (by simp; omega)]
  simp only [List.append_assoc]
  rfl
theorem read_bit3 (hd : ws.drop p = bitWs 3 ++ t) (hb : b.length + 10 ≤ 60) : reads m ws (f + 8) p [] b = reads m ws f (p + 8) [] (b ++ bitOf m 3) := by
  have h0 : ws.drop p = [49] :: wIf :: [55] :: [46] :: wElse :: [56] :: [46] :: wThen :: t := hd
  have h1 := drop_next h0
  have h2 := drop_next h1
  have h3 := drop_next h2
  have h4 := drop_next h3
  have h5 := drop_next h4
  have h6 := drop_next h5
  have h7 := drop_next h6
  rw [show f + 8 = f + 1 + 1 + 1 + 1 + 1 + 1 + 1 + 1 from rfl]
  rw [reads_cell (drop_get h0) rfl (means_num m _ 1 rfl) (by omega)]
  rw [reads_bold (o' := [wIf]) (drop_get h1) rfl rfl rfl rfl (by simp; omega)]
  rw [reads_cell (drop_get h2) rfl (means_num m _ 7 rfl) (by simp; omega)]
  rw [reads_cell (drop_get h3) rfl (means_prim m _ rfl) (by simp; omega)]
  rw [reads_bold (o' := [wElse]) (drop_get h4) rfl rfl rfl rfl (by simp; omega)]
  rw [reads_cell (drop_get h5) rfl (means_num m _ 8 rfl) (by simp; omega)]
  rw [reads_cell (drop_get h6) rfl (means_prim m _ rfl) (by simp; omega)]
  rw [reads_bold (o' := []) (drop_get h7) rfl rfl rfl rfl (by simp; omega)]
  simp only [List.append_assoc]
  rfl
theorem read_bit4 (hd : ws.drop p = bitWs 4 ++ t) (hb : b.length + 10 ≤ 60) : reads m ws (f + 8) p [] b = reads m ws f (p + 8) [] (b ++ bitOf m 4) := by
  have h0 : ws.drop p = [48] :: wIf :: [55] :: [46] :: wElse :: [57] :: [46] :: wThen :: t := hd
  have h1 := drop_next h0
  have h2 := drop_next h1
  have h3 := drop_next h2
  have h4 := drop_next h3
  have h5 := drop_next h4
  have h6 := drop_next h5
  have h7 := drop_next h6
  rw [show f + 8 = f + 1 + 1 + 1 + 1 + 1 + 1 + 1 + 1 from rfl]
  rw [reads_cell (drop_get h0) rfl (means_num m _ 0 rfl) (by omega)]
  rw [reads_bold (o' := [wIf]) (drop_get h1) rfl rfl rfl rfl (by simp; omega)]
  rw [reads_cell (drop_get h2) rfl (means_num m _ 7 rfl) (by simp; omega)]
  rw [reads_cell (drop_get h3) rfl (means_prim m _ rfl) (by simp; omega)]
  rw [reads_bold (o' := [wElse]) (drop_get h4) rfl rfl rfl rfl (by simp; omega)]
  rw [reads_cell (drop_get h5) rfl (means_num m _ 9 rfl) (by simp; omega)]
  rw [reads_cell (drop_get h6) rfl (means_prim m _ rfl) (by simp; omega)]
  rw [reads_bold (o' := []) (drop_get h7) rfl rfl rfl rfl (by simp; omega)]
  simp only [List.append_assoc]
  rfl
theorem read_bit5 (hd : ws.drop p = bitWs 5 ++ t) (hb : b.length + 10 ≤ 60) : reads m ws (f + 2) p [] b = reads m ws f (p + 2) [] (b ++ bitOf m 5) := by
  have h0 : ws.drop p = [54, 53] :: wEmit :: t := hd
  have h1 := drop_next h0
  rw [show f + 2 = f + 1 + 1 from rfl]
  rw [reads_cell (drop_get h0) rfl (means_num m _ 65 rfl) (by omega)]
  rw [reads_cell (drop_get h1) rfl (means_prim m _ rfl) (by simp; omega)]
  simp only [List.append_assoc]
  rfl
theorem read_bit6 (hk : Known m) (hd : ws.drop p = bitWs 6 ++ t) (hb : b.length + 10 ≤ 60) : reads m ws (f + 1) p [] b = reads m ws f (p + 1) [] (b ++ bitOf m 6) := by
  obtain ⟨⟨ka, ha⟩, ⟨kb, hb'⟩, ⟨kv, hv⟩, ⟨kk, hkk⟩⟩ := hk
  have h0 : ws.drop p = [97] :: t := hd
  rw [show f + 1 = f + 1 from rfl]
  rw [reads_cell (drop_get h0) rfl (means_own m _ _ ha) (by omega)]
  rfl
theorem read_bit7 (hk : Known m) (hd : ws.drop p = bitWs 7 ++ t) (hb : b.length + 10 ≤ 60) : reads m ws (f + 1) p [] b = reads m ws f (p + 1) [] (b ++ bitOf m 7) := by
  obtain ⟨⟨ka, ha⟩, ⟨kb, hb'⟩, ⟨kv, hv⟩, ⟨kk, hkk⟩⟩ := hk
  have h0 : ws.drop p = [98] :: t := hd
  rw [show f + 1 = f + 1 from rfl]
  rw [reads_cell (drop_get h0) rfl (means_own m _ _ hb') (by omega)]
  rfl
theorem read_bit8 (hk : Known m) (hd : ws.drop p = bitWs 8 ++ t) (hb : b.length + 10 ≤ 60) : reads m ws (f + 3) p [] b = reads m ws f (p + 3) [] (b ++ bitOf m 8) := by
  obtain ⟨⟨ka, ha⟩, ⟨kb, hb'⟩, ⟨kv, hv⟩, ⟨kk, hkk⟩⟩ := hk
  have h0 : ws.drop p = [118] :: [64] :: [46] :: t := hd
  have h1 := drop_next h0
  have h2 := drop_next h1
  rw [show f + 3 = f + 1 + 1 + 1 from rfl]
  rw [reads_cell (drop_get h0) rfl (means_own m _ _ hv) (by omega)]
  rw [reads_cell (drop_get h1) rfl (means_prim m _ rfl) (by simp; omega)]
  rw [reads_cell (drop_get h2) rfl (means_prim m _ rfl) (by simp; omega)]
  simp only [List.append_assoc]
  rfl
theorem read_bit9 (hk : Known m) (hd : ws.drop p = bitWs 9 ++ t) (hb : b.length + 10 ≤ 60) : reads m ws (f + 6) p [] b = reads m ws f (p + 6) [] (b ++ bitOf m 9) := by
  obtain ⟨⟨ka, ha⟩, ⟨kb, hb'⟩, ⟨kv, hv⟩, ⟨kk, hkk⟩⟩ := hk
  have h0 : ws.drop p = [118] :: [64] :: [49] :: [43] :: [118] :: [33] :: t := hd
  have h1 := drop_next h0
  have h2 := drop_next h1
  have h3 := drop_next h2
  have h4 := drop_next h3
  have h5 := drop_next h4
  rw [show f + 6 = f + 1 + 1 + 1 + 1 + 1 + 1 from rfl]
  rw [reads_cell (drop_get h0) rfl (means_own m _ _ hv) (by omega)]
  rw [reads_cell (drop_get h1) rfl (means_prim m _ rfl) (by simp; omega)]
  rw [reads_cell (drop_get h2) rfl (means_num m _ 1 rfl) (by simp; omega)]
  rw [reads_cell (drop_get h3) rfl (means_prim m _ rfl) (by simp; omega)]
  rw [reads_cell (drop_get h4) rfl (means_own m _ _ hv) (by simp; omega)]
  rw [reads_cell (drop_get h5) rfl (means_prim m _ rfl) (by simp; omega)]
  simp only [List.append_assoc]
  rfl
theorem read_bit10 (hk : Known m) (hd : ws.drop p = bitWs 10 ++ t) (hb : b.length + 10 ≤ 60) : reads m ws (f + 2) p [] b = reads m ws f (p + 2) [] (b ++ bitOf m 10) := by
  obtain ⟨⟨ka, ha⟩, ⟨kb, hb'⟩, ⟨kv, hv⟩, ⟨kk, hkk⟩⟩ := hk
  have h0 : ws.drop p = [107] :: [46] :: t := hd
  have h1 := drop_next h0
  rw [show f + 2 = f + 1 + 1 from rfl]
  rw [reads_cell (drop_get h0) rfl (means_own m _ _ hkk) (by omega)]
  rw [reads_cell (drop_get h1) rfl (means_prim m _ rfl) (by simp; omega)]
  simp only [List.append_assoc]
  rfl
theorem read_bit11 (hd : ws.drop p = bitWs 11 ++ t) (hb : b.length + 10 ≤ 60) : reads m ws (f + 10) p [] b = reads m ws f (p + 10) [] (b ++ bitOf m 11) := by
  have h0 : ws.drop p = [51] :: wBegin :: [100, 117, 112] :: [46] :: [49] :: [45] :: [100, 117, 112] :: [110, 111, 116] :: wUntil :: [100, 114, 111, 112] :: t := hd
  have h1 := drop_next h0
  have h2 := drop_next h1
  have h3 := drop_next h2
  have h4 := drop_next h3
  have h5 := drop_next h4
  have h6 := drop_next h5
  have h7 := drop_next h6
  have h8 := drop_next h7
  have h9 := drop_next h8
  rw [show f + 10 = f + 1 + 1 + 1 + 1 + 1 + 1 + 1 + 1 + 1 + 1 from rfl]
  rw [reads_cell (drop_get h0) rfl (means_num m _ 3 rfl) (by omega)]
  rw [reads_bold (o' := [wBegin]) (drop_get h1) rfl rfl rfl rfl (by simp; omega)]
  rw [reads_cell (drop_get h2) rfl (means_prim m _ rfl) (by simp; omega)]
  rw [reads_cell (drop_get h3) rfl (means_prim m _ rfl) (by simp; omega)]
  rw [reads_cell (drop_get h4) rfl (means_num m _ 1 rfl) (by simp; omega)]
  rw [reads_cell (drop_get h5) rfl (means_prim m _ rfl) (by simp; omega)]
  rw [reads_cell (drop_get h6) rfl (means_prim m _ rfl) (by simp; omega)]
  rw [reads_cell (drop_get h7) rfl (means_prim m _ rfl) (by simp; omega)]
  rw [reads_bold (o' := []) (drop_get h8) rfl rfl rfl rfl (by simp; omega)]
  rw [reads_cell (drop_get h9) rfl (means_prim m _ rfl) (by simp; omega)]
  simp only [List.append_assoc]
  rfl
theorem read_bit12 (hk : Known m) (hd : ws.drop p = bitWs 12 ++ t) (hb : b.length + 10 ≤ 60) : reads m ws (f + 2) p [] b = reads m ws f (p + 3) [] (b ++ bitOf m 12) := by
  obtain ⟨⟨ka, ha⟩, ⟨kb, hb'⟩, ⟨kv, hv⟩, ⟨kk, hkk⟩⟩ := hk
  have h0 : ws.drop p = [39] :: [97] :: [101, 120, 101, 99, 117, 116, 101] :: t := hd
  have h1 := drop_next h0
  have h2 := drop_next h1
  rw [show f + 2 = f + 1 + 1 from rfl, reads_tok (t := [97]) (drop_get h0) (drop_get h1) rfl ha (by omega), reads_cell (drop_get h2) rfl (means_prim m _ rfl) (by simp; omega)]
  unfold bitOf
  rw [ha, List.append_assoc]
  rfl
theorem read_bit13 (hd : ws.drop p = bitWs 13 ++ t) (hb : b.length + 10 ≤ 60) : reads m ws (f + 1) p [] b = reads m ws f (p + 1) [] (b ++ bitOf m 13) := by
  have h0 : ws.drop p = [99, 114] :: t := hd
  rw [show f + 1 = f + 1 from rfl]
  rw [reads_cell (drop_get h0) rfl (means_prim m _ rfl) (by omega)]
  rfl
end
theorem read_bit (m : Mach) (hk : Known m) (j : Nat) (hj : j < 14) (f p : Nat) (ws t : List Txt) (b : List Cell) (hd : ws.drop p = bitWs j ++ t) (hb : b.length + 10 ≤ 60) : reads m ws (f + bitFuel j) p [] b = reads m ws f (p + (bitWs j).length) [] (b ++ bitOf m j) := by
  have h : j = 0 ∨ j = 1 ∨ j = 2 ∨ j = 3 ∨ j = 4 ∨ j = 5 ∨ j = 6 ∨ j = 7 ∨ j = 8 ∨ j = 9 ∨ j = 10 ∨ j = 11 ∨ j = 12 ∨ j = 13 := by omega
  rcases h with rfl | rfl | rfl | rfl | rfl | rfl | rfl | rfl | rfl | rfl | rfl | rfl | rfl | rfl
  · exact read_bit0 m f p ws t b hd hb
  · exact read_bit1 m f p ws t b hd hb
  · exact read_bit2 m f p ws t b hd hb
  · exact read_bit3 m f p ws t b hd hb
  · exact read_bit4 m f p ws t b hd hb
  · exact read_bit5 m f p ws t b hd hb
  · exact read_bit6 m f p ws t b hk hd hb
  · exact read_bit7 m f p ws t b hk hd hb
  · exact read_bit8 m f p ws t b hk hd hb
  · exact read_bit9 m f p ws t b hk hd hb
  · exact read_bit10 m f p ws t b hk hd hb
  · exact read_bit11 m f p ws t b hd hb
  · exact read_bit12 m f p ws t b hk hd hb
  · exact read_bit13 m f p ws t b hd hb
theorem bit_len (m : Mach) : ∀ j, (bitOf m j).length ≤ 10 := fun j => by unfold bitOf; split <;> simp
theorem bitTxt_len : ∀ j, (bitTxt j).length ≤ 36 := fun j => by unfold bitTxt; split <;> simp
theorem bitWs_len : ∀ j, (bitWs j).length ≤ 10 := fun j => by unfold bitWs; split <;> simp
theorem bitFuel_len : ∀ j, bitFuel j ≤ (bitWs j).length := fun j => by
  unfold bitFuel
  split
  · decide
  · exact Nat.le_refl _

def bitsTxt : List Nat → Txt
  | [] => []
  | j :: js => 32 :: (bitTxt j ++ bitsTxt js)
def bitsWs (js : List Nat) : List Txt := js.flatMap bitWs
def bitsFuel : List Nat → Nat
  | [] => 0
  | j :: js => bitsFuel js + bitFuel j
theorem bitsFuel_len : ∀ js, bitsFuel js ≤ (bitsWs js).length
  | [] => Nat.zero_le _
  | j :: js => by
    have h1 := bitsFuel_len js
    have h2 := bitFuel_len j
    simp only [bitsFuel, bitsWs, List.flatMap_cons, List.length_append] at h1 ⊢
    omega
theorem read_bits (m : Mach) (hk : Known m) : ∀ (js : List Nat) (f p : Nat) (ws t : List Txt) (b : List Cell), (∀ j ∈ js, j < 14) → ws.drop p = bitsWs js ++ t → b.length + 10 * js.length ≤ 60 → reads m ws (f + bitsFuel js) p [] b = reads m ws f (p + (bitsWs js).length) [] (b ++ js.flatMap (bitOf m))
  | [], f, p, ws, t, b, _, _, _ => by simp [bitsFuel, bitsWs]
  | j :: js, f, p, ws, t, b, hj, hd, hb => by
    have e : bitsWs (j :: js) = bitWs j ++ bitsWs js := rfl
    rw [e, List.append_assoc] at hd
    simp only [List.length_cons] at hb
    have h1 := read_bit m hk j (hj j (by simp)) (f + bitsFuel js) p ws _ b hd (by omega)
    have hl := bit_len m j
    have hd2 : ws.drop (p + (bitWs j).length) = bitsWs js ++ t := by rw [← List.drop_drop, hd, List.drop_left]
    have h2 := read_bits m hk js f (p + (bitWs j).length) ws t (b ++ bitOf m j) (fun x hx => hj x (by simp [hx])) hd2 (by simp only [List.length_append]; omega)
    rw [e, List.length_append, show bitsFuel (j :: js) = bitsFuel js + bitFuel j from rfl, ← Nat.add_assoc, h1, h2]
    simp only [List.flatMap_cons, List.append_assoc, Nat.add_assoc]
theorem bits_split : ∀ (js : List Nat) (x y : Txt), (∀ j ∈ js, j < 14) → L.split (x ++ (bitsTxt js ++ 32 :: y)) = L.split x ++ bitsWs js ++ L.split y
  | [], x, y, _ => by
    show L.split (x ++ 32 :: y) = _
    rw [split_blank 32 (by decide)]
    simp [bitsWs]
  | j :: js, x, y, hj => by
    have e : x ++ (bitsTxt (j :: js) ++ 32 :: y) = x ++ 32 :: (bitTxt j ++ (bitsTxt js ++ 32 :: y)) := by simp [bitsTxt]
    rw [e, split_blank 32 (by decide), bits_split js (bitTxt j) y fun x hx => hj x (by simp [hx]), bit_split j (hj j (by simp))]
    simp only [bitsWs, List.flatMap_cons, List.append_assoc]
theorem bitsTxt_len : ∀ js, (bitsTxt js).length ≤ 37 * js.length
  | [] => Nat.zero_le _
  | j :: js => by
    have h1 := bitsTxt_len js
    have h2 := bitTxt_len j
    simp only [bitsTxt, List.length_cons, List.length_append]
    omega
theorem bitsWs_len : ∀ js, (bitsWs js).length ≤ 10 * js.length
  | [] => Nat.zero_le _
  | j :: js => by
    have h1 := bitsWs_len js
    have h2 := bitWs_len j
    simp only [bitsWs, List.flatMap_cons, List.length_cons, List.length_append] at h1 ⊢
    omega

theorem count_le (m : Mach) : count m ≤ m.all.length := List.length_filter_le _ _
/-- A definition of bits, among the words of a line. -/
theorem one_def (m : Mach) (hk : Known m) (js : List Nat) (nm : Txt) (p : Nat) (ws t : List Txt) (hj : ∀ j ∈ js, j < 14) (hn : js.length ≤ 6) (hd : ws.drop p = [58] :: nm :: (bitsWs js ++ [59] :: t)) (hf : nameFits nm = true) (hb : L.isBold nm = false) (hc : m.all.length < 40) :
    one m ws p [58] = ({ m with all := m.all ++ [⟨nm, 1, 0, js.flatMap (bitOf m), true, false⟩] }, 0, 0, p + (bitsWs js).length + 3) := by
  have h1 := drop_next hd
  have h2 := drop_next h1
  have hcm := count_le m
  have e1 : nameErr m (some nm) true = 0 := by
    unfold nameErr
    simp only [hb, hf, Bool.not_true, Bool.and_false, Bool.or_self, Bool.false_eq_true, if_false, true_and]
    rw [if_neg (by omega)]
  have hlen : (bitsWs js).length + 1 ≤ ws.length := by
    have := congrArg List.length h2
    simp only [List.length_drop, List.length_append, List.length_cons] at this
    omega
  have hfu := bitsFuel_len js
  have hr : reads m ws (ws.length + 1) (p + 2) [] [] = (js.flatMap (bitOf m), 0, 0, p + 2 + (bitsWs js).length + 1) := by
    rw [show ws.length + 1 = (ws.length - bitsFuel js) + 1 + bitsFuel js by omega, read_bits m hk js _ (p + 2) ws _ [] hj h2 (by simp; omega)]
    have h3 : ws.drop (p + 2 + (bitsWs js).length) = [59] :: t := by rw [← List.drop_drop, show ws.drop (p + 2) = _ from h2, List.drop_left]
    rw [reads_end (drop_get h3), List.nil_append]
  have e2 : one m ws p [58] = (if nameErr m ws[p + 1]? true ≠ 0 then (m, nameErr m ws[p + 1]? true, p, p + 2) else
     ({ m with all := m.all ++ [⟨(ws[p + 1]?).getD [], 1, 0, (reads m ws (ws.length + 1) (p + 2) [] []).1, (reads m ws (ws.length + 1) (p + 2) [] []).2.1 == 0, false⟩] }, (reads m ws (ws.length + 1) (p + 2) [] []).2.1, (reads m ws (ws.length + 1) (p + 2) [] []).2.2.1, (reads m ws (ws.length + 1) (p + 2) [] []).2.2.2)) := rfl
  rw [e2, drop_get h1, e1, hr]
  simp only [ne_eq, not_true_eq_false, if_false, Option.getD_some, beq_self_eq_true]
  congr 3
  omega
end N
end Go.Proofs.YtgnlokmeohffaaaGreatDoor
/- The bits of which bodies are made: done, whatever was made behind a, b, v, k. -/
namespace Go.Proofs.YtgnlokmeohffaaaGreatDoor
namespace N
open Go.RowKit

theorem back_skip {l : List Cell} {o : Txt} {s : List Txt} {i : Nat} {d : Int} {c : Cell} (h : l[i]? = some c) (hk : c.kind ≠ 4) : backOf l o s (i + 1) d = backOf l o s i d := by
  rw [backOf, h]
  exact if_pos hk
theorem back_hit {l : List Cell} {o : Txt} {s : List Txt} {i : Nat} {n : Int} (h : l[i]? = some ⟨4, n, o⟩) : backOf l o s (i + 1) 0 = i + 1 := by
  rw [backOf, h]
  show (if (4 : Nat) ≠ 4 then _ else if (o == o) = true ∧ (0 : Int) = 0 then i + 1 else _) = _
  rw [if_neg (by simp), if_pos ⟨by simp, rfl⟩]
theorem back_other {l : List Cell} {o nm : Txt} {s : List Txt} {i : Nat} {n d : Int} (h : l[i]? = some ⟨4, n, nm⟩) (h1 : (nm == o) = false) (h2 : (s.any fun b => nm == b) = false) : backOf l o s (i + 1) d = backOf l o s i d := by
  rw [backOf, h]
  simp only [h1, h2]
  simp

section
variable {f p st k d : Nat} {all : List Ent} {S R : List Int} {out : Txt} {l : List Cell} {r : List (Int × Int)} {t : List Cell} {a b : Int}

theorem do_ok (h : b < a) : rounds ⟨all, S ++ [a] ++ [b], R, out, st⟩ l p wDo r = (⟨all, S, R, out, st⟩, p + 1, r ++ [(a, b)], 0) := by
  unfold rounds
  have e1 : (S ++ [a] ++ [b]).length = S.length + 2 := by simp
  have e2 : (S ++ [a] ++ [b]).getD (S.length + 2 - 1) 0 = b := by simp [List.getD_eq_getElem?_getD]
  have e3 : (S ++ [a] ++ [b]).getD (S.length + 2 - 2) 0 = a := by simp [List.getD_eq_getElem?_getD]
  have e4 : (S ++ [a] ++ [b]).take (S.length + 2 - 2) = S := by simp
  simp only [e1, e2, e3, e4, show (wDo == wDo) = true from rfl, if_true]
  rw [if_neg (by omega), if_neg (by omega)]
theorem loop_on {i : Int} {q : Nat} (hm : modest (i + 1)) (h : i + 1 < b) (hq : backOf l wDo [wLoop] p 0 = q) : rounds ⟨all, S, R, out, st⟩ l p wLoop [(b, i)] = (⟨all, S, R, out, st⟩, q, [(b, i + 1)], 0) := by
  show (if wrap64 (i + 1) < b then _ else _) = _
  rw [wrap_small hm, if_pos h]
  show (_, backOf l wDo [wLoop] p 0, [(b, wrap64 (i + 1))], _) = _
  rw [wrap_small hm, hq]
theorem loop_end {i : Int} (hm : modest (i + 1)) (h : ¬ i + 1 < b) : rounds ⟨all, S, R, out, st⟩ l p wLoop [(b, i)] = (⟨all, S, R, out, st⟩, p + 1, [], 0) := by
  show (if wrap64 (i + 1) < b then _ else _) = _
  rw [wrap_small hm, if_neg h]
  rfl
theorem pop_ok : pop ⟨all, S ++ [a], R, out, st⟩ = some (⟨all, S, R, out, st⟩, a) := by
  unfold pop
  simp

/-- A number, and it is told. -/
theorem num_tell {n : Int} (hx : modest n) (h1 : l.drop p = ⟨1, n, []⟩ :: ⟨3, 0, [46]⟩ :: t) (hS : S.length ≤ 12) (hR : R.length ≤ 16) (ho : out.length + 4 ≤ 300) (hs : st + 2 ≤ 1000) :
    body (f + 2) ⟨all, S, R, out, st⟩ k l d p r = body f ⟨all, S, R, out ++ (Lib.itoa n ++ [32]), st + 2⟩ k l d (p + 2) r := by
  rw [show f + 2 = f + 1 + 1 from rfl, body_number (drop_get h1) (by omega) (by omega), body_prim (drop_get (drop_next h1)) (by omega) (dot_ok n hx (by omega) hR ho)]

/-- A round of '5 0 do i . loop', behind the do. -/
theorem count_round {i : Int} (hi : 0 ≤ i) (hi5 : i < 5) (h2 : l.drop p = ⟨4, 0, wDo⟩ :: ⟨4, 0, wI⟩ :: ⟨3, 0, [46]⟩ :: ⟨4, 0, wLoop⟩ :: t) (hS : S.length ≤ 12) (hR : R.length ≤ 16) (ho : out.length + 4 ≤ 300) (hs : st + 3 ≤ 1000) :
    body (f + 3) ⟨all, S, R, out, st⟩ k l d (p + 1) [(5, i)] = if i + 1 < 5 then body f ⟨all, S, R, out ++ (Lib.itoa i ++ [32]), st + 3⟩ k l d (p + 1) [(5, i + 1)] else body f ⟨all, S, R, out ++ (Lib.itoa i ++ [32]), st + 3⟩ k l d (p + 4) [] := by
  have h3 := drop_next h2
  have h4 := drop_next h3
  have h5 := drop_next h4
  have hm : modest i := ⟨by omega, by omega⟩
  have hm1 : modest (i + 1) := ⟨by omega, by omega⟩
  rw [show f + 3 = f + 1 + 1 + 1 from rfl, body_rounds (s := wI) (drop_get h3) rfl rfl rfl (by omega) (i_ok (by omega)), body_prim (drop_get h4) (by omega) (dot_ok i hm (by omega) hR ho)]
  by_cases h : i + 1 < 5
  · rw [if_pos h]
    have hq : backOf l wDo [wLoop] (p + 1 + 1 + 1) 0 = p + 1 := by
      rw [back_skip (drop_get h4) (by simp), back_other (drop_get h3) rfl rfl, back_hit (drop_get h2)]
    exact body_rounds (s := wLoop) (drop_get h5) rfl rfl rfl (by omega) (loop_on hm1 h hq)
  · rw [if_neg h]
    exact body_rounds (s := wLoop) (drop_get h5) rfl rfl rfl (by omega) (loop_end hm1 h)

/-- A round of 'begin dup . 1 - dup not until', behind the begin. -/
theorem down_round {x : Int} (hx : 1 ≤ x) (hx2 : x ≤ 3) (h1 : l.drop p = ⟨4, 0, wBegin⟩ :: ⟨3, 0, [100, 117, 112]⟩ :: ⟨3, 0, [46]⟩ :: ⟨1, 1, []⟩ :: ⟨3, 0, [45]⟩ :: ⟨3, 0, [100, 117, 112]⟩ :: ⟨3, 0, [110, 111, 116]⟩ :: ⟨4, 0, wUntil⟩ :: t) (hS : S.length ≤ 11) (hR : R.length ≤ 16) (ho : out.length + 4 ≤ 300) (hs : st + 7 ≤ 1000) :
    body (f + 7) ⟨all, S ++ [x], R, out, st⟩ k l d (p + 1) [] = if x = 1 then body f ⟨all, S ++ [0], R, out ++ (Lib.itoa x ++ [32]), st + 7⟩ k l d (p + 8) [] else body f ⟨all, S ++ [x - 1], R, out ++ (Lib.itoa x ++ [32]), st + 7⟩ k l d (p + 1) [] := by
  have h2 := drop_next h1
  have h3 := drop_next h2
  have h4 := drop_next h3
  have h5 := drop_next h4
  have h6 := drop_next h5
  have h7 := drop_next h6
  have h8 := drop_next h7
  have hm : modest x := ⟨by omega, by omega⟩
  have hl := modest_len x hm
  have hw : wrap64 (x - 1) = x - 1 := wrap_small ⟨by omega, by omega⟩
  rw [show f + 7 = f + 1 + 1 + 1 + 1 + 1 + 1 + 1 from rfl, body_prim (drop_get h2) (by omega) (dup_ok (by omega) hR (by omega))]
  rw [show S ++ [x, x] = (S ++ [x]) ++ [x] by simp, body_prim (drop_get h3) (by omega) (dot_ok x hm (by simp; omega) hR ho)]
  have ho2 : (out ++ (Lib.itoa x ++ [32])).length ≤ 300 := by simp only [List.length_append, List.length_cons, List.length_nil]; omega
  generalize out ++ (Lib.itoa x ++ [32]) = o at *
  rw [body_number (drop_get h4) (by omega) (by simp; omega)]
  rw [show S ++ [x] ++ [1] = S ++ [x, 1] by simp, body_prim (drop_get h5) (by omega) (minus_ok (by omega) hR ho2), hw]
  rw [body_prim (drop_get h6) (by omega) (dup_ok (by omega) hR ho2)]
  rw [show S ++ [x - 1, x - 1] = (S ++ [x - 1]) ++ [x - 1] by simp, body_prim (drop_get h7) (by omega) (not_ok (by simp; omega) hR ho2)]
  by_cases h : x = 1
  · rw [if_pos h]
    refine body_ways (s := wUntil) (drop_get h8) rfl rfl rfl (by omega) ?_
    subst h
    unfold ways
    rw [show L.truth ((1 : Int) - 1 == 0) = -1 from rfl, pop_ok]
    rfl
  · rw [if_neg h]
    refine body_ways (s := wUntil) (drop_get h8) rfl rfl rfl (by omega) ?_
    unfold ways
    have e : L.truth (x - 1 == 0) = 0 := by
      unfold L.truth
      rw [if_neg (by simp; omega)]
    rw [e, pop_ok]
    show ((⟨all, S ++ [x - 1], R, o, st + 1 + 1 + 1 + 1 + 1 + 1 + 1⟩ : Mach), backOf l wBegin ends (p + 1 + 1 + 1 + 1 + 1 + 1 + 1) 0, (0 : Int)) = _
    rw [back_skip (drop_get h7) (by simp), back_skip (drop_get h6) (by simp), back_skip (drop_get h5) (by simp), back_skip (drop_get h4) (by simp), back_skip (drop_get h3) (by simp), back_skip (drop_get h2) (by simp), back_hit (drop_get h1)]
end

def bitTells (j : Nat) (n : Int) : Txt := match j with
  | 0 => [49, 32]
  | 1 => [53, 32]
  | 2 => [48, 32, 49, 32, 50, 32, 51, 32, 52, 32]
  | 3 => [55, 32]
  | 4 => [57, 32]
  | 5 => [65]
  | 6 => [97]
  | 7 => [97, 98]
  | 8 => Lib.itoa n ++ [32]
  | 9 => []
  | 10 => [52, 48, 32]
  | 11 => [51, 32, 50, 32, 49, 32]
  | 12 => [97]
  | _ => [10]
def bitV (j : Nat) (n : Int) : Int := if j = 9 then wrap64 (n + 1) else n
/-- How many words of it are come to; and of all that it leads to. -/
def bitOwn : Nat → Nat
  | 0 => 2
  | 1 => 4
  | 2 => 18
  | 3 => 5
  | 4 => 5
  | 5 => 2
  | 6 => 1
  | 7 => 1
  | 8 => 3
  | 9 => 6
  | 10 => 2
  | 11 => 24
  | 12 => 2
  | _ => 1
def bitCost : Nat → Nat
  | 6 => 3
  | 7 => 6
  | 12 => 4
  | j => bitOwn j
end N
end Go.Proofs.YtgnlokmeohffaaaGreatDoor
/- The bits of which bodies are made, one and many: done, whatever was made behind a, b, v, k. -/
namespace Go.Proofs.YtgnlokmeohffaaaGreatDoor
namespace N
open Go.RowKit

def fitsInt (n : Int) : Prop := -9223372036854775808 ≤ n ∧ n ≤ 9223372036854775807
theorem fits_len {n : Int} (h : fitsInt n) : (Lib.itoa n).length ≤ 20 := by
  obtain ⟨h0, h1⟩ := h
  unfold Lib.itoa
  split
  · have := dec_len n.natAbs (by omega)
    simp; omega
  · have := dec_len n.toNat (by omega)
    omega
theorem fits_wrap (n : Int) : fitsInt (wrap64 n) := by unfold fitsInt wrap64; omega
theorem bitV_fits {n : Int} (h : fitsInt n) (j : Nat) : fitsInt (bitV j n) := by
  unfold bitV
  split
  · exact fits_wrap _
  · exact h
theorem bitTells_len {n : Int} (h : fitsInt n) (j : Nat) : (bitTells j n).length ≤ 21 := by
  have := fits_len h
  unfold bitTells
  split <;> simp only [List.length_append, List.length_cons, List.length_nil] <;> omega

section
variable {f p st k d : Nat} {rest : List Ent} {S R : List Int} {out : Txt} {l : List Cell} {t : List Cell} {n : Int}

theorem exec_ok : prim ⟨laidAll n ++ rest, S ++ [1000], R, out, st⟩ [101, 120, 101, 99, 117, 116, 101] = (⟨laidAll n ++ rest, S, R, out, st⟩, 0, some 0) ∨ ¬ (S.length ≤ 16 ∧ R.length ≤ 16 ∧ out.length ≤ 300) := by
  by_cases h : S.length ≤ 16 ∧ R.length ≤ 16 ∧ out.length ≤ 300
  · left
    rw [prim_ok [101, 120, 101, 99, 117, 116, 101] [1000] 1 0 0 0 rfl rfl (Nat.zero_le _) rfl h.1 h.2.1 h.2.2]
    show (does ⟨laidAll n ++ rest, S ++ [1000], R, out ++ [], st⟩ [101, 120, 101, 99, 117, 116, 101] [1000] S, (0 : Int), some 0) = _
    rw [List.append_nil]
    rfl
  · exact .inr h

theorem do_bit (j : Nat) (hj : j < 14) (hn : fitsInt n) (hd : l.drop p = bitCells j ++ t) (hS : S.length ≤ 10) (hR : R.length ≤ 16) (ho : out.length + 21 ≤ 300) (hs : st + 30 ≤ 1000) (hdp : d ≤ 9) (hf : 10 ≤ f) :
    body (f + bitOwn j) ⟨laidAll n ++ rest, S, R, out, st⟩ k l d p [] = body f ⟨laidAll (bitV j n) ++ rest, S, R, out ++ bitTells j n, st + bitCost j⟩ k l d (p + (bitCells j).length) [] := by
  have h : j = 0 ∨ j = 1 ∨ j = 2 ∨ j = 3 ∨ j = 4 ∨ j = 5 ∨ j = 6 ∨ j = 7 ∨ j = 8 ∨ j = 9 ∨ j = 10 ∨ j = 11 ∨ j = 12 ∨ j = 13 := by omega
  rcases h with rfl | rfl | rfl | rfl | rfl | rfl | rfl | rfl | rfl | rfl | rfl | rfl | rfl | rfl
  · have e := num_tell (f := f) (k := k) (d := d) (r := []) (all := laidAll n ++ rest) (R := R) (st := st) (n := 1) ⟨by omega, by omega⟩ hd (by omega) hR (show out.length + 4 ≤ 300 by omega) (by omega) (S := S)
    rw [show Lib.itoa 1 = [49] by decide +kernel] at e
    exact e
  · have h0 : l.drop p = ⟨1, 2, []⟩ :: ⟨1, 3, []⟩ :: ⟨3, 0, [43]⟩ :: ⟨3, 0, [46]⟩ :: t := hd
    have h1 := drop_next h0
    have h2 := drop_next h1
    have h3 := drop_next h2
    show body (f + 1 + 1 + 1 + 1) _ k l d p [] = _
    rw [body_number (drop_get h0) (by omega) (by omega), body_number (drop_get h1) (by omega) (by simp; omega), show S ++ [2] ++ [3] = S ++ [2, 3] by simp, body_prim (drop_get h2) (by omega) (plus_ok (by omega) hR (by omega)), show wrap64 (2 + 3) = 5 by decide +kernel, body_prim (drop_get h3) (by omega) (dot_ok 5 ⟨by omega, by omega⟩ (by omega) hR (by omega)), show Lib.itoa 5 = [53] by decide +kernel]
    rfl
  · have h0 : l.drop p = ⟨1, 5, []⟩ :: ⟨1, 0, []⟩ :: ⟨4, 0, wDo⟩ :: ⟨4, 0, wI⟩ :: ⟨3, 0, [46]⟩ :: ⟨4, 0, wLoop⟩ :: t := hd
    have h1 := drop_next h0
    have h2 := drop_next h1
    show body (f + 3 + 3 + 3 + 3 + 3 + 1 + 1 + 1) _ k l d p [] = _
    rw [body_number (drop_get h0) (by omega) (by omega), body_number (drop_get h1) (by omega) (by simp; omega), body_rounds (s := wDo) (drop_get h2) rfl rfl rfl (by omega) (do_ok (by omega))]
    have q0 : Lib.itoa 0 = [48] := by decide +kernel
    have q1 : Lib.itoa 1 = [49] := by decide +kernel
    have q2 : Lib.itoa 2 = [50] := by decide +kernel
    have q3 : Lib.itoa 3 = [51] := by decide +kernel
    have q4 : Lib.itoa 4 = [52] := by decide +kernel
    show body (f + 3 + 3 + 3 + 3 + 3) _ k l d (p + 1 + 1 + 1) [(5, 0)] = _
    rw [count_round (i := 0) (by omega) (by omega) h2 (by omega) hR (by omega) (by omega), if_pos (by omega), q0]
    rw [count_round (i := 0 + 1) (by omega) (by omega) h2 (by omega) hR (by simp; omega) (by omega), if_pos (by omega), show (0 : Int) + 1 = 1 from rfl, q1]
    rw [count_round (i := 1 + 1) (by omega) (by omega) h2 (by omega) hR (by simp; omega) (by omega), if_pos (by omega), show (1 : Int) + 1 = 2 from rfl, q2]
    rw [count_round (i := 2 + 1) (by omega) (by omega) h2 (by omega) hR (by simp; omega) (by omega), if_pos (by omega), show (2 : Int) + 1 = 3 from rfl, q3]
    rw [count_round (i := 3 + 1) (by omega) (by omega) h2 (by omega) hR (by simp; omega) (by omega), if_neg (by omega), show (3 : Int) + 1 = 4 from rfl, q4]
    simp only [List.append_assoc]
    rfl
  · have h0 : l.drop p = ⟨1, 1, []⟩ :: ⟨4, 0, wIf⟩ :: ⟨1, 7, []⟩ :: ⟨3, 0, [46]⟩ :: ⟨4, 0, wElse⟩ :: ⟨1, 8, []⟩ :: ⟨3, 0, [46]⟩ :: ⟨4, 0, wThen⟩ :: t := hd
    have h1 := drop_next h0
    have h2 := drop_next h1
    have h3 := drop_next h2
    have h4 := drop_next h3
    have h5 := drop_next h4
    show body (f + 1 + 2 + 1 + 1) _ k l d p [] = _
    have w1 : ways ⟨laidAll n ++ rest, S ++ [1], R, out, st + 1 + 1⟩ l (p + 1) wIf = (⟨laidAll n ++ rest, S, R, out, st + 1 + 1⟩, p + 1 + 1, 0) := by
      unfold ways
      rw [pop_ok]
      rfl
    rw [body_number (drop_get h0) (by omega) (by omega), body_ways (s := wIf) (drop_get h1) rfl rfl rfl (by omega) w1, num_tell (n := 7) ⟨by omega, by omega⟩ h2 (by omega) hR (by omega) (by omega), show Lib.itoa 7 = [55] by decide +kernel]
    have w2 : ways ⟨laidAll n ++ rest, S, R, out ++ ([55] ++ [32]), st + 1 + 1 + 2 + 1⟩ l (p + 1 + 1 + 2) wElse = (⟨laidAll n ++ rest, S, R, out ++ ([55] ++ [32]), st + 1 + 1 + 2 + 1⟩, p + 8, 0) := by
      show ((⟨laidAll n ++ rest, S, R, out ++ ([55] ++ [32]), st + 1 + 1 + 2 + 1⟩ : Mach), aheadOf wIf [wThen] [wThen] (l.drop (p + 1 + 1 + 1 + 1 + 1)) (p + 1 + 1 + 1 + 1 + 1) 0, (0 : Int)) = _
      rw [h5]
      rfl
    rw [body_ways (s := wElse) (drop_get h4) rfl rfl rfl (by omega) w2]
    rfl
  · have h0 : l.drop p = ⟨1, 0, []⟩ :: ⟨4, 0, wIf⟩ :: ⟨1, 7, []⟩ :: ⟨3, 0, [46]⟩ :: ⟨4, 0, wElse⟩ :: ⟨1, 9, []⟩ :: ⟨3, 0, [46]⟩ :: ⟨4, 0, wThen⟩ :: t := hd
    have h1 := drop_next h0
    have h2 := drop_next h1
    have h5 := drop_next (drop_next (drop_next h2))
    have h7 := drop_next (drop_next h5)
    show body (f + 1 + 2 + 1 + 1) _ k l d p [] = _
    have w1 : ways ⟨laidAll n ++ rest, S ++ [0], R, out, st + 1 + 1⟩ l (p + 1) wIf = (⟨laidAll n ++ rest, S, R, out, st + 1 + 1⟩, p + 1 + 1 + 1 + 1 + 1, 0) := by
      unfold ways
      rw [pop_ok]
      show ((⟨laidAll n ++ rest, S, R, out, st + 1 + 1⟩ : Mach), aheadOf wIf [wThen] [wElse, wThen] (l.drop (p + 1 + 1)) (p + 1 + 1) 0, (0 : Int)) = _
      rw [h2]
      rfl
    have w2 : ways ⟨laidAll n ++ rest, S, R, out ++ ([57] ++ [32]), st + 1 + 1 + 2 + 1⟩ l (p + 1 + 1 + 1 + 1 + 1 + 2) wThen = (⟨laidAll n ++ rest, S, R, out ++ ([57] ++ [32]), st + 1 + 1 + 2 + 1⟩, p + 8, 0) := rfl
    rw [body_number (drop_get h0) (by omega) (by omega), body_ways (s := wIf) (drop_get h1) rfl rfl rfl (by omega) w1, num_tell (n := 9) ⟨by omega, by omega⟩ h5 (by omega) hR (by omega) (by omega), show Lib.itoa 9 = [57] by decide +kernel, body_ways (s := wThen) (drop_get h7) rfl rfl rfl (by omega) w2]
    rfl
  · have h0 : l.drop p = ⟨1, 65, []⟩ :: ⟨3, 0, wEmit⟩ :: t := hd
    show body (f + 1 + 1) _ k l d p [] = _
    rw [body_number (drop_get h0) (by omega) (by omega), body_prim (drop_get (drop_next h0)) (by omega) (emit_ok (by omega) (by omega) (by omega) hR (by omega))]
    rfl
  · have h0 : l.drop p = ⟨2, 0, []⟩ :: t := hd
    show body (f + 1) _ k l d p [] = _
    rw [body_own (drop_get h0) (by omega) (a_owns rfl (by omega) (by omega) (by omega) (by omega) hR (by omega))]
    rfl
  · have h0 : l.drop p = ⟨2, 1, []⟩ :: t := hd
    show body (f + 1) _ k l d p [] = _
    rw [body_own (drop_get h0) (by omega) (b_owns rfl rfl (by omega) (by omega) (by omega) (by omega) hR (by omega))]
    rfl
  · have h0 : l.drop p = ⟨2, 2, []⟩ :: ⟨3, 0, [64]⟩ :: ⟨3, 0, [46]⟩ :: t := hd
    have h1 := drop_next h0
    show body (f + 1 + 1 + 1) _ k l d p [] = _
    rw [body_own (drop_get h0) (by omega) (v_owns (n := n) rfl (by omega)), body_prim (drop_get h1) (by omega) (fetch_ok (n := n) rfl (by omega) hR (by omega)), body_prim (drop_get (drop_next h1)) (by omega) (tell_ok (fits_len hn) (by omega) hR (by omega))]
    rfl
  · have h0 : l.drop p = ⟨2, 2, []⟩ :: ⟨3, 0, [64]⟩ :: ⟨1, 1, []⟩ :: ⟨3, 0, [43]⟩ :: ⟨2, 2, []⟩ :: ⟨3, 0, [33]⟩ :: t := hd
    have h1 := drop_next h0
    have h2 := drop_next h1
    have h3 := drop_next h2
    have h4 := drop_next h3
    have h5 := drop_next h4
    show body (f + 1 + 1 + 1 + 1 + 1 + 1) _ k l d p [] = _
    rw [body_own (drop_get h0) (by omega) (v_owns (n := n) rfl (by omega)), body_prim (drop_get h1) (by omega) (fetch_ok (n := n) rfl (by omega) hR (by omega)), body_number (drop_get h2) (by omega) (by simp; omega), show S ++ [n] ++ [1] = S ++ [n, 1] by simp, body_prim (drop_get h3) (by omega) (plus_ok (by omega) hR (by omega)), body_own (drop_get h4) (by omega) (v_owns (n := n) rfl (by simp; omega)), show S ++ [wrap64 (n + 1)] ++ [1002] = S ++ [wrap64 (n + 1), 1002] by simp, body_prim (drop_get h5) (by omega) (store_ok (n := n) rfl (by omega) hR (by omega))]
    rw [show out ++ bitTells 9 n = out from List.append_nil out]
    rfl
  · have h0 : l.drop p = ⟨2, 3, []⟩ :: ⟨3, 0, [46]⟩ :: t := hd
    show body (f + 1 + 1) _ k l d p [] = _
    rw [body_own (drop_get h0) (by omega) (k_owns rfl (by omega)), body_prim (drop_get (drop_next h0)) (by omega) (dot_ok 40 ⟨by omega, by omega⟩ (by omega) hR (by omega)), show Lib.itoa 40 = [52, 48] by decide +kernel]
    rfl
  · have h0 : l.drop p = ⟨1, 3, []⟩ :: ⟨4, 0, wBegin⟩ :: ⟨3, 0, [100, 117, 112]⟩ :: ⟨3, 0, [46]⟩ :: ⟨1, 1, []⟩ :: ⟨3, 0, [45]⟩ :: ⟨3, 0, [100, 117, 112]⟩ :: ⟨3, 0, [110, 111, 116]⟩ :: ⟨4, 0, wUntil⟩ :: ⟨3, 0, [100, 114, 111, 112]⟩ :: t := hd
    have h1 := drop_next h0
    have h9 := drop_next (drop_next (drop_next (drop_next (drop_next (drop_next (drop_next (drop_next h1)))))))
    have q1 : Lib.itoa 1 = [49] := by decide +kernel
    have q2 : Lib.itoa 2 = [50] := by decide +kernel
    have q3 : Lib.itoa 3 = [51] := by decide +kernel
    show body (f + 1 + 7 + 7 + 7 + 1 + 1) _ k l d p [] = _
    have w1 : ways ⟨laidAll n ++ rest, S ++ [3], R, out, st + 1 + 1⟩ l (p + 1) wBegin = (⟨laidAll n ++ rest, S ++ [3], R, out, st + 1 + 1⟩, p + 1 + 1, 0) := rfl
    rw [body_number (drop_get h0) (by omega) (by omega), body_ways (s := wBegin) (drop_get h1) rfl rfl rfl (by omega) w1]
    rw [down_round (x := 3) (by omega) (by omega) h1 (by omega) hR (by omega) (by omega), if_neg (by omega), show (3 : Int) - 1 = 2 from rfl, q3]
    rw [down_round (x := 2) (by omega) (by omega) h1 (by omega) hR (by simp; omega) (by omega), if_neg (by omega), show (2 : Int) - 1 = 1 from rfl, q2]
    rw [down_round (x := 1) (by omega) (by omega) h1 (by omega) hR (by simp; omega) (by omega), if_pos rfl, q1]
    rw [body_prim (drop_get h9) (by omega) (drop_ok (by omega) hR (by simp; omega))]
    simp only [List.append_assoc]
    rfl
  · have h0 : l.drop p = ⟨1, 1000, []⟩ :: ⟨3, 0, [101, 120, 101, 99, 117, 116, 101]⟩ :: t := hd
    show body (f + 1 + 1) _ k l d p [] = _
    rcases exec_ok (n := n) (rest := rest) (S := S) (R := R) (out := out) (st := st + 1 + 1) with he | he
    · rw [body_number (drop_get h0) (by omega) (by omega), body_exec (drop_get (drop_next h0)) (by omega) he (a_owns rfl (by omega) (by omega) (by omega) (by omega) hR (by omega))]
      rfl
    · exact (he ⟨by omega, hR, by omega⟩).elim
  · have h0 : l.drop p = ⟨3, 0, [99, 114]⟩ :: t := hd
    show body (f + 1) _ k l d p [] = _
    rw [body_prim (drop_get h0) (by omega) (cr_ok (by omega) hR (by omega))]
    rfl
end
end N
end Go.Proofs.YtgnlokmeohffaaaGreatDoor
/- Bodies of bits, and Fixed's lines, in plain terms. -/
namespace Go.Proofs.YtgnlokmeohffaaaGreatDoor
namespace N
open Go.RowKit

def bitsV : List Nat → Int → Int
  | [], n => n
  | j :: js, n => bitsV js (bitV j n)
def bitsTells : List Nat → Int → Txt
  | [], _ => []
  | j :: js, n => bitTells j n ++ bitsTells js (bitV j n)
def bitsOwn : List Nat → Nat
  | [] => 0
  | j :: js => bitsOwn js + bitOwn j
def bitsCost : List Nat → Nat
  | [] => 0
  | j :: js => bitCost j + bitsCost js
theorem bitOwn_le : ∀ j, bitOwn j ≤ 24 := fun j => by unfold bitOwn; split <;> omega
theorem bitCost_le : ∀ j, bitCost j ≤ 24 := fun j => by
  unfold bitCost
  split
  · omega
  · omega
  · omega
  · exact bitOwn_le j
theorem bitsOwn_le : ∀ js, bitsOwn js ≤ 24 * js.length
  | [] => Nat.zero_le _
  | j :: js => by
    have h1 := bitsOwn_le js
    have h2 := bitOwn_le j
    simp only [bitsOwn, List.length_cons]
    omega
theorem bitsCost_le : ∀ js, bitsCost js ≤ 24 * js.length
  | [] => Nat.zero_le _
  | j :: js => by
    have h1 := bitsCost_le js
    have h2 := bitCost_le j
    simp only [bitsCost, List.length_cons]
    omega
theorem bitsV_fits : ∀ (js : List Nat) {n : Int}, fitsInt n → fitsInt (bitsV js n)
  | [], _, h => h
  | j :: js, _, h => bitsV_fits js (bitV_fits h j)
theorem bitsTells_len : ∀ (js : List Nat) {n : Int}, fitsInt n → (bitsTells js n).length ≤ 21 * js.length
  | [], _, _ => Nat.zero_le _
  | j :: js, n, h => by
    have h1 := bitTells_len h j
    have h2 := bitsTells_len js (bitV_fits h j)
    simp only [bitsTells, List.length_append, List.length_cons]
    omega
theorem do_bits {k d : Nat} {rest : List Ent} {S R : List Int} {l : List Cell} (hS : S.length ≤ 10) (hR : R.length ≤ 16) (hdp : d ≤ 9) : ∀ (js : List Nat) (f p st : Nat) (out : Txt) (t : List Cell) (n : Int), (∀ j ∈ js, j < 14) → fitsInt n → l.drop p = js.flatMap bitCells ++ t → out.length + 21 * js.length ≤ 300 → st + 24 * js.length + 6 ≤ 1000 → 10 ≤ f →
    body (f + bitsOwn js) ⟨laidAll n ++ rest, S, R, out, st⟩ k l d p [] = body f ⟨laidAll (bitsV js n) ++ rest, S, R, out ++ bitsTells js n, st + bitsCost js⟩ k l d (p + (js.flatMap bitCells).length) []
  | [], f, p, st, out, t, n, _, _, _, _, _, _ => by simp [bitsOwn, bitsV, bitsTells, bitsCost]
  | j :: js, f, p, st, out, t, n, hj, hn, hd, ho, hs, hf => by
    rw [List.flatMap_cons, List.append_assoc] at hd
    simp only [List.length_cons] at ho hs
    have ht := bitTells_len hn j
    have hc := bitCost_le j
    have h1 := do_bit (f := f + bitsOwn js) (k := k) (d := d) (rest := rest) (S := S) (R := R) (out := out) (st := st) j (hj j (by simp)) hn hd hS hR (by omega) (by omega) hdp (by omega)
    have hd2 : l.drop (p + (bitCells j).length) = js.flatMap bitCells ++ t := by rw [← List.drop_drop, hd, List.drop_left]
    have h2 := do_bits (k := k) (rest := rest) hS hR hdp js f (p + (bitCells j).length) (st + bitCost j) (out ++ bitTells j n) t (bitV j n) (fun x hx => hj x (by simp [hx])) (bitV_fits hn j) hd2 (by simp only [List.length_append]; omega) (by omega) hf
    rw [show bitsOwn (j :: js) = bitsOwn js + bitOwn j from rfl, ← Nat.add_assoc, h1, h2]
    simp only [List.flatMap_cons, List.length_append, bitsV, bitsTells, bitsCost, List.append_assoc, Nat.add_assoc]
/-- A word of bits. -/
def wEnt (nm : Txt) (js : List Nat) : Ent := ⟨nm, 1, 0, js.flatMap bitCells, true, false⟩
theorem w_body {F k d st : Nat} {rest : List Ent} {S R : List Int} {out : Txt} {n : Int} (js : List Nat) (hj : ∀ j ∈ js, j < 14) (hl : js.length ≤ 5) (hn : fitsInt n) (hS : S.length ≤ 10) (hR : R.length ≤ 16) (hdp : d ≤ 9) (ho : out.length + 105 ≤ 300) (hs : st + 200 ≤ 1000) (hF : 200 ≤ F) :
    body F ⟨laidAll n ++ rest, S, R, out, st⟩ k (js.flatMap bitCells) d 0 [] = (⟨laidAll (bitsV js n) ++ rest, S, R, out ++ bitsTells js n, st + bitsCost js⟩, 0) := by
  have h1 := bitsOwn_le js
  have := do_bits (k := k) (d := d) (rest := rest) (S := S) (R := R) (l := js.flatMap bitCells) hS hR hdp js (F - bitsOwn js) 0 st out [] n hj hn (by simp) (by omega) (by omega) (by omega)
  rw [show F - bitsOwn js + bitsOwn js = F by omega] at this
  rw [this, show F - bitsOwn js = F - bitsOwn js - 1 + 1 by omega]
  exact body_end (List.getElem?_eq_none (by omega))
theorem w_owns {F d st : Nat} {rest : List Ent} {S R : List Int} {out : Txt} {n : Int} (nm : Txt) (js : List Nat) (hj : ∀ j ∈ js, j < 14) (hl : js.length ≤ 5) (hn : fitsInt n) (hS : S.length ≤ 10) (hR : R.length ≤ 16) (hdp : d ≤ 8) (ho : out.length + 105 ≤ 300) (hs : st + 200 ≤ 1000) (hF : 200 ≤ F) :
    owns F ⟨laidAll n ++ wEnt nm js :: rest, S, R, out, st⟩ 4 d = (⟨laidAll (bitsV js n) ++ wEnt nm js :: rest, S, R, out ++ bitsTells js n, st + bitsCost js⟩, 0) :=
  (owns_defn (m := ⟨laidAll n ++ wEnt nm js :: rest, S, R, out, st⟩) (e := wEnt nm js) rfl rfl (by omega)).trans (w_body js hj hl hn hS hR (by omega) ho hs hF)

/-- ': name bits ;' -/
def madeTxt (nm : Txt) (js : List Nat) : Txt := 58 :: 32 :: nm ++ bitsTxt js ++ [32, 59]
theorem made_split (nm : Txt) (js : List Nat) (hj : ∀ j ∈ js, j < 14) (hnm : L.split nm = [nm]) : L.split (madeTxt nm js) = [58] :: nm :: (bitsWs js ++ [[59]]) := by
  unfold madeTxt
  rw [show 58 :: 32 :: nm ++ bitsTxt js ++ [32, 59] = (58 :: 32 :: nm) ++ (bitsTxt js ++ 32 :: [59]) by simp, bits_split js _ _ hj]
  rw [show (58 :: 32 :: nm : Txt) = [58] ++ 32 :: nm from rfl, split_blank 32 (by decide), hnm]
  simp only [List.append_assoc]
  rfl
theorem made_len (nm : Txt) (js : List Nat) (hl : js.length ≤ 5) (hn : nm.length ≤ 12) : (madeTxt nm js).length ≤ 201 := by
  have := bitsTxt_len js
  unfold madeTxt
  simp only [List.length_append, List.length_cons, List.length_nil]
  omega
/-- It is made. -/
theorem made_line (all : List Ent) (S R : List Int) (o : Txt) (t : Nat) (nm : Txt) (js : List Nat) (hj : ∀ j ∈ js, j < 14) (hl : js.length ≤ 5) (hk : ∀ S R out st, Known ⟨all, S, R, out, st⟩) (hnm : L.split nm = [nm]) (hf : nameFits nm = true) (hb : L.isBold nm = false) (hlen : nm.length ≤ 12) (hc : all.length < 40) :
    doLine ⟨all, S, R, o, t⟩ (madeTxt nm js) = (⟨all ++ [⟨nm, 1, 0, js.flatMap (bitOf ⟨all, S, R, [], 1⟩), true, false⟩], S, R, [], 1⟩, [], 0, 0) := by
  have hl1 := made_len nm js hl hlen
  rw [doLine_eq _ _ _ (by omega) (made_split nm js hj hnm)]
  have h1 := one_def ⟨all, S, R, [], 0 + 1⟩ (hk _ _ _ _) js nm 0 ([58] :: nm :: (bitsWs js ++ [[59]])) [] hj (by omega) rfl hf hb hc
  have h2 : runs (([58] :: nm :: (bitsWs js ++ [[59]])).length + 1) ⟨all, S, R, [], 0⟩ ([58] :: nm :: (bitsWs js ++ [[59]])) 0 = (⟨all ++ [⟨nm, 1, 0, js.flatMap (bitOf ⟨all, S, R, [], 1⟩), true, false⟩], S, R, [], 1⟩, 0, 0) := by
    rw [runs_go (s := [58]) (m := ⟨all, S, R, [], 0⟩) rfl (by simp) h1]
    exact runs_end (List.getElem?_eq_none (by simp))
  show ((runs (([58] :: nm :: (bitsWs js ++ [[59]])).length + 1) ⟨all, S, R, [], 0⟩ _ 0).1, (runs (([58] :: nm :: (bitsWs js ++ [[59]])).length + 1) ⟨all, S, R, [], 0⟩ _ 0).1.out, (runs (([58] :: nm :: (bitsWs js ++ [[59]])).length + 1) ⟨all, S, R, [], 0⟩ _ 0).2) = _
  rw [h2]
theorem laid_known (rest : List Ent) (hr : rest = []) (S R : List Int) (out : Txt) (st : Nat) : Known ⟨laidAll 3 ++ rest, S, R, out, st⟩ := by
  subst hr
  exact ⟨⟨0, rfl⟩, ⟨1, rfl⟩, ⟨2, rfl⟩, ⟨3, rfl⟩⟩
theorem flat_laid (js : List Nat) (hj : ∀ j ∈ js, j < 14) (S R : List Int) (o : Txt) (st : Nat) : js.flatMap (bitOf ⟨laidAll 3, S, R, o, st⟩) = js.flatMap bitCells := by
  induction js with
  | nil => rfl
  | cons j js ih =>
    rw [List.flatMap_cons, List.flatMap_cons, bit_laid o S R st j (hj j (by simp)), ih fun x hx => hj x (by simp [hx])]
def tW : Txt := [119]
/-- w is made. -/
theorem w_line (js : List Nat) (hj : ∀ j ∈ js, j < 14) (hl : js.length ≤ 5) (o : Txt) (t : Nat) : doLine ⟨laidAll 3, [], [], o, t⟩ (madeTxt tW js) = (⟨laidAll 3 ++ [wEnt tW js], [], [], [], 1⟩, [], 0, 0) := by
  rw [made_line (laidAll 3) [] [] o t tW js hj hl (fun S R out st => laid_known [] rfl S R out st) (by decide +kernel) (by decide +kernel) (by decide +kernel) (by decide) (by decide), flat_laid js hj]
  rfl

/-- ': a 1 . ; : b 2 . ; variable v 77 constant k : dup drop ; : w2 w ; marker z' -/
def overTxt : Txt := [58, 32, 97, 32, 49, 32, 46, 32, 59, 32, 58, 32, 98, 32, 50, 32, 46, 32, 59, 32, 118, 97, 114, 105, 97, 98, 108, 101, 32, 118, 32, 55, 55, 32, 99, 111, 110, 115, 116, 97, 110, 116, 32, 107, 32, 58, 32, 100, 117, 112, 32, 100, 114, 111, 112, 32, 59, 32, 58, 32, 119, 50, 32, 119, 32, 59, 32, 109, 97, 114, 107, 101, 114, 32, 122]
def tW2 : Txt := [119, 50]
def overSix : List Ent := [⟨[97], 1, 0, [⟨1, 1, []⟩, ⟨3, 0, [46]⟩], true, false⟩, ⟨[98], 1, 0, [⟨1, 2, []⟩, ⟨3, 0, [46]⟩], true, false⟩, ⟨[118], 2, 0, [], true, false⟩, ⟨[107], 3, 77, [], true, false⟩, ⟨[100, 117, 112], 1, 0, [⟨3, 0, [100, 114, 111, 112]⟩], true, false⟩, ⟨tW2, 1, 0, [⟨2, 4, []⟩], true, false⟩]
def entZ (g : Bool) : Ent := ⟨[122], 4, 0, [], true, g⟩
theorem over_line (js : List Nat) (o : Txt) (t : Nat) : doLine ⟨laidAll 3 ++ [wEnt tW js], [], [], o, t⟩ overTxt = (⟨laidAll 3 ++ wEnt tW js :: (overSix ++ [entZ false]), [], [], [], 8⟩, [], 0, 0) := by
  unfold wEnt
  generalize js.flatMap bitCells = B
  kernel_rfl
def tY : Txt := [121]
theorem over_known (js : List Nat) (S R : List Int) (out : Txt) (st : Nat) : Known ⟨laidAll 3 ++ wEnt tW js :: (overSix ++ [entZ false]), S, R, out, st⟩ := ⟨⟨5, rfl⟩, ⟨6, rfl⟩, ⟨7, rfl⟩, ⟨8, rfl⟩⟩
/-- y is made, of whatever words. -/
theorem y_line (js more : List Nat) (hj : ∀ j ∈ more, j < 14) (hl : more.length ≤ 5) (o : Txt) (t : Nat) : ∃ C, doLine ⟨laidAll 3 ++ wEnt tW js :: (overSix ++ [entZ false]), [], [], o, t⟩ (madeTxt tY more) = (⟨laidAll 3 ++ wEnt tW js :: (overSix ++ [entZ false, ⟨tY, 1, 0, C, true, false⟩]), [], [], [], 1⟩, [], 0, 0) := by
  refine ⟨more.flatMap (bitOf ⟨laidAll 3 ++ wEnt tW js :: (overSix ++ [entZ false]), [], [], [], 1⟩), ?_⟩
  rw [made_line (laidAll 3 ++ wEnt tW js :: (overSix ++ [entZ false])) [] [] o t tY more hj hl (over_known js) (by decide +kernel) (by decide +kernel) (by decide +kernel) (by decide) (by simp [laidAll, overSix])]
  rfl
/-- z forgets itself and y. -/
theorem z_line (js : List Nat) (C : List Cell) (o : Txt) (t : Nat) : doLine ⟨laidAll 3 ++ wEnt tW js :: (overSix ++ [entZ false, ⟨tY, 1, 0, C, true, false⟩]), [], [], o, t⟩ [122] = (⟨laidAll 3 ++ wEnt tW js :: (overSix ++ [entZ true, ⟨tY, 1, 0, C, true, true⟩]), [], [], [], 1⟩, [], 0, 0) := by
  unfold wEnt
  generalize js.flatMap bitCells = B
  kernel_rfl

/-- 'w w' -/
theorem ww_line (js : List Nat) (hj : ∀ j ∈ js, j < 14) (hl : js.length ≤ 5) (o : Txt) (t : Nat) : ∃ st, doLine ⟨laidAll 3 ++ [wEnt tW js], [], [], o, t⟩ [119, 32, 119] = (⟨laidAll (bitsV js (bitsV js 3)) ++ [wEnt tW js], [], [], bitsTells js 3 ++ bitsTells js (bitsV js 3), st⟩, bitsTells js 3 ++ bitsTells js (bitsV js 3), 0, 0) := by
  have hf3 : fitsInt 3 := ⟨by omega, by omega⟩
  have h2 := bitsTells_len js hf3
  have hc := bitsCost_le js
  rw [doLine_eq _ _ [tW, tW] (by decide) (by decide +kernel)]
  have key : runs 3 ⟨laidAll 3 ++ [wEnt tW js], [], [], [], 0⟩ [tW, tW] 0 = (⟨laidAll (bitsV js (bitsV js 3)) ++ [wEnt tW js], [], [], bitsTells js 3 ++ bitsTells js (bitsV js 3), 0 + 1 + bitsCost js + 1 + bitsCost js⟩, 0, 0) := by
    refine (runs_word (f := 2) (s := tW) (t := [tW]) rfl (by omega) rfl (c := ⟨2, 4, []⟩) rfl ((cell_own (j := 4) rfl).trans (w_owns tW js hj hl hf3 (by simp) (by simp) (by omega) (by simp) (by omega) (by decide)))).trans ?_
    refine (runs_word (f := 1) (s := tW) (t := []) rfl (by omega) rfl (c := ⟨2, 4, []⟩) rfl ((cell_own (j := 4) rfl).trans (w_owns tW js hj hl (bitsV_fits js hf3) (by simp) (by simp) (by omega) (by simp only [List.nil_append]; omega) (by omega) (by decide)))).trans ?_
    exact runs_end (f := 0) rfl
  refine ⟨0 + 1 + bitsCost js + 1 + bitsCost js, ?_⟩
  show ((runs 3 ⟨laidAll 3 ++ [wEnt tW js], [], [], [], 0⟩ [tW, tW] 0).1, (runs 3 ⟨laidAll 3 ++ [wEnt tW js], [], [], [], 0⟩ [tW, tW] 0).1.out, (runs 3 ⟨laidAll 3 ++ [wEnt tW js], [], [], [], 0⟩ [tW, tW] 0).2) = _
  rw [key]
/-- 'w2 w', y and z there or not. -/
theorem w2_line (js : List Nat) (C : List Cell) (g : Bool) (hj : ∀ j ∈ js, j < 14) (hl : js.length ≤ 5) (o : Txt) (t : Nat) : ∃ st, doLine ⟨laidAll 3 ++ wEnt tW js :: (overSix ++ [entZ g, ⟨tY, 1, 0, C, true, g⟩]), [], [], o, t⟩ [119, 50, 32, 119] = (⟨laidAll (bitsV js (bitsV js 3)) ++ wEnt tW js :: (overSix ++ [entZ g, ⟨tY, 1, 0, C, true, g⟩]), [], [], bitsTells js 3 ++ bitsTells js (bitsV js 3), st⟩, bitsTells js 3 ++ bitsTells js (bitsV js 3), 0, 0) := by
  have hf3 : fitsInt 3 := ⟨by omega, by omega⟩
  have h2 := bitsTells_len js hf3
  have hc := bitsCost_le js
  rw [doLine_eq _ _ [tW2, tW] (by decide) (by decide +kernel)]
  have hm2 : ∀ n out st, meaning ⟨laidAll n ++ wEnt tW js :: (overSix ++ [entZ g, ⟨tY, 1, 0, C, true, g⟩]), [], [], out, st⟩ tW2 = some ⟨2, 10, []⟩ := fun n out st => by cases g <;> rfl
  have hm1 : ∀ n out st, meaning ⟨laidAll n ++ wEnt tW js :: (overSix ++ [entZ g, ⟨tY, 1, 0, C, true, g⟩]), [], [], out, st⟩ tW = some ⟨2, 4, []⟩ := fun n out st => by cases g <;> rfl
  have hw2 : owns fuel ⟨laidAll 3 ++ wEnt tW js :: (overSix ++ [entZ g, ⟨tY, 1, 0, C, true, g⟩]), [], [], [], 0 + 1⟩ 10 0 = (⟨laidAll (bitsV js 3) ++ wEnt tW js :: (overSix ++ [entZ g, ⟨tY, 1, 0, C, true, g⟩]), [], [], [] ++ bitsTells js 3, 0 + 1 + 1 + bitsCost js⟩, 0) := by
    refine (owns_defn (j := 10) (m := ⟨laidAll 3 ++ wEnt tW js :: (overSix ++ [entZ g, ⟨tY, 1, 0, C, true, g⟩]), [], [], [], 0 + 1⟩) (e := ⟨tW2, 1, 0, [⟨2, 4, []⟩], true, false⟩) rfl rfl (by omega)).trans ?_
    have hF : ∃ F, fuel = F + 1 + 1 ∧ 300 ≤ F := ⟨1098, rfl, by omega⟩
    obtain ⟨F, hF, hF2⟩ := hF
    rw [hF]
    refine (body_own (f := F + 1) (n := 4) (nm := []) rfl (by omega) (w_owns tW js hj hl hf3 (by simp) (by simp) (by omega) (by simp) (by omega) (by omega))).trans ?_
    exact body_end rfl
  have key : runs 3 ⟨laidAll 3 ++ wEnt tW js :: (overSix ++ [entZ g, ⟨tY, 1, 0, C, true, g⟩]), [], [], [], 0⟩ [tW2, tW] 0 = (⟨laidAll (bitsV js (bitsV js 3)) ++ wEnt tW js :: (overSix ++ [entZ g, ⟨tY, 1, 0, C, true, g⟩]), [], [], bitsTells js 3 ++ bitsTells js (bitsV js 3), 0 + 1 + 1 + bitsCost js + 1 + bitsCost js⟩, 0, 0) := by
    refine (runs_word (f := 2) (s := tW2) (t := [tW]) rfl (by omega) rfl (c := ⟨2, 10, []⟩) (hm2 _ _ _) ((cell_own (j := 10) rfl).trans hw2)).trans ?_
    refine (runs_word (f := 1) (s := tW) (t := []) rfl (by omega) rfl (c := ⟨2, 4, []⟩) (hm1 _ _ _) ((cell_own (j := 4) rfl).trans (w_owns tW js hj hl (bitsV_fits js hf3) (by simp) (by simp) (by omega) (by simp only [List.nil_append]; omega) (by omega) (by decide)))).trans ?_
    exact runs_end (f := 0) rfl
  refine ⟨0 + 1 + 1 + bitsCost js + 1 + bitsCost js, ?_⟩
  show ((runs 3 ⟨laidAll 3 ++ wEnt tW js :: (overSix ++ [entZ g, ⟨tY, 1, 0, C, true, g⟩]), [], [], [], 0⟩ [tW2, tW] 0).1, (runs 3 ⟨laidAll 3 ++ wEnt tW js :: (overSix ++ [entZ g, ⟨tY, 1, 0, C, true, g⟩]), [], [], [], 0⟩ [tW2, tW] 0).1.out, (runs 3 ⟨laidAll 3 ++ wEnt tW js :: (overSix ++ [entZ g, ⟨tY, 1, 0, C, true, g⟩]), [], [], [], 0⟩ [tW2, tW] 0).2) = _
  rw [key]
end N
end Go.Proofs.YtgnlokmeohffaaaGreatDoor
/- made: a line that defines a word, of raw numbers. (Written by tools/mkmade.py.) -/
namespace Go.Proofs.YtgnlokmeohffaaaGreatDoor
open Go.RowKit

theorem laid_hold {n : Int} {S R : List Int} {o : N.Txt} {t : Nat} : (⟨N.laidAll n, S, R, o, t⟩ : N.Mach).all.length + 1000 ≤ 1000000000000 := by
  show 4 + 1000 ≤ 1000000000000
  omega
theorem bytes_app (a b : ByteArray) : (a ++ b).data.toList = a.data.toList ++ b.data.toList := by simp

def bitStr : Nat → ByteArray
  | 0 => ⟨#[49, 32, 46]⟩
  | 1 => ⟨#[50, 32, 51, 32, 43, 32, 46]⟩
  | 2 => ⟨#[53, 32, 48, 32, 100, 111, 32, 105, 32, 46, 32, 108, 111, 111, 112]⟩
  | 3 => ⟨#[49, 32, 105, 102, 32, 55, 32, 46, 32, 101, 108, 115, 101, 32, 56, 32, 46, 32, 116, 104, 101, 110]⟩
  | 4 => ⟨#[48, 32, 105, 102, 32, 55, 32, 46, 32, 101, 108, 115, 101, 32, 57, 32, 46, 32, 116, 104, 101, 110]⟩
  | 5 => ⟨#[54, 53, 32, 101, 109, 105, 116]⟩
  | 6 => ⟨#[97]⟩
  | 7 => ⟨#[98]⟩
  | 8 => ⟨#[118, 32, 64, 32, 46]⟩
  | 9 => ⟨#[118, 32, 64, 32, 49, 32, 43, 32, 118, 32, 33]⟩
  | 10 => ⟨#[107, 32, 46]⟩
  | 11 => ⟨#[51, 32, 98, 101, 103, 105, 110, 32, 100, 117, 112, 32, 46, 32, 49, 32, 45, 32, 100, 117, 112, 32, 110, 111, 116, 32, 117, 110, 116, 105, 108, 32, 100, 114, 111, 112]⟩
  | 12 => ⟨#[39, 32, 97, 32, 101, 120, 101, 99, 117, 116, 101]⟩
  | _ => ⟨#[99, 114]⟩
theorem bit_str : ∀ j, j < 14 → (bitStr j).data.toList = N.bitTxt j := by decide
theorem bit_size : ∀ j, j < 14 → (bitStr j).size ≤ 36 := by decide
def bitArr : Array Value := #[Value.string ⟨#[49, 32, 46]⟩, Value.string ⟨#[50, 32, 51, 32, 43, 32, 46]⟩, Value.string ⟨#[53, 32, 48, 32, 100, 111, 32, 105, 32, 46, 32, 108, 111, 111, 112]⟩, Value.string ⟨#[49, 32, 105, 102, 32, 55, 32, 46, 32, 101, 108, 115, 101, 32, 56, 32, 46, 32, 116, 104, 101, 110]⟩, Value.string ⟨#[48, 32, 105, 102, 32, 55, 32, 46, 32, 101, 108, 115, 101, 32, 57, 32, 46, 32, 116, 104, 101, 110]⟩, Value.string ⟨#[54, 53, 32, 101, 109, 105, 116]⟩, Value.string ⟨#[97]⟩, Value.string ⟨#[98]⟩, Value.string ⟨#[118, 32, 64, 32, 46]⟩, Value.string ⟨#[118, 32, 64, 32, 49, 32, 43, 32, 118, 32, 33]⟩, Value.string ⟨#[107, 32, 46]⟩, Value.string ⟨#[51, 32, 98, 101, 103, 105, 110, 32, 100, 117, 112, 32, 46, 32, 49, 32, 45, 32, 100, 117, 112, 32, 110, 111, 116, 32, 117, 110, 116, 105, 108, 32, 100, 114, 111, 112]⟩, Value.string ⟨#[39, 32, 97, 32, 101, 120, 101, 99, 117, 116, 101]⟩, Value.string ⟨#[99, 114]⟩]

set_option maxRecDepth 100000 in
theorem bits_any (w : World) : Calls Tryz.prog 29 #[] w fun r w' => r = .returned (.slice (some ⟨w.heap.size, 0, none⟩) 14 14) ∧ w' = w.alloc (Obj.cells bitArr 9) := by
  go_enter Tryz.func29, Tryz.ntmps29
  go_wp2
  go_ret
  exact ⟨rfl, rfl⟩
theorem bit_cell (w : World) (j : Nat) (hj : j < 14) : (w.alloc (Obj.cells bitArr 9)).cell? ⟨w.heap.size, j, none⟩ = some (.string (bitStr j)) := by
  refine cell_of_block (heap_alloc_new w _) ?_
  have h : j = 0 ∨ j = 1 ∨ j = 2 ∨ j = 3 ∨ j = 4 ∨ j = 5 ∨ j = 6 ∨ j = 7 ∨ j = 8 ∨ j = 9 ∨ j = 10 ∨ j = 11 ∨ j = 12 ∨ j = 13 := by omega
  rcases h with rfl | rfl | rfl | rfl | rfl | rfl | rfl | rfl | rfl | rfl | rfl | rfl | rfl | rfl <;> rfl

/-- Which bits the raw numbers speak of. -/
def bitNo (z : Int) : Nat := ((if z < 0 then -(z + 1) else z) % 14).toNat
def rawBits (zs : List Int) : List Nat := (zs.take 5).map bitNo
theorem bitNo_lt (z : Int) : bitNo z < 14 := by unfold bitNo; omega
theorem rawBits_lt (zs : List Int) : ∀ j ∈ rawBits zs, j < 14 := by
  intro j hj
  obtain ⟨z, _, rfl⟩ := List.mem_map.1 hj
  exact bitNo_lt z
theorem rawBits_len (zs : List Int) : (rawBits zs).length ≤ 5 := by unfold rawBits; simp; omega
namespace N
theorem bitsTxt_snoc : ∀ (js : List Nat) (j : Nat), bitsTxt (js ++ [j]) = bitsTxt js ++ (32 :: bitTxt j)
  | [], j => by simp [bitsTxt]
  | i :: js, j => by simp [bitsTxt, bitsTxt_snoc js j]
end N
theorem raw_step (zs : List Int) (k : Nat) (hk : k < 5) (hl : k < zs.length) : (rawBits zs).take (k + 1) = (rawBits zs).take k ++ [bitNo (zs.getD k 0)] := by
  have h1 : k < (rawBits zs).length := by unfold rawBits; simp; omega
  rw [List.take_succ_eq_append_getElem h1]
  congr 2
  unfold rawBits
  simp [List.getD_eq_getElem?_getD, List.getElem?_eq_getElem hl]

set_option maxRecDepth 100000 in
set_option maxHeartbeats 1600000 in
theorem makes_any (w : World) (nm : ByteArray) (a0 : Option Addr) (l0 c0 : Nat) (z0 : List Int) (hi : Ints w a0 l0 z0) (hn : nm.size ≤ 12) :
    Calls Tryz.prog 19 #[.string nm, .slice a0 l0 c0] w fun r w' => ∃ M : ByteArray, r = .returned (.string M) ∧ M.data.toList = N.madeTxt nm.data.toList (rawBits z0) ∧ Below w.heap.size w w' := by
  have HI := hide hi
  have hl0 := hi.2.1
  have hz := hi.1
  clear hi
  go_enter Tryz.func19, Tryz.ntmps19
  go_wp2
  go_loopw [5, 6] (fun s i wr => ∃ (k : Nat) (X : ByteArray), k ≤ 5 ∧ k ≤ l0 ∧ s = .string X ∧ i = .int .i64 (k : Int) ∧ X.data.toList = 58 :: 32 :: nm.data.toList ++ N.bitsTxt ((rawBits z0).take k) ∧ Below w.heap.size w wr) (fun _ i _ => match i with | .int _ k => ((l0 : Int) + 5 - k).toNat | _ => 0)
  case atStart => exact ⟨0, _, Nat.zero_le _, Nat.zero_le _, rfl, rfl, by simp [N.bitsTxt], Below.refl _ _⟩
  case round =>
    obtain ⟨k, X, hk5, hkl, rfl, rfl, hX, hB⟩ := hrel
    have sX : X.size ≤ 300 := by
      have h1 := N.bitsTxt_len ((rawBits z0).take k)
      have h2 : ((rawBits z0).take k).length ≤ 5 := by simp; omega
      have h3 := Lib.size_eq nm
      rw [Lib.size_eq, hX]
      simp only [List.length_append, List.length_cons]
      omega
    have HX := hide (And.intro hX hB)
    clear hX hB
    by_cases hlt : k < l0
    · by_cases h5 : k < 5
      · have c1 : (k : Int) < (l0 : Int) := by omega
        have c2 : (k : Int) < 5 := by omega
        have c3 : (0 : Int) ≤ (k : Int) := by omega
        have c4 : IntKind.i64.wrap ((k : Int) + 1) = (k : Int) + 1 := by rw [IntKind.wrap_i64]; omega
        have hst := raw_step z0 k h5 (by omega)
        obtain ⟨b, rfl, hbl, hcell⟩ := ((unhide HI).below (unhide HX).2).2.2.1 k hlt
        have hin : inI64 (z0.getD k 0) := by
          have := (unhide HI).2.2.2 (z0.getD k 0)
          refine this ?_
          rw [List.getD_eq_getElem?_getD, List.getElem?_eq_getElem (by omega)]
          exact List.getElem_mem _
        have HSt := hide hst
        clear hst
        generalize z0.getD k 0 = z at *
        have HZ := hide hin
        clear hin
        have hj14 := bitNo_lt z
        obtain ⟨j, hj⟩ : ∃ j, bitNo z = j := ⟨_, rfl⟩
        have hjj : (if z < 0 then -(z + 1) else z) % 14 = (j : Int) := by rw [← hj]; unfold bitNo; omega
        rw [hj] at hj14
        have j0 : (0 : Int) ≤ (j : Int) := by omega
        have j1 : (j : Int) < 14 := by omega
        have hsz := bit_size j hj14
        have n1 : ¬ 9223372036854775807 < X.size + 1 := by omega
        have hbt := bit_str j hj14
        have hcj0 := bit_cell wr j hj14
        have hcj : (wr.alloc (Obj.cells bitArr 9)).drew.cell? ⟨wr.heap.size, j, none⟩ = some (.string (bitStr j)) := hcj0
        have hbA : Below wr.heap.size wr (wr.alloc (Obj.cells bitArr 9)).drew := ((Below.refl _ _).alloc (Nat.le_refl _) _).drew
        have hcell2 : (wr.alloc (Obj.cells bitArr 9)).drew.cell? (b.add k) = some (.int .i64 z) := (hbA.cell (by rw [Go.ChangeShapes.block_add]; exact hbl)).trans hcell
        have hcell3 : (wr.alloc (Obj.cells bitArr 9)).cell? (b.add k) = some (.int .i64 z) := hcell2
        generalize bitStr j = P at *
        have n2 : ¬ 9223372036854775807 < X.size + 1 + P.size := by omega
        have HP := hide (And.intro hbt (And.intro hj hbA))
        have HJ := hide hjj
        clear hbt hj hbA hjj
        go_wp2
        go_region_law
          (first
            | ((go_simp; refine (bits_any _).mono ?_
                rintro e w3 ⟨rfl, hw3⟩
                subst w3))
            | ((go_simp; refine (pick_any z 14 _ (unhide HZ).1 (unhide HZ).2 (by omega) (by omega)).mono ?_
                rintro e w4 ⟨rfl, hw4⟩
                subst w4
                rw [unhide HJ])))
        all_goals
         go_wp2
         refine ⟨⟨k + 1, _, by omega, by omega, rfl, by simp, ?_, ?_⟩, ?_⟩
         · rw [bytes_app, bytes_app, (unhide HX).1, (unhide HP).1, unhide HSt, (unhide HP).2.1, N.bitsTxt_snoc]
           simp
         · exact (unhide HX).2.trans ((unhide HP).2.2.mono (unhide HX).2.size)
         · show ((l0 : Int) + 5 - ((k : Int) + 1)).toNat < ((l0 : Int) + 5 - (k : Int)).toNat
           omega
      · have c1 : (k : Int) < (l0 : Int) := by omega
        have c2 : ¬ (k : Int) < 5 := by omega
        go_wp2
        go_ret
        refine ⟨_, rfl, ?_, (unhide HX).2⟩
        rw [bytes_app, (unhide HX).1, List.take_of_length_le (by have := rawBits_len z0; omega)]
        simp [N.madeTxt]
    · have c1 : ¬ (k : Int) < (l0 : Int) := by omega
      go_wp2
      go_ret
      refine ⟨_, rfl, ?_, (unhide HX).2⟩
      rw [bytes_app, (unhide HX).1, List.take_of_length_le (by unfold rawBits; simp; omega)]
      simp [N.madeTxt]
end Go.Proofs.YtgnlokmeohffaaaGreatDoor
/- Failed's lines, in plain terms. -/
namespace Go.Proofs.YtgnlokmeohffaaaGreatDoor
namespace N
open Go.RowKit

/-- '1 2 3 4 >r' -/
theorem heap_line (o : Txt) (t : Nat) : doLine ⟨laidAll 3, [], [], o, t⟩ [49, 32, 50, 32, 51, 32, 52, 32, 62, 114] = (⟨laidAll 3, [1, 2, 3], [4], [], 5⟩, [], 0, 0) := by kernel_rfl

/-- Numbers, a blank behind each. -/
def numsTxt : List Int → Txt
  | [] => []
  | x :: xs => Lib.itoa x ++ 32 :: numsTxt xs
theorem nums_split : ∀ (xs : List Int) (y : Txt), L.split (numsTxt xs ++ y) = xs.map Lib.itoa ++ L.split y
  | [], y => rfl
  | x :: xs, y => by
    rw [numsTxt, List.append_assoc, List.cons_append, split_blank 32 (by decide), split_itoa, nums_split xs y]
    rfl
theorem nums_len : ∀ xs : List Int, (∀ x ∈ xs, modest x) → (numsTxt xs).length ≤ 4 * xs.length
  | [], _ => Nat.zero_le _
  | x :: xs, h => by
    have h1 := nums_len xs fun y hy => h y (by simp [hy])
    have h2 := modest_len x (h x (by simp))
    simp only [numsTxt, List.length_append, List.length_cons]
    omega
theorem laid_names (n : Int) : ∀ e ∈ laidAll n, L.number e.name = none := by
  intro e he
  simp only [laidAll, List.mem_cons, List.not_mem_nil, or_false] at he
  rcases he with rfl | rfl | rfl | rfl <;> kernel_rfl
theorem nums_run {R : List Int} {ws : List Txt} {out : Txt} : ∀ (xs S : List Int) (f p st : Nat) (t : List Txt), (∀ x ∈ xs, modest x) → ws.drop p = xs.map Lib.itoa ++ t → S.length + xs.length ≤ 16 → st + xs.length ≤ 1000 → runs (f + xs.length) ⟨laidAll 3, S, R, out, st⟩ ws p = runs f ⟨laidAll 3, S ++ xs, R, out, st + xs.length⟩ ws (p + xs.length)
  | [], S, f, p, st, t, _, _, _, _ => by simp
  | x :: xs, S, f, p, st, t, h, hd, hS, hs => by
    simp only [List.length_cons] at hS hs
    have hm := h x (by simp)
    have h1 := runs_number (f := f + xs.length) (p := p) (st := st) (all := laidAll 3) (S := S) (R := R) (out := out) (ws := ws) (x := x) (by have := hm.1; omega) (by have := hm.2; omega) (drop_get hd) (by omega) (by omega) (laid_names 3)
    have h2 := nums_run (R := R) (out := out) xs (S ++ [x]) f (p + 1) (st + 1) t (fun y hy => h y (by simp [hy])) (drop_next hd) (by simp only [List.length_append, List.length_cons, List.length_nil]; omega) (by omega)
    rw [List.length_cons, ← Nat.add_assoc, h1, h2]
    simp only [List.append_assoc, List.singleton_append]
    congr 1
    · congr 1
      omega
    · omega

def wrongTxt : Nat → Txt
  | 0 => [119, 104, 97, 116]
  | 1 => [105, 102]
  | 2 => [49, 48, 48, 48, 32, 64]
  | 3 => [58, 32, 99, 32, 49]
  | 4 => [58, 32, 99, 32, 119, 104, 97, 116, 32, 59]
  | 5 => [48, 32, 48, 32, 47]
  | 6 => [48, 32, 101, 109, 105, 116]
  | 7 => [102, 111, 114, 103, 101, 116, 32, 119, 104, 97, 116]
  | _ => [58, 32, 55, 32, 59]
def wrongWs : Nat → List Txt
  | 0 => [[119, 104, 97, 116]]
  | 1 => [[105, 102]]
  | 2 => [[49, 48, 48, 48], [64]]
  | 3 => [[58], [99], [49]]
  | 4 => [[58], [99], [119, 104, 97, 116], [59]]
  | 5 => [[48], [48], [47]]
  | 6 => [[48], wEmit]
  | 7 => [[102, 111, 114, 103, 101, 116], [119, 104, 97, 116]]
  | _ => [[58], [55], [59]]
def wrongErr : Nat → Int
  | 0 => 2
  | 1 => 3
  | 2 => 9
  | 3 => 3
  | 4 => 2
  | 5 => 8
  | 6 => 11
  | 7 => 2
  | _ => 4
def wrongAt : Nat → Nat
  | 2 => 1
  | 3 => 2
  | 4 => 2
  | 5 => 2
  | 6 => 1
  | _ => 0
theorem wrong_split : ∀ j, j < 9 → L.split (wrongTxt j) = wrongWs j := by decide +kernel

section
variable {f p st : Nat} {all : List Ent} {S R : List Int} {out : Txt} {ws : List Txt} {m m' : Mach}
theorem prim_bad (s : Txt) (args : List Int) (tn tr un ur : Nat) (e : Int) (ht : takes s = (tn, tr, un, ur)) (hn : args.length = tn) (hr : tr ≤ R.length) (hw : wrong ⟨all, S ++ args, R, out, st⟩ s args = e) (he : e ≠ 0) : prim ⟨all, S ++ args, R, out, st⟩ s = (⟨all, S ++ args, R, out, st⟩, e, none) := by
  unfold prim
  have hlen : (S ++ args).length - tn = S.length := by simp; omega
  have hd : (S ++ args).drop S.length = args := by simp
  simp only [ht, hlen, hd, hw]
  rw [if_neg (by simp; omega), if_pos he]
theorem runs_bad {s : Txt} {t : List Txt} {c : Cell} {e : Int} (hd : ws.drop p = s :: t) (ht : st < 1000) (hb : L.isBold s = false) (hm : meaning ⟨all, S, R, out, st + 1⟩ s = some c) (hc : cellDoes fuel ⟨all, S, R, out, st + 1⟩ 0 c = (m', e)) (he : e ≠ 0) :
    runs (f + 1) ⟨all, S, R, out, st⟩ ws p = ({ m' with S := [], R := [] }, e, p) := runs_fail (drop_get hd) ht (one_cell hb hm hc) he
end

/-- What is left of a line that fails there: no numbers, the words that there were, what was told. -/
theorem wrong_runs (j : Nat) (hj : j < 9) (f p st : Nat) (S R : List Int) (out : Txt) (ws : List Txt) (hd : ws.drop p = wrongWs j) (hS : S.length ≤ 13) (hs : st + 10 ≤ 1000) :
    ∃ m', runs (f + (wrongWs j).length) ⟨laidAll 3, S, R, out, st⟩ ws p = (m', wrongErr j, p + wrongAt j) ∧ m'.S = [] ∧ m'.R = [] ∧ m'.out = out ∧ words m' = [[97], [98], [118], [107]] := by
  have h : j = 0 ∨ j = 1 ∨ j = 2 ∨ j = 3 ∨ j = 4 ∨ j = 5 ∨ j = 6 ∨ j = 7 ∨ j = 8 := by omega
  rcases h with rfl | rfl | rfl | rfl | rfl | rfl | rfl | rfl | rfl
  · have hd : ws.drop p = [119, 104, 97, 116] :: [] := hd
    exact ⟨_, runs_fail (m := ⟨laidAll 3, S, R, out, st⟩) (drop_get hd) (by simp only; omega) (one_none rfl rfl) (by decide), rfl, rfl, rfl, rfl⟩
  · have hd : ws.drop p = [105, 102] :: [] := hd
    exact ⟨_, runs_fail (m := ⟨laidAll 3, S, R, out, st⟩) (s := [105, 102]) (e := 3) (drop_get hd) (by simp only; omega) rfl (by decide), rfl, rfl, rfl, rfl⟩
  · have hd : ws.drop p = [49, 48, 48, 48] :: [64] :: [] := hd
    rw [show f + (wrongWs 2).length = f + 1 + 1 from rfl, runs_word hd (by omega) rfl (c := ⟨1, 1000, []⟩) (by rfl) (cell_number (by omega))]
    exact ⟨_, runs_bad (drop_next hd) (by omega) rfl (c := ⟨3, 0, [64]⟩) rfl (cell_prim (prim_bad [64] [1000] 1 0 1 0 9 rfl rfl (Nat.zero_le _) rfl (by decide))) (by decide), rfl, rfl, rfl, rfl⟩
  · have hd : ws.drop p = [58] :: [99] :: [49] :: [] := hd
    have h1 := drop_next hd
    have h2 := drop_next h1
    have h3 := drop_next h2
    have hl : ws.length = p + 3 := by
      have := congrArg List.length hd
      simp only [List.length_drop, List.length_cons, List.length_nil] at this
      omega
    have hr : reads ⟨laidAll 3, S, R, out, st + 1⟩ ws (ws.length + 1) (p + 2) [] [] = ([⟨1, 1, []⟩], 3, p + 2, p + 3) := by
      rw [hl, show p + 3 + 1 = p + 2 + 1 + 1 from rfl, reads_cell (drop_get h2) rfl (c := ⟨1, 1, []⟩) rfl (by simp), reads, List.getElem?_eq_none (by omega)]
      simp only [hl]
      rfl
    have ho : one ⟨laidAll 3, S, R, out, st + 1⟩ ws p [58] = (⟨laidAll 3 ++ [⟨[99], 1, 0, [⟨1, 1, []⟩], false, false⟩], S, R, out, st + 1⟩, 3, p + 2, p + 3) := by
      have e2 : one ⟨laidAll 3, S, R, out, st + 1⟩ ws p [58] = (if nameErr ⟨laidAll 3, S, R, out, st + 1⟩ ws[p + 1]? true ≠ 0 then (⟨laidAll 3, S, R, out, st + 1⟩, nameErr ⟨laidAll 3, S, R, out, st + 1⟩ ws[p + 1]? true, p, p + 2) else
        (⟨laidAll 3 ++ [⟨(ws[p + 1]?).getD [], 1, 0, (reads ⟨laidAll 3, S, R, out, st + 1⟩ ws (ws.length + 1) (p + 2) [] []).1, (reads ⟨laidAll 3, S, R, out, st + 1⟩ ws (ws.length + 1) (p + 2) [] []).2.1 == 0, false⟩], S, R, out, st + 1⟩, (reads ⟨laidAll 3, S, R, out, st + 1⟩ ws (ws.length + 1) (p + 2) [] []).2.1, (reads ⟨laidAll 3, S, R, out, st + 1⟩ ws (ws.length + 1) (p + 2) [] []).2.2.1, (reads ⟨laidAll 3, S, R, out, st + 1⟩ ws (ws.length + 1) (p + 2) [] []).2.2.2)) := rfl
      rw [e2, drop_get h1, hr, if_neg (by rw [show nameErr ⟨laidAll 3, S, R, out, st + 1⟩ (some [99]) true = 0 by kernel_rfl]; simp)]
      rfl
    exact ⟨_, runs_fail (m := ⟨laidAll 3, S, R, out, st⟩) (drop_get hd) (by simp only; omega) ho (by decide), rfl, rfl, rfl, rfl⟩
  · have hd : ws.drop p = [58] :: [99] :: [119, 104, 97, 116] :: [59] :: [] := hd
    have h1 := drop_next hd
    have h2 := drop_next h1
    have hr : reads ⟨laidAll 3, S, R, out, st + 1⟩ ws (ws.length + 1) (p + 2) [] [] = ([], 2, p + 2, p + 3) := by
      rw [reads, drop_get h2]
      rfl
    have ho : one ⟨laidAll 3, S, R, out, st + 1⟩ ws p [58] = (⟨laidAll 3 ++ [⟨[99], 1, 0, [], false, false⟩], S, R, out, st + 1⟩, 2, p + 2, p + 3) := by
      have e2 : one ⟨laidAll 3, S, R, out, st + 1⟩ ws p [58] = (if nameErr ⟨laidAll 3, S, R, out, st + 1⟩ ws[p + 1]? true ≠ 0 then (⟨laidAll 3, S, R, out, st + 1⟩, nameErr ⟨laidAll 3, S, R, out, st + 1⟩ ws[p + 1]? true, p, p + 2) else
        (⟨laidAll 3 ++ [⟨(ws[p + 1]?).getD [], 1, 0, (reads ⟨laidAll 3, S, R, out, st + 1⟩ ws (ws.length + 1) (p + 2) [] []).1, (reads ⟨laidAll 3, S, R, out, st + 1⟩ ws (ws.length + 1) (p + 2) [] []).2.1 == 0, false⟩], S, R, out, st + 1⟩, (reads ⟨laidAll 3, S, R, out, st + 1⟩ ws (ws.length + 1) (p + 2) [] []).2.1, (reads ⟨laidAll 3, S, R, out, st + 1⟩ ws (ws.length + 1) (p + 2) [] []).2.2.1, (reads ⟨laidAll 3, S, R, out, st + 1⟩ ws (ws.length + 1) (p + 2) [] []).2.2.2)) := rfl
      rw [e2, drop_get h1, hr, if_neg (by rw [show nameErr ⟨laidAll 3, S, R, out, st + 1⟩ (some [99]) true = 0 by kernel_rfl]; simp)]
      rfl
    exact ⟨_, runs_fail (m := ⟨laidAll 3, S, R, out, st⟩) (drop_get hd) (by simp only; omega) ho (by decide), rfl, rfl, rfl, rfl⟩
  · have hd : ws.drop p = [48] :: [48] :: [47] :: [] := hd
    rw [show f + (wrongWs 5).length = f + 1 + 1 + 1 from rfl, runs_word hd (by omega) rfl (c := ⟨1, 0, []⟩) (by rfl) (cell_number (by omega)), runs_word (drop_next hd) (by omega) rfl (c := ⟨1, 0, []⟩) (by rfl) (cell_number (by simp; omega)), show S ++ [0] ++ [0] = S ++ [0, 0] by simp]
    exact ⟨_, runs_bad (drop_next (drop_next hd)) (by omega) rfl (c := ⟨3, 0, [47]⟩) rfl (cell_prim (prim_bad [47] [0, 0] 2 0 1 0 8 rfl rfl (Nat.zero_le _) rfl (by decide))) (by decide), rfl, rfl, rfl, rfl⟩
  · have hd : ws.drop p = [48] :: wEmit :: [] := hd
    rw [show f + (wrongWs 6).length = f + 1 + 1 from rfl, runs_word hd (by omega) rfl (c := ⟨1, 0, []⟩) (by rfl) (cell_number (by omega))]
    exact ⟨_, runs_bad (drop_next hd) (by omega) rfl (c := ⟨3, 0, wEmit⟩) rfl (cell_prim (prim_bad wEmit [0] 1 0 0 0 11 rfl rfl (Nat.zero_le _) rfl (by decide))) (by decide), rfl, rfl, rfl, rfl⟩
  · have hd : ws.drop p = [102, 111, 114, 103, 101, 116] :: [119, 104, 97, 116] :: [] := hd
    have ho : one ⟨laidAll 3, S, R, out, st + 1⟩ ws p [102, 111, 114, 103, 101, 116] = (⟨laidAll 3, S, R, out, st + 1⟩, 2, p, p + 2) := by
      have e2 : one ⟨laidAll 3, S, R, out, st + 1⟩ ws p [102, 111, 114, 103, 101, 116] = (if nameErr ⟨laidAll 3, S, R, out, st + 1⟩ ws[p + 1]? false ≠ 0 then (⟨laidAll 3, S, R, out, st + 1⟩, nameErr ⟨laidAll 3, S, R, out, st + 1⟩ ws[p + 1]? false, p, p + 2) else
        match newest ⟨laidAll 3, S, R, out, st + 1⟩ ((ws[p + 1]?).getD []) with
        | none => (⟨laidAll 3, S, R, out, st + 1⟩, 2, p, p + 2)
        | some k => (forgets ⟨laidAll 3, S, R, out, st + 1⟩ k, 0, 0, p + 2)) := rfl
      rw [e2, drop_get (drop_next hd)]
      rfl
    exact ⟨_, runs_fail (m := ⟨laidAll 3, S, R, out, st⟩) (drop_get hd) (by simp only; omega) ho (by decide), rfl, rfl, rfl, rfl⟩
  · have hd : ws.drop p = [58] :: [55] :: [59] :: [] := hd
    have ho : one ⟨laidAll 3, S, R, out, st + 1⟩ ws p [58] = (⟨laidAll 3, S, R, out, st + 1⟩, 4, p, p + 2) := by
      have e2 : one ⟨laidAll 3, S, R, out, st + 1⟩ ws p [58] = (if nameErr ⟨laidAll 3, S, R, out, st + 1⟩ ws[p + 1]? true ≠ 0 then (⟨laidAll 3, S, R, out, st + 1⟩, nameErr ⟨laidAll 3, S, R, out, st + 1⟩ ws[p + 1]? true, p, p + 2) else
        (⟨laidAll 3 ++ [⟨(ws[p + 1]?).getD [], 1, 0, (reads ⟨laidAll 3, S, R, out, st + 1⟩ ws (ws.length + 1) (p + 2) [] []).1, (reads ⟨laidAll 3, S, R, out, st + 1⟩ ws (ws.length + 1) (p + 2) [] []).2.1 == 0, false⟩], S, R, out, st + 1⟩, (reads ⟨laidAll 3, S, R, out, st + 1⟩ ws (ws.length + 1) (p + 2) [] []).2.1, (reads ⟨laidAll 3, S, R, out, st + 1⟩ ws (ws.length + 1) (p + 2) [] []).2.2.1, (reads ⟨laidAll 3, S, R, out, st + 1⟩ ws (ws.length + 1) (p + 2) [] []).2.2.2)) := rfl
      rw [e2, drop_get (drop_next hd), show nameErr ⟨laidAll 3, S, R, out, st + 1⟩ (some [55]) true = 4 by kernel_rfl]
      exact if_pos (by decide)
    exact ⟨_, runs_fail (m := ⟨laidAll 3, S, R, out, st⟩) (drop_get hd) (by simp only; omega) ho (by decide), rfl, rfl, rfl, rfl⟩

/-- '5 . b ', numbers, and what fails. -/
def failTxt (xs : List Int) (j : Nat) : Txt := [53, 32, 46, 32, 98, 32] ++ (numsTxt xs ++ wrongTxt j)
theorem fail_line (xs : List Int) (j : Nat) (hj : j < 9) (hx : ∀ x ∈ xs, modest x) (hl : xs.length ≤ 6) (o : Txt) (t : Nat) :
    ∃ m', doLine ⟨laidAll 3, [1, 2, 3], [4], o, t⟩ (failTxt xs j) = (m', [53, 32, 97, 98], wrongErr j, 3 + xs.length + wrongAt j) ∧ m'.S = [] ∧ m'.R = [] ∧ words m' = [[97], [98], [118], [107]] := by
  have hsp : L.split (failTxt xs j) = [53] :: [46] :: [98] :: (xs.map Lib.itoa ++ wrongWs j) := by
    unfold failTxt
    rw [show [53, 32, 46, 32, 98, 32] ++ (numsTxt xs ++ wrongTxt j) = [53, 32, 46, 32, 98] ++ 32 :: (numsTxt xs ++ wrongTxt j) from rfl, split_blank 32 (by decide), nums_split, wrong_split j hj]
    rfl
  have hnl := nums_len xs hx
  have hwl : (wrongTxt j).length ≤ 11 := by unfold wrongTxt; split <;> simp
  have hww : 1 ≤ (wrongWs j).length := by unfold wrongWs; split <;> simp
  have hlen : (failTxt xs j).length ≤ 500 := by
    unfold failTxt
    simp only [List.length_append, List.length_cons, List.length_nil]
    omega
  generalize hws : [53] :: [46] :: [98] :: (xs.map Lib.itoa ++ wrongWs j) = ws at *
  have h0 : ws.drop 0 = [53] :: [46] :: [98] :: (xs.map Lib.itoa ++ wrongWs j) := by rw [← hws]; rfl
  have h1 := drop_next h0
  have h2 := drop_next h1
  have h3 := drop_next h2
  have hL : ws.length = xs.length + (wrongWs j).length + 3 := by
    rw [← hws]
    simp only [List.length_append, List.length_cons, List.length_map]
  have h4 : ws.drop (3 + xs.length) = wrongWs j := by
    have : ws.drop 3 = xs.map Lib.itoa ++ wrongWs j := h3
    rw [← List.drop_drop, this]
    have e : xs.length = (xs.map Lib.itoa).length := by simp
    rw [e, List.drop_left]
  have key : ∃ m', runs (ws.length + 1) ⟨laidAll 3, [1, 2, 3], [4], [], 0⟩ ws 0 = (m', wrongErr j, 3 + xs.length + wrongAt j) ∧ m'.S = [] ∧ m'.R = [] ∧ m'.out = [53, 32, 97, 98] ∧ words m' = [[97], [98], [118], [107]] := by
    have hr : runs (ws.length + 1) ⟨laidAll 3, [1, 2, 3], [4], [], 0⟩ ws 0 = runs ((wrongWs j).length + 1) ⟨laidAll 3, [1, 2, 3] ++ xs, [4], [53, 32, 97, 98], 8 + xs.length⟩ ws (3 + xs.length) := by
      rw [hL, show xs.length + (wrongWs j).length + 3 + 1 = ((wrongWs j).length + 1 + xs.length) + 1 + 1 + 1 by omega]
      rw [runs_word h0 (by omega) rfl (c := ⟨1, 5, []⟩) rfl (cell_number (by simp))]
      rw [runs_word h1 (by omega) rfl (c := ⟨3, 0, [46]⟩) rfl (cell_prim (dot_ok 5 ⟨by omega, by omega⟩ (by simp) (by simp) (by simp)))]
      rw [runs_word h2 (by omega) rfl (c := ⟨2, 1, []⟩) rfl ((cell_own (j := 1) rfl).trans (b_owns rfl rfl (by decide) (by omega) (by omega) (by simp) (by simp) (by simp [show Lib.itoa 5 = [53] by decide +kernel])))]
      rw [nums_run xs [1, 2, 3] _ _ _ (wrongWs j) hx h3 (by simp; omega) (by omega), show Lib.itoa 5 = [53] by decide +kernel]
      rfl
    obtain ⟨m2, hm2, f1, f2, f3, f4⟩ := wrong_runs j hj 1 (3 + xs.length) (8 + xs.length) ([1, 2, 3] ++ xs) [4] [53, 32, 97, 98] ws h4 (by simp; omega) (by omega)
    rw [Nat.add_comm] at hm2
    exact ⟨m2, hr.trans hm2, f1, f2, f3, f4⟩
  obtain ⟨m', hk, f1, f2, f3, f4⟩ := key
  refine ⟨m', ?_, f1, f2, f4⟩
  rw [doLine_eq _ _ _ hlen hsp]
  show ((runs (ws.length + 1) ⟨laidAll 3, [1, 2, 3], [4], [], 0⟩ ws 0).1, (runs (ws.length + 1) ⟨laidAll 3, [1, 2, 3], [4], [], 0⟩ ws 0).1.out, (runs (ws.length + 1) ⟨laidAll 3, [1, 2, 3], [4], [], 0⟩ ws 0).2) = _
  rw [hk]
  show (m', m'.out, _) = _
  rw [f3]
end N
end Go.Proofs.YtgnlokmeohffaaaGreatDoor
