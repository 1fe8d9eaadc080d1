/- Parts of the proof: see the last text. -/
import Derived.Test.YtgnlokmeohffaaaGreatDoorB12
/- The document's machine, word by word, in plain terms: what one step of a body, of a line, of a reading comes to. -/
namespace Go.Proofs.YtgnlokmeohffaaaGreatDoor
namespace N
open Go.RowKit

section
variable {f k d p st : Nat} {all : List Ent} {S R : List Int} {out : Txt} {l : List Cell} {r : List (Int × Int)} {m' : Mach}

theorem body_end {m : Mach} (hl : l[p]? = none) : body (f + 1) m k l d p r = (m, 0) := body_none f m k l d p r hl
theorem push_ok {n : Int} (h : S.length < 16) : push ⟨all, S, R, out, st⟩ n = (⟨all, S ++ [n], R, out, st⟩, 0) := if_neg (by simp only; omega)
theorem on_ok {x : Mach × Int} {q : Nat} (h : x = (m', 0)) : onTo f k l d x q r = body f m' k l d q r := by
  subst h
  exact if_neg (by simp)
theorem body_number {n : Int} {nm : Txt} (hl : l[p]? = some ⟨1, n, nm⟩) (hs : st < 1000) (hS : S.length < 16) : body (f + 1) ⟨all, S, R, out, st⟩ k l d p r = body f ⟨all, S ++ [n], R, out, st + 1⟩ k l d (p + 1) r :=
  (body_cell f _ k l d p r _ hl (by simp only; omega) (.inl rfl)).trans (on_ok (push_ok hS))
theorem body_prim {n : Int} {s : Txt} (hl : l[p]? = some ⟨3, n, s⟩) (hs : st < 1000) (hp : prim ⟨all, S, R, out, st + 1⟩ s = (m', 0, none)) : body (f + 1) ⟨all, S, R, out, st⟩ k l d p r = body f m' k l d (p + 1) r :=
  (body_cell f _ k l d p r _ hl (by simp only; omega) (.inr (.inr rfl))).trans (on_ok (by
    show (match (prim ⟨all, S, R, out, st + 1⟩ s).2.2 with | some j => owns f (prim ⟨all, S, R, out, st + 1⟩ s).1 j d | none => ((prim ⟨all, S, R, out, st + 1⟩ s).1, (prim ⟨all, S, R, out, st + 1⟩ s).2.1)) = _
    rw [hp]))
theorem body_exec {n : Int} {s : Txt} {j : Nat} {m1 : Mach} (hl : l[p]? = some ⟨3, n, s⟩) (hs : st < 1000) (hp : prim ⟨all, S, R, out, st + 1⟩ s = (m1, 0, some j)) (ho : owns f m1 j d = (m', 0)) : body (f + 1) ⟨all, S, R, out, st⟩ k l d p r = body f m' k l d (p + 1) r :=
  (body_cell f _ k l d p r _ hl (by simp only; omega) (.inr (.inr rfl))).trans (on_ok (by
    show (match (prim ⟨all, S, R, out, st + 1⟩ s).2.2 with | some j => owns f (prim ⟨all, S, R, out, st + 1⟩ s).1 j d | none => ((prim ⟨all, S, R, out, st + 1⟩ s).1, (prim ⟨all, S, R, out, st + 1⟩ s).2.1)) = _
    rw [hp]
    exact ho))
theorem body_own {n : Int} {nm : Txt} (hl : l[p]? = some ⟨2, n, nm⟩) (hs : st < 1000) (ho : owns f ⟨all, S, R, out, st + 1⟩ n.toNat d = (m', 0)) : body (f + 1) ⟨all, S, R, out, st⟩ k l d p r = body f m' k l d (p + 1) r :=
  (body_cell f _ k l d p r _ hl (by simp only; omega) (.inr (.inl rfl))).trans (on_ok ho)
theorem body_recurse {n : Int} (hl : l[p]? = some ⟨4, n, wRecurse⟩) (hs : st < 1000) (ho : owns f ⟨all, S, R, out, st + 1⟩ k d = (m', 0)) : body (f + 1) ⟨all, S, R, out, st⟩ k l d p r = body f m' k l d (p + 1) r :=
  (body_bold f _ k l d p r _ hl (by simp only; omega) rfl).trans (on_ok ho)
theorem body_rounds {n : Int} {s : Txt} {q : Nat} {r' : List (Int × Int)} (hl : l[p]? = some ⟨4, n, s⟩) (hk : (s == wDo || s == wLoop || s == wI || s == wLeave) = true) (he : (s == wExit) = false) (hr : (s == wRecurse) = false) (hs : st < 1000)
    (hp : rounds ⟨all, S, R, out, st + 1⟩ l p s r = (m', q, r', 0)) : body (f + 1) ⟨all, S, R, out, st⟩ k l d p r = body f m' k l d q r' := by
  rw [body_bold f _ k l d p r _ hl (by simp only; omega) rfl]
  simp only [he, hr, hk, Bool.false_eq_true, if_false, if_true, stepped, hp]
  exact on_ok rfl
theorem body_ways {n : Int} {s : Txt} {q : Nat} (hl : l[p]? = some ⟨4, n, s⟩) (hk : (s == wDo || s == wLoop || s == wI || s == wLeave) = false) (he : (s == wExit) = false) (hr : (s == wRecurse) = false) (hs : st < 1000)
    (hp : ways ⟨all, S, R, out, st + 1⟩ l p s = (m', q, 0)) : body (f + 1) ⟨all, S, R, out, st⟩ k l d p r = body f m' k l d q r := by
  rw [body_bold f _ k l d p r _ hl (by simp only; omega) rfl]
  simp only [he, hr, hk, Bool.false_eq_true, if_false, stepped, hp]
  exact on_ok rfl

/-- A word of the language that may be done; args: what it takes. -/
theorem prim_ok (s : Txt) (args : List Int) (tn tr un ur : Nat) (ht : takes s = (tn, tr, un, ur)) (hn : args.length = tn) (hr : tr ≤ R.length) (hw : wrong ⟨all, S ++ args, R, out, st⟩ s args = 0) (h1 : S.length + un ≤ 16) (h2 : R.length - tr + ur ≤ 16)
    (h3 : out.length + (told s (args.getD 0 0)).length ≤ 300) :
    prim ⟨all, S ++ args, R, out, st⟩ s = (does ⟨all, S ++ args, R, out ++ told s (args.getD 0 0), st⟩ s args S, 0, if s == [101, 120, 101, 99, 117, 116, 101] then some (args.getD 0 0 - 1000).toNat else none) := by
  unfold prim
  have hlen : (S ++ args).length - tn = S.length := by simp; omega
  have hd : (S ++ args).drop S.length = args := by simp
  have hta : (S ++ args).take S.length = S := by simp
  simp only [ht, hlen, hd, hta, hw]
  rw [if_neg (by simp; omega), if_neg (by simp), if_neg (by omega), if_neg (by omega)]
end
end N
end Go.Proofs.YtgnlokmeohffaaaGreatDoor
/- The document's machine on lines, in plain terms: how a line's words are split, done one by one, read into a definition. -/
namespace Go.Proofs.YtgnlokmeohffaaaGreatDoor
namespace N
open Go.RowKit

theorem splitGo_blank (c : UInt8) (hc : L.blank c = true) (y : Txt) : ∀ (x cur : Txt), L.splitGo (x ++ c :: y) cur = L.splitGo x cur ++ L.splitGo y []
  | [], cur => by
    show L.splitGo (c :: y) cur = (if cur.isEmpty then [] else [cur]) ++ L.splitGo y []
    have e : L.splitGo (c :: y) cur = if cur.isEmpty then L.splitGo y [] else cur :: L.splitGo y [] := if_pos hc
    rw [e]
    cases cur <;> rfl
  | a :: x, cur => by
    rw [List.cons_append, L.splitGo, L.splitGo]
    by_cases ha : L.blank a = true
    · rw [if_pos ha, if_pos ha]
      cases cur with
      | nil => exact splitGo_blank c hc y x []
      | cons b t =>
        show (b :: t) :: L.splitGo (x ++ c :: y) [] = (b :: t) :: L.splitGo x [] ++ _
        rw [splitGo_blank c hc y x []]
        rfl
    · rw [if_neg ha, if_neg ha]
      exact splitGo_blank c hc y x _
/-- What stands on both sides of a blank. -/
theorem split_blank (c : UInt8) (hc : L.blank c = true) (x y : Txt) : L.split (x ++ c :: y) = L.split x ++ L.split y := splitGo_blank c hc y x []
theorem split_lead (c : UInt8) (hc : L.blank c = true) (y : Txt) : L.split (c :: y) = L.split y := split_blank c hc [] y

section
variable {f p q st : Nat} {m m' : Mach} {ws : List Txt} {s : Txt}

theorem runs_end (h : ws[p]? = none) : runs (f + 1) m ws p = (m, 0, 0) := by rw [runs, h]
theorem runs_go {x : Nat} (hs : ws[p]? = some s) (ht : m.steps < 1000) (h : one { m with steps := m.steps + 1 } ws p s = (m', 0, x, q)) : runs (f + 1) m ws p = runs f m' ws q := by
  rw [runs, hs]
  simp only [if_neg (show ¬ 1000 < m.steps + 1 by omega), h]
  rfl
theorem runs_fail {x : Nat} {e : Int} (hs : ws[p]? = some s) (ht : m.steps < 1000) (h : one { m with steps := m.steps + 1 } ws p s = (m', e, x, q)) (he : e ≠ 0) : runs (f + 1) m ws p = ({ m' with S := [], R := [] }, e, x) := by
  rw [runs, hs]
  simp only [if_neg (show ¬ 1000 < m.steps + 1 by omega), h, if_pos he]

theorem bold_not {b : Txt} (h : L.isBold s = false) (hb : b ∈ L.boldNames) : (s == b) = false := by
  cases hx : s == b with
  | false => rfl
  | true =>
    have : L.isBold s = true := List.any_eq_true.2 ⟨b, hb, hx⟩
    rw [this] at h
    cases h
theorem one_cell {c : Cell} {e : Int} (hb : L.isBold s = false) (hm : meaning m s = some c) (hd : cellDoes fuel m 0 c = (m', e)) : one m ws p s = (m', e, p, p + 1) := by
  unfold one
  have b1 : (s == [58]) = false := bold_not hb (by decide)
  have b2 : (s == [39]) = false := bold_not hb (by decide)
  have b3 : (s == [118, 97, 114, 105, 97, 98, 108, 101]) = false := bold_not hb (by decide)
  have b4 : (s == [99, 111, 110, 115, 116, 97, 110, 116]) = false := bold_not hb (by decide)
  have b5 : (s == [109, 97, 114, 107, 101, 114]) = false := bold_not hb (by decide)
  have b6 : (s == [102, 111, 114, 103, 101, 116]) = false := bold_not hb (by decide)
  simp only [b1, b2, b3, b4, b5, b6, hb, Bool.or_self, Bool.false_eq_true, if_false, hm]
  unfold cellDoes at hd
  by_cases k1 : c.kind = 1
  · rw [if_pos k1] at hd ⊢
    rw [hd]
  · rw [if_neg k1] at hd ⊢
    by_cases k2 : c.kind = 2
    · rw [if_pos k2] at hd ⊢
      rw [hd]
    · rw [if_neg k2] at hd ⊢
      cases hj : (prim m c.name).2.2 with
      | none =>
        rw [hj] at hd
        simp only at hd ⊢
        injection hd with h1 h2
        rw [h1, h2]
      | some j =>
        rw [hj] at hd
        simp only at hd ⊢
        rw [hd]
theorem one_none (hb : L.isBold s = false) (hm : meaning m s = none) : one m ws p s = (m, 2, p, p + 1) := by
  unfold one
  have b1 : (s == [58]) = false := bold_not hb (by decide)
  have b2 : (s == [39]) = false := bold_not hb (by decide)
  have b3 : (s == [118, 97, 114, 105, 97, 98, 108, 101]) = false := bold_not hb (by decide)
  have b4 : (s == [99, 111, 110, 115, 116, 97, 110, 116]) = false := bold_not hb (by decide)
  have b5 : (s == [109, 97, 114, 107, 101, 114]) = false := bold_not hb (by decide)
  have b6 : (s == [102, 111, 114, 103, 101, 116]) = false := bold_not hb (by decide)
  simp only [b1, b2, b3, b4, b5, b6, hb, Bool.or_self, Bool.false_eq_true, if_false, hm]

/-- A line, by its words. -/
theorem doLine_eq (m : Mach) (text : Txt) (ws : List Txt) (hl : text.length ≤ 500) (hw : L.split text = ws) : doLine m text = ((runs (ws.length + 1) { m with out := [], steps := 0 } ws 0).1, (runs (ws.length + 1) { m with out := [], steps := 0 } ws 0).1.out, (runs (ws.length + 1) { m with out := [], steps := 0 } ws 0).2) := by
  unfold doLine
  rw [if_neg (by omega), hw]

/-- A word of a body that is not bold. -/
theorem reads_cell {o : List Txt} {b : List Cell} {c : Cell} (hs : ws[p]? = some s) (hb : L.isBold s = false) (hm : meaning m s = some c) (hl : b.length < 60) : reads m ws (f + 1) p o b = reads m ws f (p + 1) o (b ++ [c]) := by
  rw [reads, hs]
  have b1 : (s == [59]) = false := bold_not hb (by decide)
  simp only [b1, hb, hm, Bool.false_eq_true, if_false, if_true, if_neg (show ¬ 60 ≤ b.length by omega)]
/-- A bold one. -/
theorem reads_bold {o o' : List Txt} {b : List Cell} (hs : ws[p]? = some s) (hb : L.isBold s = true) (h1 : (s == [59]) = false) (h2 : (s == [39]) = false) (hm : stands o s = some o') (hl : b.length < 60) : reads m ws (f + 1) p o b = reads m ws f (p + 1) o' (b ++ [⟨4, 0, s⟩]) := by
  rw [reads, hs]
  simp only [h1, h2, hb, hm, Bool.false_eq_true, Bool.true_eq_false, if_false, if_neg (show ¬ 60 ≤ b.length by omega)]
/-- ' and its name. -/
theorem reads_tok {o : List Txt} {b : List Cell} {t : Txt} {k : Nat} (hs : ws[p]? = some [39]) (ht : ws[p + 1]? = some t) (hb : L.isBold t = false) (hk : newest m t = some k) (hl : b.length < 60) : reads m ws (f + 1) p o b = reads m ws f (p + 2) o (b ++ [⟨1, 1000 + k, []⟩]) := by
  rw [reads, hs]
  have e1 : nameErr m (some t) false = 0 := by
    unfold nameErr
    simp only [hb, Bool.false_and, Bool.or_self, Bool.false_eq_true, if_false, false_and]
  have e2 : stands o [39] = some o := rfl
  simp only [show (([39] : Txt) == [59]) = false from rfl, show L.isBold [39] = true from rfl, show (([39] : Txt) == [39]) = true from rfl, e2, ht, e1, hk, Option.getD_some, Bool.false_eq_true, Bool.true_eq_false, if_false, if_true, ne_eq, not_true_eq_false, if_neg (show ¬ 60 ≤ b.length by omega)]
theorem reads_end {b : List Cell} (hs : ws[p]? = some [59]) : reads m ws (f + 1) p [] b = (b, 0, 0, p + 1) := by
  rw [reads, hs]
  rfl
end
end N
end Go.Proofs.YtgnlokmeohffaaaGreatDoor
/- Numbers as they are told are numbers as they are written; and they are no other words. Of no program. -/
namespace Go.Proofs.YtgnlokmeohffaaaGreatDoor
namespace L

theorem ofNat_toNat (d : Nat) (h : d < 10) : (UInt8.ofNat (48 + d)).toNat = 48 + d := by
  rw [UInt8.toNat_ofNat']
  omega

theorem dec_facts (n : Nat) : (Lib.decDigits n).all isDigit = true ∧ digVal (Lib.decDigits n) = n ∧ Lib.decDigits n ≠ [] := by
  induction n using Nat.strongRecOn with
  | _ n ih =>
    by_cases h : n / 10 = 0
    · rw [dec_small h]
      have hd := ofNat_toNat (n % 10) (by omega)
      refine ⟨?_, ?_, by simp⟩
      · simp only [List.all_cons, List.all_nil, Bool.and_true, isDigit, hd, Bool.and_eq_true, decide_eq_true_eq]
        omega
      · simp only [digVal, List.foldl_cons, List.foldl_nil, hd]
        omega
    · rw [dec_big h]
      obtain ⟨h1, h2, _⟩ := ih (n / 10) (by omega)
      have hd := ofNat_toNat (n % 10) (by omega)
      refine ⟨?_, ?_, by simp⟩
      · simp only [List.all_append, h1, List.all_cons, List.all_nil, Bool.and_true, Bool.true_and, isDigit, hd, Bool.and_eq_true, decide_eq_true_eq]
        omega
      · rw [digVal_snoc, h2, hd]
        omega

theorem dec_short (n : Nat) (h : n < 1000000000000000000) : (Lib.decDigits n).length ≤ 18 := by
  rw [Lib.decDigits_length]
  exact nDigits_le 17 n (by simp only [Nat.reducePow, Nat.reduceAdd]; omega)

theorem number_itoa (x : Int) (h0 : -1000000000000000000 < x) (h1 : x < 1000000000000000000) : number (Lib.itoa x) = some x := by
  obtain ⟨f1, f2, f3⟩ := dec_facts x.natAbs
  have fl := dec_short x.natAbs (by omega)
  have f4 : (Lib.decDigits x.natAbs).length ≠ 0 := fun e => f3 (List.length_eq_zero_iff.1 e)
  have hno : ¬ ((Lib.decDigits x.natAbs).length = 0 ∨ 18 < (Lib.decDigits x.natAbs).length ∨ true = false) := by
    rintro (h | h | h)
    · exact f4 h
    · omega
    · cases h
  by_cases hn : x < 0
  · have hi : Lib.itoa x = 45 :: Lib.decDigits x.natAbs := by unfold Lib.itoa; rw [if_pos hn]
    have hp : Lib.hasPrefix (Lib.itoa x) [45] = true := by rw [hi]; rfl
    have ht : Lib.trimPrefix (Lib.itoa x) [45] = Lib.decDigits x.natAbs := by unfold Lib.trimPrefix; rw [if_pos hp, hi]; rfl
    unfold number
    rw [ht, hp, f1, f2, if_neg hno, if_pos rfl]
    congr 1
    omega
  · have hi : Lib.itoa x = Lib.decDigits x.natAbs := by
      unfold Lib.itoa
      rw [if_neg hn, show x.toNat = x.natAbs by omega]
    have hp : Lib.hasPrefix (Lib.itoa x) [45] = false := by
      rw [hi]
      cases hd : Lib.decDigits x.natAbs with
      | nil => exact (f3 hd).elim
      | cons c t =>
        rw [hd] at f1
        simp only [List.all_cons, Bool.and_eq_true, isDigit, decide_eq_true_eq] at f1
        simp only [Lib.hasPrefix, List.isPrefixOf, Bool.and_true, beq_eq_false_iff_ne]
        intro e
        rw [← e] at f1
        have : (45 : UInt8).toNat = 45 := rfl
        omega
    have ht : Lib.trimPrefix (Lib.itoa x) [45] = Lib.decDigits x.natAbs := by unfold Lib.trimPrefix; rw [if_neg (by rw [hp]; simp), hi]
    unfold number
    rw [ht, hp, f1, f2, if_neg hno, if_neg (by simp)]
    congr 1
    omega

theorem bold_no_number : ∀ b ∈ boldNames, number b = none := by decide +kernel
theorem prim_no_number : ∀ p ∈ primTab ++ reachTab, number p.name = none := by decide +kernel

theorem bold_of_number {l : List UInt8} {x : Int} (h : number l = some x) : isBold l = false := by
  unfold isBold
  rw [List.any_eq_false]
  intro b hb he
  rw [beq_iff_eq] at he
  rw [he, bold_no_number b hb] at h
  cases h
theorem find_of_number {l : List UInt8} {x : Int} (h : number l = some x) : find l = none := by
  unfold find
  rw [List.find?_eq_none]
  intro p hp he
  rw [beq_iff_eq] at he
  rw [he, prim_no_number p hp] at h
  cases h

theorem itoa_plain (x : Int) : (∀ c ∈ Lib.itoa x, blank c = false) ∧ Lib.itoa x ≠ [] := by
  obtain ⟨f1, _, f3⟩ := dec_facts x.natAbs
  have hd : ∀ c ∈ Lib.decDigits x.natAbs, blank c = false := fun c hc => by
    have := List.all_eq_true.1 f1 c hc
    simp only [isDigit, Bool.and_eq_true, decide_eq_true_eq] at this
    simp only [blank, blankN, Bool.or_eq_false_iff, beq_eq_false_iff_ne]
    omega
  by_cases hn : x < 0
  · have hi : Lib.itoa x = 45 :: Lib.decDigits x.natAbs := by unfold Lib.itoa; rw [if_pos hn]
    rw [hi]
    refine ⟨fun c hc => ?_, by simp⟩
    rcases List.mem_cons.1 hc with rfl | hc
    · rfl
    · exact hd c hc
  · have hi : Lib.itoa x = Lib.decDigits x.natAbs := by
      unfold Lib.itoa
      rw [if_neg hn, show x.toNat = x.natAbs by omega]
    rw [hi]
    exact ⟨hd, f3⟩

/-- A word, a blank, and the rest. -/
theorem split_cons (a : List UInt8) (c : UInt8) (t : List UInt8) (ha : ∀ c ∈ a, blank c = false) (hne : a ≠ []) (hc : blank c = true) : split (a ++ c :: t) = a :: split t := by
  unfold split
  rw [splitGo_run a (c :: t) [] ha, List.nil_append, splitGo, if_pos hc, if_neg (by simpa using hne)]
end L
end Go.Proofs.YtgnlokmeohffaaaGreatDoor
/- Counted's lines, in plain terms: what they tell. -/
namespace Go.Proofs.YtgnlokmeohffaaaGreatDoor
namespace N
open Go.RowKit

theorem prims_no_number : ∀ b ∈ prims, L.number b = none := by decide +kernel
theorem prim_of_number {s : Txt} {x : Int} (h : L.number s = some x) : isPrim s = false := by
  cases hp : isPrim s with
  | false => rfl
  | true =>
    obtain ⟨b, hb, he⟩ := List.any_eq_true.1 hp
    have : s = b := by simpa using he
    rw [this, prims_no_number b hb] at h
    cases h
theorem newestOf_number {s : Txt} {x : Int} (h : L.number s = some x) (all : List Ent) (ha : ∀ e ∈ all, L.number e.name = none) : ∀ i, newestOf all s i = none
  | 0 => rfl
  | i + 1 => by
    rw [newestOf]
    cases he : all[i]? with
    | none => exact newestOf_number h all ha i
    | some e =>
      have hn := ha e (List.mem_of_getElem? he)
      have : (e.name == s) = false := by
        cases hx : e.name == s with
        | false => rfl
        | true =>
          have hx : e.name = s := by simpa using hx
          rw [hx, h] at hn
          cases hn
      simp only [this, Bool.false_and, Bool.false_eq_true, if_false]
      exact newestOf_number h all ha i
theorem meaning_number {m : Mach} {s : Txt} {x : Int} (h : L.number s = some x) (ha : ∀ e ∈ m.all, L.number e.name = none) : meaning m s = some ⟨1, x, []⟩ := by
  unfold meaning newest
  rw [newestOf_number h m.all ha]
  simp only [prim_of_number h, h, Bool.false_eq_true, if_false]
  rfl

theorem split_itoa (x : Int) : L.split (Lib.itoa x) = [Lib.itoa x] := by
  have h := L.itoa_plain x
  have := L.splitGo_run (Lib.itoa x) [] [] h.1
  rw [List.append_nil, List.nil_append] at this
  show L.splitGo (Lib.itoa x) [] = _
  rw [this]
  show (if (Lib.itoa x).isEmpty then [] else [Lib.itoa x]) = _
  cases hx : Lib.itoa x with
  | nil => exact (h.2 hx).elim
  | cons a t => rfl

/-- A number of a line. -/
theorem runs_number {f p st : Nat} {all : List Ent} {S R : List Int} {out : Txt} {ws : List Txt} {x : Int} (h0 : -1000000000000000000 < x) (h1 : x < 1000000000000000000) (hs : ws[p]? = some (Lib.itoa x)) (ht : st < 1000) (hS : S.length < 16) (ha : ∀ e ∈ all, L.number e.name = none) :
    runs (f + 1) ⟨all, S, R, out, st⟩ ws p = runs f ⟨all, S ++ [x], R, out, st + 1⟩ ws (p + 1) := by
  have hn := L.number_itoa x h0 h1
  exact runs_go hs ht (one_cell (L.bold_of_number hn) (meaning_number hn ha) (push_ok hS))

/-- ': up do i . loop ; : some do i . i over = if leave then loop drop ; : sum dup if dup 1 - recurse + then ;' -/
def cntTxt : Txt := [58, 32, 117, 112, 32, 100, 111, 32, 105, 32, 46, 32, 108, 111, 111, 112, 32, 59, 32, 58, 32, 115, 111, 109, 101, 32, 100, 111, 32, 105, 32, 46, 32, 105, 32, 111, 118, 101, 114, 32, 61, 32, 105, 102, 32, 108, 101, 97, 118, 101, 32, 116, 104, 101, 110, 32, 108, 111, 111, 112, 32, 100, 114, 111, 112, 32, 59, 32, 58, 32, 115, 117, 109, 32, 100, 117, 112, 32, 105, 102, 32, 100, 117, 112, 32, 49, 32, 45, 32, 114, 101, 99, 117, 114, 115, 101, 32, 43, 32, 116, 104, 101, 110, 32, 59]
def upBody : List Cell := [⟨4, 0, wDo⟩, ⟨4, 0, wI⟩, ⟨3, 0, [46]⟩, ⟨4, 0, wLoop⟩]
def someBody : List Cell := [⟨4, 0, wDo⟩, ⟨4, 0, wI⟩, ⟨3, 0, [46]⟩, ⟨4, 0, wI⟩, ⟨3, 0, [111, 118, 101, 114]⟩, ⟨3, 0, [61]⟩, ⟨4, 0, wIf⟩, ⟨4, 0, wLeave⟩, ⟨4, 0, wThen⟩, ⟨4, 0, wLoop⟩, ⟨3, 0, [100, 114, 111, 112]⟩]
def sumBody : List Cell := [⟨3, 0, [100, 117, 112]⟩, ⟨4, 0, wIf⟩, ⟨3, 0, [100, 117, 112]⟩, ⟨1, 1, []⟩, ⟨3, 0, [45]⟩, ⟨4, 0, wRecurse⟩, ⟨3, 0, [43]⟩, ⟨4, 0, wThen⟩]
def cntAll : List Ent := [⟨[117, 112], 1, 0, upBody, true, false⟩, ⟨[115, 111, 109, 101], 1, 0, someBody, true, false⟩, ⟨[115, 117, 109], 1, 0, sumBody, true, false⟩]
theorem cnt_line : doLine new cntTxt = (⟨cntAll, [], [], [], 3⟩, [], 0, 0) := by kernel_rfl
theorem cnt_names : ∀ e ∈ cntAll, L.number e.name = none := by decide +kernel

/-- What a loop from i on tells, n counts. -/
def counts : Nat → Int → Txt
  | 0, _ => []
  | n + 1, i => Lib.itoa i ++ [32] ++ counts n (i + 1)
/-- One that is left at c. -/
def countsTo (c : Int) : Nat → Int → Txt
  | 0, _ => []
  | n + 1, i => Lib.itoa i ++ [32] ++ if i = c then [] else countsTo c n (i + 1)

def modest (x : Int) : Prop := -99 ≤ x ∧ x ≤ 999
theorem modest_len : ∀ x : Int, modest x → (Lib.itoa x).length ≤ 3 := by
  intro x h
  have key : ∀ n : Nat, n < 1099 → (Lib.itoa ((n : Int) - 99)).length ≤ 3 := by decide +kernel
  have := key (x + 99).toNat (by have := h.1; have := h.2; omega)
  have e : (((x + 99).toNat : Nat) : Int) - 99 = x := by have := h.1; omega
  rwa [e] at this
theorem wrap_small {x : Int} (h : modest x) : wrap64 x = x := by
  unfold wrap64
  have := h.1
  have := h.2
  omega

theorem dot_ok {all : List Ent} {S R : List Int} {out : Txt} {st : Nat} (x : Int) (hx : modest x) (hS : S.length ≤ 16) (hR : R.length ≤ 16) (ho : out.length + 4 ≤ 300) : prim ⟨all, S ++ [x], R, out, st⟩ [46] = (⟨all, S, R, out ++ (Lib.itoa x ++ [32]), st⟩, 0, none) := by
  have hl := modest_len x hx
  exact prim_ok [46] [x] 1 0 0 0 rfl rfl (Nat.zero_le _) rfl hS hR (by show out.length + (Lib.itoa x ++ [32]).length ≤ 300; simp only [List.length_append, List.length_cons, List.length_nil]; omega)

theorem i_ok {all : List Ent} {S R : List Int} {out : Txt} {st p : Nat} {l : List Cell} {b i : Int} (hS : S.length < 16) : rounds ⟨all, S, R, out, st⟩ l p wI [(b, i)] = (⟨all, S ++ [i], R, out, st⟩, p + 1, [(b, i)], 0) := by
  show ((push _ _).1, p + 1, [(b, i)], (push _ _).2) = _
  rw [show ([(b, i)].getLast?.getD (0, 0)).2 = i from rfl, push_ok hS]

theorem up_loop (b : Int) (hb : modest b) : ∀ (n f st : Nat) (out : Txt) (i : Int), (i + n + 1 = b) → modest i → st + 3 * n + 3 ≤ 1000 → out.length + 4 * n + 4 ≤ 300 →
    body (f + 3 * n + 3) ⟨cntAll, [], [], out, st⟩ 0 upBody 1 1 [(b, i)] = body f ⟨cntAll, [], [], out ++ counts (n + 1) i, st + 3 * n + 3⟩ 0 upBody 1 4 [] := by
  intro n
  induction n with
  | zero =>
    intro f st out i hi hm h1 h2
    have hl := modest_len i hm
    rw [body_rounds (f := f + 2) (s := wI) rfl rfl rfl rfl (by omega) (i_ok (by simp))]
    rw [body_prim (f := f + 1) (s := [46]) rfl (by omega) (dot_ok (S := []) i hm (by simp) (by simp) (by omega))]
    have hw : wrap64 (i + 1) = i + 1 := by rw [show i + 1 = b by omega]; exact wrap_small hb
    have hr : rounds ⟨cntAll, [], [], out ++ (Lib.itoa i ++ [32]), st + 1 + 1 + 1⟩ upBody 3 wLoop [(b, i)] = (⟨cntAll, [], [], out ++ (Lib.itoa i ++ [32]), st + 1 + 1 + 1⟩, 4, [], 0) := by
      show (if wrap64 (i + 1) < b then _ else _) = _
      rw [hw, if_neg (by omega)]
      rfl
    rw [body_rounds (f := f) (s := wLoop) rfl rfl rfl rfl (by omega) hr]
    simp [counts]
  | succ n ih =>
    intro f st out i hi hm h1 h2
    have hl := modest_len i hm
    have hm2 : modest (i + 1) := ⟨by have := hm.1; omega, by have := hb.2; omega⟩
    rw [show f + 3 * (n + 1) + 3 = (f + 3 * n + 3) + 1 + 1 + 1 by omega]
    rw [body_rounds (s := wI) rfl rfl rfl rfl (by omega) (i_ok (by simp))]
    rw [body_prim (s := [46]) rfl (by omega) (dot_ok (S := []) i hm (by simp) (by simp) (by omega))]
    have hr : rounds ⟨cntAll, [], [], out ++ (Lib.itoa i ++ [32]), st + 1 + 1 + 1⟩ upBody 3 wLoop [(b, i)] = (⟨cntAll, [], [], out ++ (Lib.itoa i ++ [32]), st + 1 + 1 + 1⟩, 1, [(b, i + 1)], 0) := by
      show (if wrap64 (i + 1) < b then _ else _) = _
      rw [wrap_small hm2, if_pos (by omega)]
      show (_, _, [(b, wrap64 (i + 1))], _) = _
      rw [wrap_small hm2]
      rfl
    rw [body_rounds (s := wLoop) rfl rfl rfl rfl (by omega) hr]
    rw [ih f (st + 1 + 1 + 1) _ (i + 1) (by omega) hm2 (by omega) (by simp only [List.length_append, List.length_cons, List.length_nil]; omega)]
    simp only [counts, List.append_assoc]
    congr 2
    omega
end N
end Go.Proofs.YtgnlokmeohffaaaGreatDoor
/- Counted's lines to their ends. -/
namespace Go.Proofs.YtgnlokmeohffaaaGreatDoor
namespace N
open Go.RowKit

theorem some_head (f st : Nat) (out : Txt) (b c i : Int) (hm : modest i) (h1 : st + 5 ≤ 1000) (h2 : out.length + 4 ≤ 300) :
    body (f + 5) ⟨cntAll, [c], [], out, st⟩ 1 someBody 1 1 [(b, i)] = body f ⟨cntAll, [c, L.truth (i == c)], [], out ++ (Lib.itoa i ++ [32]), st + 5⟩ 1 someBody 1 6 [(b, i)] := by
  have hl := modest_len i hm
  rw [body_rounds (s := wI) rfl rfl rfl rfl (by omega) (i_ok (by simp))]
  rw [body_prim (s := [46]) rfl (by omega) (dot_ok (S := [c]) i hm (by simp) (by simp) (by omega))]
  rw [body_rounds (s := wI) rfl rfl rfl rfl (by omega) (i_ok (by simp))]
  have ho : (out ++ (Lib.itoa i ++ [32])).length ≤ 300 := by simp only [List.length_append, List.length_cons, List.length_nil]; omega
  generalize out ++ (Lib.itoa i ++ [32]) = o at *
  have hov : prim ⟨cntAll, [c] ++ [i], [], o, st + 1 + 1 + 1 + 1⟩ [111, 118, 101, 114] = (⟨cntAll, [c, i, c], [], o, st + 1 + 1 + 1 + 1⟩, 0, none) := by
    rw [show [c] ++ [i] = [] ++ [c, i] from rfl, prim_ok [111, 118, 101, 114] [c, i] 2 0 3 0 rfl rfl (Nat.zero_le _) rfl (by simp) (by simp) (by simpa [told] using ho)]
    simp [does, told]
  rw [body_prim (s := [111, 118, 101, 114]) rfl (by omega) hov]
  have heq : prim ⟨cntAll, [c, i, c], [], o, st + 1 + 1 + 1 + 1 + 1⟩ [61] = (⟨cntAll, [c, L.truth (i == c)], [], o, st + 1 + 1 + 1 + 1 + 1⟩, 0, none) := by
    rw [show [c, i, c] = [c] ++ [i, c] from rfl, prim_ok [61] [i, c] 2 0 1 0 rfl rfl (Nat.zero_le _) rfl (by simp) (by simp) (by simpa [told] using ho)]
    simp [does, told, reckoned]
  rw [body_prim (s := [61]) rfl (by omega) heq]

theorem some_if (f st : Nat) (out : Txt) (b c i : Int) (h1 : st + 1 ≤ 1000) :
    body (f + 1) ⟨cntAll, [c, L.truth (i == c)], [], out, st⟩ 1 someBody 1 6 [(b, i)] = if i = c then body f ⟨cntAll, [c], [], out, st + 1⟩ 1 someBody 1 7 [(b, i)] else body f ⟨cntAll, [c], [], out, st + 1⟩ 1 someBody 1 9 [(b, i)] := by
  by_cases h : i = c
  · rw [if_pos h]
    refine body_ways (s := wIf) rfl rfl rfl rfl (by omega) ?_
    rw [h, show L.truth (c == c) = -1 by simp [L.truth]]
    rfl
  · rw [if_neg h]
    refine body_ways (s := wIf) rfl rfl rfl rfl (by omega) ?_
    rw [show L.truth (i == c) = 0 by simp [L.truth, h]]
    rfl

theorem some_loop (b c : Int) (hb : modest b) : ∀ (n f st : Nat) (out : Txt) (i : Int), (i + n + 1 = b) → modest i → st + 7 * n + 10 ≤ 1000 → out.length + 4 * n + 4 ≤ 300 →
    ∃ st' g, f ≤ g ∧ st' ≤ st + 7 * n + 10 ∧ body (f + 7 * n + 10) ⟨cntAll, [c], [], out, st⟩ 1 someBody 1 1 [(b, i)] = body g ⟨cntAll, [c], [], out ++ countsTo c (n + 1) i, st'⟩ 1 someBody 1 10 [] := by
  intro n
  induction n with
  | zero =>
    intro f st out i hi hm h1 h2
    rw [show f + 7 * 0 + 10 = (f + 4) + 1 + 5 by omega, some_head _ _ _ _ _ _ hm (by omega) (by omega), some_if _ _ _ _ _ _ (by omega)]
    by_cases h : i = c
    · rw [if_pos h]
      refine ⟨st + 5 + 1 + 1, f + 3, by omega, by omega, ?_⟩
      refine (body_rounds (s := wLeave) (q := 10) (r' := []) rfl rfl rfl rfl (by omega) rfl).trans ?_
      rw [countsTo, if_pos h]
      simp
    · rw [if_neg h]
      refine ⟨st + 5 + 1 + 1, f + 3, by omega, by omega, ?_⟩
      have hw : wrap64 (i + 1) = i + 1 := by rw [show i + 1 = b by omega]; exact wrap_small hb
      refine (body_rounds (m' := ⟨cntAll, [c], [], out ++ (Lib.itoa i ++ [32]), st + 5 + 1 + 1⟩) (s := wLoop) (q := 10) (r' := []) rfl rfl rfl rfl (by omega) ?_).trans ?_
      · show (if wrap64 (i + 1) < b then _ else _) = _
        rw [hw, if_neg (by omega)]
        rfl
      · rw [countsTo, if_neg h]
        simp [countsTo]
  | succ n ih =>
    intro f st out i hi hm h1 h2
    have hl := modest_len i hm
    have hm2 : modest (i + 1) := ⟨by have := hm.1; omega, by have := hb.2; omega⟩
    rw [show f + 7 * (n + 1) + 10 = (f + 7 * n + 10) + 1 + 1 + 5 by omega, some_head _ _ _ _ _ _ hm (by omega) (by omega), some_if _ _ _ _ _ _ (by omega)]
    by_cases h : i = c
    · rw [if_pos h]
      refine ⟨st + 5 + 1 + 1, f + 7 * n + 10, by omega, by omega, ?_⟩
      refine (body_rounds (s := wLeave) (q := 10) (r' := []) rfl rfl rfl rfl (by omega) rfl).trans ?_
      rw [countsTo, if_pos h]
      simp
    · rw [if_neg h]
      have hr : rounds ⟨cntAll, [c], [], out ++ (Lib.itoa i ++ [32]), st + 5 + 1 + 1⟩ someBody 9 wLoop [(b, i)] = (⟨cntAll, [c], [], out ++ (Lib.itoa i ++ [32]), st + 5 + 1 + 1⟩, 1, [(b, i + 1)], 0) := by
        show (if wrap64 (i + 1) < b then _ else _) = _
        rw [wrap_small hm2, if_pos (by omega)]
        show (_, _, [(b, wrap64 (i + 1))], _) = _
        rw [wrap_small hm2]
        rfl
      rw [body_rounds (s := wLoop) rfl rfl rfl rfl (by omega) hr]
      obtain ⟨st', g, hg, hst, he⟩ := ih f (st + 5 + 1 + 1) (out ++ (Lib.itoa i ++ [32])) (i + 1) (by omega) hm2 (by omega) (by simp only [List.length_append, List.length_cons, List.length_nil]; omega)
      refine ⟨st', g, hg, by omega, he.trans ?_⟩
      rw [show countsTo c (n + 1 + 1) i = Lib.itoa i ++ [32] ++ (if i = c then [] else countsTo c (n + 1) (i + 1)) from rfl, if_neg h]
      simp only [List.append_assoc]

theorem runs_cell {f p st : Nat} {all : List Ent} {S R : List Int} {out : Txt} {ws : List Txt} {s : Txt} {c : Cell} {m' : Mach} (hs : ws[p]? = some s) (ht : st < 1000) (hb : L.isBold s = false) (hm : meaning ⟨all, S, R, out, st + 1⟩ s = some c) (hd : cellDoes fuel ⟨all, S, R, out, st + 1⟩ 0 c = (m', 0)) :
    runs (f + 1) ⟨all, S, R, out, st⟩ ws p = runs f m' ws (p + 1) := runs_go hs ht (one_cell hb hm hd)
theorem owns_defn {F j d : Nat} {m : Mach} {e : Ent} (he : m.all[j]? = some e) (hk : e.kind = 1) (hd : d < 12) : owns F m j d = body F m j e.body (d + 1) 0 [] := by
  unfold owns
  rw [he]
  simp only [hk]
  rw [if_neg (by omega), if_neg (by omega), if_neg (by omega), if_neg (by omega)]

theorem cell_own {F d j : Nat} {m : Mach} {n : Int} {nm : Txt} (h : n.toNat = j) : cellDoes F m d ⟨2, n, nm⟩ = owns F m j d := by
  subst h
  rfl
theorem cell_defn {F d j : Nat} {m : Mach} {n : Int} {nm : Txt} {e : Ent} {x : Mach × Int} (h : n.toNat = j) (he : m.all[j]? = some e) (hk : e.kind = 1) (hd : d < 12) (hb : body F m j e.body (d + 1) 0 [] = x) : cellDoes F m d ⟨2, n, nm⟩ = x :=
  (cell_own h).trans ((owns_defn he hk hd).trans hb)

theorem counts_len : ∀ (n : Nat) (i : Int), modest i → modest (i + n) → (counts n i).length ≤ 4 * n
  | 0, _, _, _ => Nat.zero_le _
  | n + 1, i, h, h2 => by
    have hl := modest_len i h
    have h3 : modest (i + 1) := ⟨by have := h.1; omega, by have := h2.2; omega⟩
    have := counts_len n (i + 1) h3 (by rw [show i + 1 + (n : Int) = i + ((n + 1 : Nat) : Int) by omega]; exact h2)
    simp only [counts, List.length_append, List.length_cons, List.length_nil]
    omega

/-- 'b a up' -/
def upTxt (a b : Int) : Txt := Lib.itoa b ++ 32 :: (Lib.itoa a ++ [32, 117, 112])
theorem up_split (a b : Int) : L.split (upTxt a b) = [Lib.itoa b, Lib.itoa a, [117, 112]] := by
  unfold upTxt
  rw [split_blank 32 (by decide), split_itoa, show Lib.itoa a ++ [32, 117, 112] = Lib.itoa a ++ 32 :: [117, 112] from rfl, split_blank 32 (by decide), split_itoa]
  rfl
theorem up_line (a b : Int) (o : Txt) (t : Nat) (ha : modest a) (hb : modest b) (n : Nat) (hn : a + n = b) (hn2 : n ≤ 20) : ∃ st, doLine ⟨cntAll, [], [], o, t⟩ (upTxt a b) = (⟨cntAll, [], [], counts n a, st⟩, counts n a, 0, 0) := by
  have hal := modest_len a ha
  have hbl := modest_len b hb
  have hlen : (upTxt a b).length ≤ 500 := by unfold upTxt; simp only [List.length_append, List.length_cons, List.length_nil]; omega
  obtain ⟨a1, a2⟩ := ha
  obtain ⟨b1, b2⟩ := hb
  have key : ∃ st, runs 4 ⟨cntAll, [], [], [], 0⟩ [Lib.itoa b, Lib.itoa a, [117, 112]] 0 = (⟨cntAll, [], [], counts n a, st⟩, 0, 0) := by
    rw [runs_number (f := 3) (by omega) (by omega) rfl (by omega) (by simp) cnt_names, runs_number (f := 2) (by omega) (by omega) rfl (by omega) (by simp) cnt_names]
    have hmean : meaning ⟨cntAll, [] ++ [b] ++ [a], [], [], 0 + 1 + 1 + 1⟩ [117, 112] = some ⟨2, 0, []⟩ := by kernel_rfl
    have h1 : ∀ F, 200 ≤ F → ∃ st, body F ⟨cntAll, [b, a], [], [], 3⟩ 0 upBody 1 0 [] = (⟨cntAll, [], [], counts n a, st⟩, 0) := by
      intro F hF
      cases n with
      | zero =>
        refine ⟨4, ?_⟩
        rw [show F = F - 2 + 1 + 1 by omega]
        refine (body_rounds (m' := ⟨cntAll, [], [], [], 4⟩) (s := wDo) (q := 4) (r' := []) rfl rfl rfl rfl (by omega) ?_).trans (body_end rfl)
        show (if b ≤ a then _ else _) = _
        rw [if_pos (by omega)]
        rfl
      | succ n =>
        refine ⟨4 + 3 * n + 3, ?_⟩
        rw [show F = ((F - 4 - 3 * n - 1) + 1 + 3 * n + 3) + 1 by omega]
        refine (body_rounds (m' := ⟨cntAll, [], [], [], 4⟩) (s := wDo) (q := 1) (r' := [(b, a)]) rfl rfl rfl rfl (by omega) ?_).trans ?_
        · show (if b ≤ a then _ else _) = _
          rw [if_neg (by omega)]
          rfl
        · rw [up_loop b ⟨b1, b2⟩ n _ 4 [] a (by omega) ⟨a1, a2⟩ (by omega) (by simp; omega)]
          exact body_end rfl
    obtain ⟨st, h1⟩ := h1 fuel (by decide)
    refine ⟨st, ?_⟩
    have hd : cellDoes fuel ⟨cntAll, [] ++ [b] ++ [a], [], [], 2 + 1⟩ 0 ⟨2, 0, []⟩ = (⟨cntAll, [], [], counts n a, st⟩, 0) := cell_defn (j := 0) rfl rfl rfl (by omega) h1
    exact (runs_cell (f := 1) (s := [117, 112]) rfl (by omega) rfl hmean hd).trans (runs_end (f := 0) rfl)
  obtain ⟨st, hk⟩ := key
  refine ⟨st, ?_⟩
  rw [doLine_eq _ _ _ hlen (up_split a b)]
  show ((runs 4 ⟨cntAll, [], [], [], 0⟩ _ 0).1, (runs 4 ⟨cntAll, [], [], [], 0⟩ _ 0).1.out, (runs 4 ⟨cntAll, [], [], [], 0⟩ _ 0).2) = _
  rw [hk]

/-- 'c b a some' -/
def someTxt (a b c : Int) : Txt := Lib.itoa c ++ 32 :: (Lib.itoa b ++ 32 :: (Lib.itoa a ++ [32, 115, 111, 109, 101]))
theorem some_split (a b c : Int) : L.split (someTxt a b c) = [Lib.itoa c, Lib.itoa b, Lib.itoa a, [115, 111, 109, 101]] := by
  unfold someTxt
  rw [split_blank 32 (by decide), split_itoa, split_blank 32 (by decide), split_itoa, show Lib.itoa a ++ [32, 115, 111, 109, 101] = Lib.itoa a ++ 32 :: [115, 111, 109, 101] from rfl, split_blank 32 (by decide), split_itoa]
  rfl
theorem some_line (a b c : Int) (o : Txt) (t : Nat) (ha : modest a) (hb : modest b) (hc : modest c) (n : Nat) (hn : a + n = b) (hn2 : n ≤ 20) : ∃ st, doLine ⟨cntAll, [], [], o, t⟩ (someTxt a b c) = (⟨cntAll, [], [], countsTo c n a, st⟩, countsTo c n a, 0, 0) := by
  have hal := modest_len a ha
  have hbl := modest_len b hb
  have hcl := modest_len c hc
  have hlen : (someTxt a b c).length ≤ 500 := by unfold someTxt; simp only [List.length_append, List.length_cons, List.length_nil]; omega
  obtain ⟨a1, a2⟩ := ha
  obtain ⟨b1, b2⟩ := hb
  obtain ⟨c1, c2⟩ := hc
  have hclen : ∀ (n : Nat) (i : Int), modest i → i + n ≤ 999 → (countsTo c n i).length ≤ 4 * n := by
    intro n
    induction n with
    | zero => intro i _ _; exact Nat.zero_le _
    | succ n ih =>
      intro i h h2
      have hl := modest_len i h
      rw [countsTo]
      split
      · simp only [List.length_append, List.length_cons, List.length_nil]; omega
      · have := ih (i + 1) ⟨by have := h.1; omega, by omega⟩ (by omega)
        simp only [List.length_append, List.length_cons, List.length_nil]; omega
  have hdrop : ∀ (g st : Nat) (o : Txt), st < 1000 → o.length ≤ 300 → body (g + 2) ⟨cntAll, [c], [], o, st⟩ 1 someBody 1 10 [] = (⟨cntAll, [], [], o, st + 1⟩, 0) := by
    intro g st o h ho
    have hd : prim ⟨cntAll, [c], [], o, st + 1⟩ [100, 114, 111, 112] = (⟨cntAll, [], [], o, st + 1⟩, 0, none) := by
      rw [show [c] = [] ++ [c] from rfl, prim_ok [100, 114, 111, 112] [c] 1 0 0 0 rfl rfl (Nat.zero_le _) rfl (by simp) (by simp) (by simpa [told] using ho)]
      simp [does, told]
    rw [body_prim (f := g + 1) (s := [100, 114, 111, 112]) rfl h hd]
    exact body_end rfl
  have key : ∃ st, runs 5 ⟨cntAll, [], [], [], 0⟩ [Lib.itoa c, Lib.itoa b, Lib.itoa a, [115, 111, 109, 101]] 0 = (⟨cntAll, [], [], countsTo c n a, st⟩, 0, 0) := by
    rw [runs_number (f := 4) (by omega) (by omega) rfl (by omega) (by simp) cnt_names, runs_number (f := 3) (by omega) (by omega) rfl (by omega) (by simp) cnt_names, runs_number (f := 2) (by omega) (by omega) rfl (by omega) (by simp) cnt_names]
    have hmean : meaning ⟨cntAll, [] ++ [c] ++ [b] ++ [a], [], [], 0 + 1 + 1 + 1 + 1⟩ [115, 111, 109, 101] = some ⟨2, 1, []⟩ := by kernel_rfl
    have h1 : ∀ F, 400 ≤ F → ∃ st, body F ⟨cntAll, [c, b, a], [], [], 4⟩ 1 someBody 1 0 [] = (⟨cntAll, [], [], countsTo c n a, st⟩, 0) := by
      intro F hF
      cases n with
      | zero =>
        refine ⟨6, ?_⟩
        rw [show F = F - 3 + 2 + 1 by omega]
        refine (body_rounds (m' := ⟨cntAll, [c], [], [], 5⟩) (s := wDo) (q := 10) (r' := []) rfl rfl rfl rfl (by omega) ?_).trans (hdrop _ 5 [] (by omega) (by simp))
        show (if b ≤ a then _ else _) = _
        rw [if_pos (by omega)]
        rfl
      | succ n =>
        obtain ⟨st', g, hg, hst, he⟩ := some_loop b c ⟨b1, b2⟩ n (F - 11 - 7 * n) 5 [] a (by omega) ⟨a1, a2⟩ (by omega) (by simp; omega)
        refine ⟨st' + 1, ?_⟩
        rw [show F = (F - 11 - 7 * n + 7 * n + 10) + 1 by omega]
        refine (body_rounds (m' := ⟨cntAll, [c], [], [], 5⟩) (s := wDo) (q := 1) (r' := [(b, a)]) rfl rfl rfl rfl (by omega) ?_).trans (he.trans ?_)
        · show (if b ≤ a then _ else _) = _
          rw [if_neg (by omega)]
          rfl
        · have := hclen (n + 1) a ⟨a1, a2⟩ (by omega)
          rw [show g = (g - 2) + 2 by omega]
          exact hdrop (g - 2) st' _ (by omega) (by simp only [List.nil_append]; omega)
    obtain ⟨st, h1⟩ := h1 fuel (by decide)
    refine ⟨st, ?_⟩
    have hd : cellDoes fuel ⟨cntAll, [] ++ [c] ++ [b] ++ [a], [], [], 3 + 1⟩ 0 ⟨2, 1, []⟩ = (⟨cntAll, [], [], countsTo c n a, st⟩, 0) := cell_defn (j := 1) rfl rfl rfl (by omega) h1
    exact (runs_cell (f := 1) (s := [115, 111, 109, 101]) rfl (by omega) rfl hmean hd).trans (runs_end (f := 0) rfl)
  obtain ⟨st, hk⟩ := key
  refine ⟨st, ?_⟩
  rw [doLine_eq _ _ _ hlen (some_split a b c)]
  show ((runs 5 ⟨cntAll, [], [], [], 0⟩ _ 0).1, (runs 5 ⟨cntAll, [], [], [], 0⟩ _ 0).1.out, (runs 5 ⟨cntAll, [], [], [], 0⟩ _ 0).2) = _
  rw [hk]

/-- 'n sum .' -/
def sumTxt (n : Nat) : Txt := Lib.itoa n ++ [32, 115, 117, 109, 32, 46]
def sumTo : Nat → Nat
  | 0 => 0
  | n + 1 => sumTo n + (n + 1)
theorem sum_line (n : Nat) (o : Txt) (t : Nat) (hn : n < 10) : ∃ st, doLine ⟨cntAll, [], [], o, t⟩ (sumTxt n) = (⟨cntAll, [], [], Lib.itoa (sumTo n) ++ [32], st⟩, Lib.itoa (sumTo n) ++ [32], 0, 0) := by
  have h : n = 0 ∨ n = 1 ∨ n = 2 ∨ n = 3 ∨ n = 4 ∨ n = 5 ∨ n = 6 ∨ n = 7 ∨ n = 8 ∨ n = 9 := by omega
  rcases h with rfl | rfl | rfl | rfl | rfl | rfl | rfl | rfl | rfl | rfl
  · exact ⟨5, by kernel_rfl⟩
  · exact ⟨13, by kernel_rfl⟩
  · exact ⟨21, by kernel_rfl⟩
  · exact ⟨29, by kernel_rfl⟩
  · exact ⟨37, by kernel_rfl⟩
  · exact ⟨45, by kernel_rfl⟩
  · exact ⟨53, by kernel_rfl⟩
  · exact ⟨61, by kernel_rfl⟩
  · exact ⟨69, by kernel_rfl⟩
  · exact ⟨77, by kernel_rfl⟩
end N
end Go.Proofs.YtgnlokmeohffaaaGreatDoor
/- Lines that the statements make, in plain terms: the machine with a, b, v, k. -/
namespace Go.Proofs.YtgnlokmeohffaaaGreatDoor
namespace N
open Go.RowKit

/-- ': a 97 emit ; : b a 98 emit ; variable v 40 constant k 3 v !' -/
def laidTxt : Txt := [58, 32, 97, 32, 57, 55, 32, 101, 109, 105, 116, 32, 59, 32, 58, 32, 98, 32, 97, 32, 57, 56, 32, 101, 109, 105, 116, 32, 59, 32, 118, 97, 114, 105, 97, 98, 108, 101, 32, 118, 32, 52, 48, 32, 99, 111, 110, 115, 116, 97, 110, 116, 32, 107, 32, 51, 32, 118, 32, 33]
def wEmit : Txt := [101, 109, 105, 116]
def entA : Ent := ⟨[97], 1, 0, [⟨1, 97, []⟩, ⟨3, 0, wEmit⟩], true, false⟩
def entB : Ent := ⟨[98], 1, 0, [⟨2, 0, []⟩, ⟨1, 98, []⟩, ⟨3, 0, wEmit⟩], true, false⟩
def entV (n : Int) : Ent := ⟨[118], 2, n, [], true, false⟩
def entK : Ent := ⟨[107], 3, 40, [], true, false⟩
def laidAll (n : Int) : List Ent := [entA, entB, entV n, entK]
theorem laid_line : doLine new laidTxt = (⟨laidAll 3, [], [], [], 8⟩, [], 0, 0) := by kernel_rfl
end N
end Go.Proofs.YtgnlokmeohffaaaGreatDoor
/- Words one behind the other: what a, b and the like do, whatever stands beside them. -/
namespace Go.Proofs.YtgnlokmeohffaaaGreatDoor
namespace N
open Go.RowKit

theorem drop_get {α : Type} {l : List α} {p : Nat} {s : α} {t : List α} (h : l.drop p = s :: t) : l[p]? = some s := by
  rw [← List.head?_drop, h]
  rfl
theorem drop_next {α : Type} {l : List α} {p : Nat} {s : α} {t : List α} (h : l.drop p = s :: t) : l.drop (p + 1) = t := by
  rw [← List.tail_drop, h]
  rfl

section
variable {F f p st d k : Nat} {all : List Ent} {S R : List Int} {out : Txt} {l : List Cell} {r : List (Int × Int)} {ws : List Txt} {x y : Int}

theorem emit_ok (h1 : 32 ≤ x) (h2 : x ≤ 126) (hS : S.length ≤ 16) (hR : R.length ≤ 16) (ho : out.length + 1 ≤ 300) : prim ⟨all, S ++ [x], R, out, st⟩ wEmit = (⟨all, S, R, out ++ [UInt8.ofNat x.toNat], st⟩, 0, none) := by
  refine prim_ok wEmit [x] 1 0 0 0 rfl rfl (Nat.zero_le _) ?_ hS hR ho
  show (if x < 32 ∨ 126 < x then (11 : Int) else 0) = 0
  rw [if_neg (by omega)]
theorem tell_ok (hx : (Lib.itoa x).length ≤ 20) (hS : S.length ≤ 16) (hR : R.length ≤ 16) (ho : out.length + 21 ≤ 300) : prim ⟨all, S ++ [x], R, out, st⟩ [46] = (⟨all, S, R, out ++ (Lib.itoa x ++ [32]), st⟩, 0, none) :=
  prim_ok [46] [x] 1 0 0 0 rfl rfl (Nat.zero_le _) rfl hS hR (by show out.length + (Lib.itoa x ++ [32]).length ≤ 300; simp only [List.length_append, List.length_cons, List.length_nil]; omega)
theorem cr_ok (hS : S.length ≤ 16) (hR : R.length ≤ 16) (ho : out.length + 1 ≤ 300) : prim ⟨all, S, R, out, st⟩ [99, 114] = (⟨all, S, R, out ++ [10], st⟩, 0, none) := by
  have := prim_ok (all := all) (S := S) (R := R) (out := out) (st := st) [99, 114] [] 0 0 0 0 rfl rfl (Nat.zero_le _) rfl hS hR ho
  rwa [List.append_nil] at this
theorem two_ok (s : Txt) (v : Int) (ht : takes s = (2, 0, 1, 0)) (hw : wrong ⟨all, S ++ [x, y], R, out, st⟩ s [x, y] = 0) (hto : told s x = []) (he : (s == [101, 120, 101, 99, 117, 116, 101]) = false) (hd : does ⟨all, S ++ [x, y], R, out, st⟩ s [x, y] S = ⟨all, S ++ [v], R, out, st⟩) (hS : S.length + 1 ≤ 16) (hR : R.length ≤ 16) (ho : out.length ≤ 300) :
    prim ⟨all, S ++ [x, y], R, out, st⟩ s = (⟨all, S ++ [v], R, out, st⟩, 0, none) := by
  rw [prim_ok s [x, y] 2 0 1 0 ht rfl (Nat.zero_le _) hw hS hR (by show out.length + (told s x).length ≤ 300; rw [hto]; simpa using ho), he]
  show (does ⟨all, S ++ [x, y], R, out ++ told s x, st⟩ s [x, y] S, (0 : Int), _) = _
  rw [hto, List.append_nil, hd]
  rfl
theorem plus_ok (hS : S.length + 1 ≤ 16) (hR : R.length ≤ 16) (ho : out.length ≤ 300) : prim ⟨all, S ++ [x, y], R, out, st⟩ [43] = (⟨all, S ++ [wrap64 (x + y)], R, out, st⟩, 0, none) := two_ok [43] _ rfl rfl rfl rfl rfl hS hR ho
theorem minus_ok (hS : S.length + 1 ≤ 16) (hR : R.length ≤ 16) (ho : out.length ≤ 300) : prim ⟨all, S ++ [x, y], R, out, st⟩ [45] = (⟨all, S ++ [wrap64 (x - y)], R, out, st⟩, 0, none) := two_ok [45] _ rfl rfl rfl rfl rfl hS hR ho
theorem dup_ok (hS : S.length + 2 ≤ 16) (hR : R.length ≤ 16) (ho : out.length ≤ 300) : prim ⟨all, S ++ [x], R, out, st⟩ [100, 117, 112] = (⟨all, S ++ [x, x], R, out, st⟩, 0, none) := by
  rw [prim_ok [100, 117, 112] [x] 1 0 2 0 rfl rfl (Nat.zero_le _) rfl hS hR ho]
  show (does ⟨all, S ++ [x], R, out ++ [], st⟩ [100, 117, 112] [x] S, (0 : Int), none) = _
  rw [List.append_nil]
  rfl
theorem drop_ok (hS : S.length ≤ 16) (hR : R.length ≤ 16) (ho : out.length ≤ 300) : prim ⟨all, S ++ [x], R, out, st⟩ [100, 114, 111, 112] = (⟨all, S, R, out, st⟩, 0, none) := by
  rw [prim_ok [100, 114, 111, 112] [x] 1 0 0 0 rfl rfl (Nat.zero_le _) rfl hS hR ho]
  show (does ⟨all, S ++ [x], R, out ++ [], st⟩ [100, 114, 111, 112] [x] S, (0 : Int), none) = _
  rw [List.append_nil]
  rfl
theorem not_ok (hS : S.length + 1 ≤ 16) (hR : R.length ≤ 16) (ho : out.length ≤ 300) : prim ⟨all, S ++ [x], R, out, st⟩ [110, 111, 116] = (⟨all, S ++ [L.truth (x == 0)], R, out, st⟩, 0, none) := by
  rw [prim_ok [110, 111, 116] [x] 1 0 1 0 rfl rfl (Nat.zero_le _) rfl hS hR ho]
  show (does ⟨all, S ++ [x], R, out ++ [], st⟩ [110, 111, 116] [x] S, (0 : Int), none) = _
  rw [List.append_nil]
  rfl
theorem depth_ok (hS : S.length + 1 ≤ 16) (hR : R.length ≤ 16) (ho : out.length ≤ 300) : prim ⟨all, S, R, out, st⟩ [100, 101, 112, 116, 104] = (⟨all, S ++ [(S.length : Int)], R, out, st⟩, 0, none) := by
  have := prim_ok (all := all) (S := S) (R := R) (out := out) (st := st) [100, 101, 112, 116, 104] [] 0 0 1 0 rfl rfl (Nat.zero_le _) rfl hS hR ho
  rw [List.append_nil] at this
  rw [this]
  show (does ⟨all, S, R, out ++ [], st⟩ [100, 101, 112, 116, 104] [] S, (0 : Int), none) = _
  rw [List.append_nil]
  rfl
theorem place_v {n : Int} (h2 : all[2]? = some (entV n)) : place ⟨all, S, R, out, st⟩ 1002 = some 2 := by
  unfold place
  rw [if_neg (by omega)]
  show (match all[2]? with | some e => if there e = true then some 2 else none | none => none) = some 2
  rw [h2]
  rfl
theorem fetch_ok {n : Int} (h2 : all[2]? = some (entV n)) (hS : S.length + 1 ≤ 16) (hR : R.length ≤ 16) (ho : out.length ≤ 300) : prim ⟨all, S ++ [1002], R, out, st⟩ [64] = (⟨all, S ++ [n], R, out, st⟩, 0, none) := by
  rw [prim_ok [64] [1002] 1 0 1 0 rfl rfl (Nat.zero_le _) ?_ hS hR ho]
  · show (does ⟨all, S ++ [1002], R, out ++ [], st⟩ [64] [1002] S, (0 : Int), none) = _
    rw [List.append_nil]
    show ((⟨all, S ++ [(all[2]?.map (·.n)).getD 0], R, out, st⟩ : Mach), (0 : Int), none) = _
    rw [h2]
    rfl
  · show (match place ⟨all, S ++ [1002], R, out, st⟩ 1002 with | some k => (match all[k]? with | some e => if e.kind = 2 then (0 : Int) else 9 | none => 9) | none => 9) = 0
    rw [place_v h2]
    simp only [h2]
    rfl
theorem store_ok {n : Int} (h2 : all[2]? = some (entV n)) (hS : S.length ≤ 16) (hR : R.length ≤ 16) (ho : out.length ≤ 300) : prim ⟨all, S ++ [x, 1002], R, out, st⟩ [33] = (⟨all.modify 2 fun e => { e with n := x }, S, R, out, st⟩, 0, none) := by
  rw [prim_ok [33] [x, 1002] 2 0 0 0 rfl rfl (Nat.zero_le _) ?_ hS hR ho]
  · show (does ⟨all, S ++ [x, 1002], R, out ++ [], st⟩ [33] [x, 1002] S, (0 : Int), none) = _
    rw [List.append_nil]
    rfl
  · show (match place ⟨all, S ++ [x, 1002], R, out, st⟩ 1002 with | some k => (match all[k]? with | some e => if e.kind = 2 then (0 : Int) else 9 | none => 9) | none => 9) = 0
    rw [place_v h2]
    simp only [h2]
    rfl

/-- a, done. -/
theorem a_body (hF : 3 ≤ F) (hs : st + 2 ≤ 1000) (hS : S.length < 16) (hR : R.length ≤ 16) (ho : out.length + 1 ≤ 300) : body F ⟨all, S, R, out, st⟩ 0 entA.body d 0 [] = (⟨all, S, R, out ++ [97], st + 2⟩, 0) := by
  rw [show F = F - 3 + 1 + 1 + 1 by omega, body_number rfl (by omega) hS, body_prim rfl (by omega) (emit_ok (by omega) (by omega) (by omega) hR ho)]
  exact body_end rfl
theorem a_owns (h0 : all[0]? = some entA) (hF : 3 ≤ F) (hd : d < 12) (hs : st + 2 ≤ 1000) (hS : S.length < 16) (hR : R.length ≤ 16) (ho : out.length + 1 ≤ 300) : owns F ⟨all, S, R, out, st⟩ 0 d = (⟨all, S, R, out ++ [97], st + 2⟩, 0) :=
  (owns_defn (m := ⟨all, S, R, out, st⟩) h0 rfl hd).trans (a_body hF hs hS hR ho)
theorem b_body (h0 : all[0]? = some entA) (hF : 7 ≤ F) (hd : d < 12) (hs : st + 5 ≤ 1000) (hS : S.length < 16) (hR : R.length ≤ 16) (ho : out.length + 2 ≤ 300) : body F ⟨all, S, R, out, st⟩ 1 entB.body d 0 [] = (⟨all, S, R, out ++ [97, 98], st + 5⟩, 0) := by
  have ha := a_owns (F := F - 1) (d := d) (st := st + 1) (S := S) (R := R) (out := out) h0 (by omega) hd (by omega) hS hR (by omega)
  rw [show F = F - 1 - 3 + 1 + 1 + 1 + 1 by omega]
  rw [show F - 1 = F - 1 - 3 + 1 + 1 + 1 by omega] at ha
  have hl : (out ++ [97]).length + 1 ≤ 300 := by simp only [List.length_append, List.length_cons, List.length_nil]; omega
  rw [body_own rfl (by omega) ha, body_number rfl (by omega) hS, body_prim rfl (by omega) (emit_ok (by omega) (by omega) (by omega) hR hl), body_end rfl]
  simp only [List.append_assoc, Prod.mk.injEq, and_true]
  rfl
theorem b_owns (h0 : all[0]? = some entA) (h1 : all[1]? = some entB) (hF : 7 ≤ F) (hd : d < 11) (hs : st + 5 ≤ 1000) (hS : S.length < 16) (hR : R.length ≤ 16) (ho : out.length + 2 ≤ 300) : owns F ⟨all, S, R, out, st⟩ 1 d = (⟨all, S, R, out ++ [97, 98], st + 5⟩, 0) :=
  (owns_defn (m := ⟨all, S, R, out, st⟩) h1 rfl (by omega)).trans (b_body h0 hF (by omega) hs hS hR ho)
theorem v_owns {n : Int} (h2 : all[2]? = some (entV n)) (hS : S.length < 16) : owns F ⟨all, S, R, out, st⟩ 2 d = (⟨all, S ++ [1002], R, out, st⟩, 0) := by
  unfold owns
  simp only [h2]
  exact push_ok hS
theorem k_owns (h3 : all[3]? = some entK) (hS : S.length < 16) : owns F ⟨all, S, R, out, st⟩ 3 d = (⟨all, S ++ [40], R, out, st⟩, 0) := by
  unfold owns
  simp only [h3]
  exact push_ok hS

/-- A word of a line that is not bold. -/
theorem runs_word {s : Txt} {t : List Txt} {c : Cell} {m' : Mach} (hd : ws.drop p = s :: t) (ht : st < 1000) (hb : L.isBold s = false) (hm : meaning ⟨all, S, R, out, st + 1⟩ s = some c) (hc : cellDoes fuel ⟨all, S, R, out, st + 1⟩ 0 c = (m', 0)) :
    runs (f + 1) ⟨all, S, R, out, st⟩ ws p = runs f m' ws (p + 1) := runs_cell (drop_get hd) ht hb hm hc
theorem cell_prim {F d : Nat} {m m' : Mach} {n : Int} {s : Txt} {e : Int} (h : prim m s = (m', e, none)) : cellDoes F m d ⟨3, n, s⟩ = (m', e) := by
  show (match (prim m s).2.2 with | some j => owns F (prim m s).1 j d | none => ((prim m s).1, (prim m s).2.1)) = _
  rw [h]
theorem cell_number (hS : S.length < 16) : cellDoes F ⟨all, S, R, out, st⟩ d ⟨1, x, []⟩ = (⟨all, S ++ [x], R, out, st⟩, 0) := push_ok hS
end
end N
end Go.Proofs.YtgnlokmeohffaaaGreatDoor
