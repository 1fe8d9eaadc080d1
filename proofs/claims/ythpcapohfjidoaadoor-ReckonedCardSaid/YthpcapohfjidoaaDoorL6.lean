/- Numbers as they are told are numbers as they are written; and they are no other words. Of no program. -/
import Derived.Test.YthpcapohfjidoaaDoorL0
import Derived.Test.YthpcapohfjidoaaDoorL1
import Derived.Test.YthpcapohfjidoaaDoorL2
import Derived.Test.YthpcapohfjidoaaDoorL3
import Derived.Test.YthpcapohfjidoaaDoorK0
namespace Go.Proofs.YthpcapohfjidoaaDoor
namespace L

theorem ofNat_toNat (d : Nat) (h : d < 10) : (UInt8.ofNat (48 + d)).toNat = 48 + d := by
  rw [UInt8.toNat_ofNat']
  omega

theorem dec_facts (n : Nat) : (Lib.decDigits n).all isDigit = true ∧ digVal (Lib.decDigits n) = n ∧ Lib.decDigits n ≠ [] := by
  induction n using Nat.strongRecOn with
  | _ n ih =>
    by_cases h : n / 10 = 0
    · rw [dec_small h]
      have hd := ofNat_toNat (n % 10) (by omega)
      refine ⟨?_, ?_, by simp⟩
      · simp only [List.all_cons, List.all_nil, Bool.and_true, isDigit, hd, Bool.and_eq_true, decide_eq_true_eq]
        omega
      · simp only [digVal, List.foldl_cons, List.foldl_nil, hd]
        omega
    · rw [dec_big h]
      obtain ⟨h1, h2, _⟩ := ih (n / 10) (by omega)
      have hd := ofNat_toNat (n % 10) (by omega)
      refine ⟨?_, ?_, by simp⟩
      · simp only [List.all_append, h1, List.all_cons, List.all_nil, Bool.and_true, Bool.true_and, isDigit, hd, Bool.and_eq_true, decide_eq_true_eq]
        omega
      · rw [digVal_snoc, h2, hd]
        omega

theorem dec_short (n : Nat) (h : n < 1000000000000000000) : (Lib.decDigits n).length ≤ 18 := by
  rw [Lib.decDigits_length]
  exact nDigits_le 17 n (by simp only [Nat.reducePow, Nat.reduceAdd]; omega)

theorem number_itoa (x : Int) (h0 : -1000000000000000000 < x) (h1 : x < 1000000000000000000) : number (Lib.itoa x) = some x := by
  obtain ⟨f1, f2, f3⟩ := dec_facts x.natAbs
  have fl := dec_short x.natAbs (by omega)
  have f4 : (Lib.decDigits x.natAbs).length ≠ 0 := fun e => f3 (List.length_eq_zero_iff.1 e)
  have hno : ¬ ((Lib.decDigits x.natAbs).length = 0 ∨ 18 < (Lib.decDigits x.natAbs).length ∨ true = false) := by
    rintro (h | h | h)
    · exact f4 h
    · omega
    · cases h
  by_cases hn : x < 0
  · have hi : Lib.itoa x = 45 :: Lib.decDigits x.natAbs := by unfold Lib.itoa; rw [if_pos hn]
    have hp : Lib.hasPrefix (Lib.itoa x) [45] = true := by rw [hi]; rfl
    have ht : Lib.trimPrefix (Lib.itoa x) [45] = Lib.decDigits x.natAbs := by unfold Lib.trimPrefix; rw [if_pos hp, hi]; rfl
    unfold number
    rw [ht, hp, f1, f2, if_neg hno, if_pos rfl]
    congr 1
    omega
  · have hi : Lib.itoa x = Lib.decDigits x.natAbs := by
      unfold Lib.itoa
      rw [if_neg hn, show x.toNat = x.natAbs by omega]
    have hp : Lib.hasPrefix (Lib.itoa x) [45] = false := by
      rw [hi]
      cases hd : Lib.decDigits x.natAbs with
      | nil => exact (f3 hd).elim
      | cons c t =>
        rw [hd] at f1
        simp only [List.all_cons, Bool.and_eq_true, isDigit, decide_eq_true_eq] at f1
        simp only [Lib.hasPrefix, List.isPrefixOf, Bool.and_true, beq_eq_false_iff_ne]
        intro e
        rw [← e] at f1
        have : (45 : UInt8).toNat = 45 := rfl
        omega
    have ht : Lib.trimPrefix (Lib.itoa x) [45] = Lib.decDigits x.natAbs := by unfold Lib.trimPrefix; rw [if_neg (by rw [hp]; simp), hi]
    unfold number
    rw [ht, hp, f1, f2, if_neg hno, if_neg (by simp)]
    congr 1
    omega

theorem bold_no_number : ∀ b ∈ boldNames, number b = none := by decide +kernel
theorem prim_no_number : ∀ p ∈ primTab, number p.name = none := by decide +kernel

theorem bold_of_number {l : List UInt8} {x : Int} (h : number l = some x) : isBold l = false := by
  unfold isBold
  rw [List.any_eq_false]
  intro b hb he
  rw [beq_iff_eq] at he
  rw [he, bold_no_number b hb] at h
  cases h
theorem find_of_number {l : List UInt8} {x : Int} (h : number l = some x) : find l = none := by
  unfold find
  rw [List.find?_eq_none]
  intro p hp he
  rw [beq_iff_eq] at he
  rw [he, prim_no_number p hp] at h
  cases h

theorem itoa_plain (x : Int) : (∀ c ∈ Lib.itoa x, blank c = false) ∧ Lib.itoa x ≠ [] := by
  obtain ⟨f1, _, f3⟩ := dec_facts x.natAbs
  have hd : ∀ c ∈ Lib.decDigits x.natAbs, blank c = false := fun c hc => by
    have := List.all_eq_true.1 f1 c hc
    simp only [isDigit, Bool.and_eq_true, decide_eq_true_eq] at this
    simp only [blank, blankN, Bool.or_eq_false_iff, beq_eq_false_iff_ne]
    omega
  by_cases hn : x < 0
  · have hi : Lib.itoa x = 45 :: Lib.decDigits x.natAbs := by unfold Lib.itoa; rw [if_pos hn]
    rw [hi]
    refine ⟨fun c hc => ?_, by simp⟩
    rcases List.mem_cons.1 hc with rfl | hc
    · rfl
    · exact hd c hc
  · have hi : Lib.itoa x = Lib.decDigits x.natAbs := by
      unfold Lib.itoa
      rw [if_neg hn, show x.toNat = x.natAbs by omega]
    rw [hi]
    exact ⟨hd, f3⟩

/-- A word, a blank, and the rest. -/
theorem split_cons (a : List UInt8) (c : UInt8) (t : List UInt8) (ha : ∀ c ∈ a, blank c = false) (hne : a ≠ []) (hc : blank c = true) : split (a ++ c :: t) = a :: split t := by
  unfold split
  rw [splitGo_run a (c :: t) [] ha, List.nil_append, splitGo, if_pos hc, if_neg (by simpa using hne)]
end L
end Go.Proofs.YthpcapohfjidoaaDoor
