/- The words of a line, in plain terms, of no program: what stands between the blanks, by bytes; and that the library's fields by runes are these. -/
import Derived.Lib.FieldsP
import Derived.Lib.TrimUEq
import Derived.WalkKit
namespace Go.Proofs.YthpcapohfjidoaaDoor
namespace L

def blankN (r : Nat) : Bool := r == 32 || r == 9 || r == 10 || r == 13
def blank (c : UInt8) : Bool := blankN c.toNat

def splitGo : List UInt8 → List UInt8 → List (List UInt8)
  | [], cur => if cur.isEmpty then [] else [cur]
  | c :: t, cur => if blank c then (if cur.isEmpty then splitGo t [] else cur :: splitGo t []) else splitGo t (cur ++ [c])
/-- A line's words. -/
def split (l : List UInt8) : List (List UInt8) := splitGo l []

theorem splitGo_run : ∀ (a : List UInt8) (t cur : List UInt8), (∀ c ∈ a, blank c = false) → splitGo (a ++ t) cur = splitGo t (cur ++ a)
  | [], t, cur, _ => by simp
  | c :: a, t, cur, h => by
    rw [List.cons_append, splitGo, if_neg (by rw [h c (by simp)]; simp), splitGo_run a t _ (fun x hx => h x (by simp [hx]))]
    simp

theorem decodeN_wide (n b0 b1 b2 b3 : Nat) (h0 : ¬ b0 < 128) : blankN (Lib.decodeN n b0 b1 b2 b3).1 = false ∧
    ((Lib.decodeN n b0 b1 b2 b3).2 = 1 ∨ ((Lib.decodeN n b0 b1 b2 b3).2 = 2 ∧ 1 < n ∧ 128 ≤ b1) ∨ ((Lib.decodeN n b0 b1 b2 b3).2 = 3 ∧ 2 < n ∧ 128 ≤ b1 ∧ 128 ≤ b2) ∨ ((Lib.decodeN n b0 b1 b2 b3).2 = 4 ∧ 3 < n ∧ 128 ≤ b1 ∧ 128 ≤ b2 ∧ 128 ≤ b3)) := by
  unfold Lib.decodeN
  rw [if_neg h0]
  repeat' split
  all_goals
    refine ⟨?_, ?_⟩
    · simp only [blankN, Bool.or_eq_false_iff, beq_eq_false_iff_ne]
      omega
    · first
        | exact .inl rfl
        | exact .inr (.inl ⟨rfl, by omega, by omega⟩)
        | exact .inr (.inr (.inl ⟨rfl, by omega, by omega, by omega⟩))
        | exact .inr (.inr (.inr ⟨rfl, by omega, by omega, by omega, by omega⟩))

theorem blank_big {c : UInt8} (h : 128 ≤ c.toNat) : blank c = false := by
  simp only [blank, blankN, Bool.or_eq_false_iff, beq_eq_false_iff_ne]
  omega

theorem drop_take_run (l : List UInt8) (pos w : Nat) : l.drop pos = (l.drop pos).take w ++ l.drop (pos + w) := by
  rw [← List.drop_drop, List.take_append_drop]

theorem getD_take {l : List UInt8} {pos w : Nat} {c : UInt8} (hc : c ∈ (l.drop pos).take w) : ∃ j, j < w ∧ c = l.getD (pos + j) 0 := by
  obtain ⟨j, hj, rfl⟩ := List.mem_iff_getElem.1 hc
  have hj2 : j < w ∧ pos + j < l.length := by simp at hj; omega
  refine ⟨j, hj2.1, ?_⟩
  rw [List.getD_eq_getElem?_getD, List.getElem?_eq_getElem hj2.2]
  simp

/-- One rune of a line: blank, of one byte; or not, and then none of its bytes is. -/
theorem rune_at (s : ByteArray) (pos : Nat) (h : pos < s.size) :
    1 ≤ (Utf8.decode s pos).2 ∧ pos + (Utf8.decode s pos).2 ≤ s.data.toList.length ∧
    ((blankN (Utf8.decode s pos).1 = true ∧ (Utf8.decode s pos).2 = 1 ∧ blank (s.data.toList.getD pos 0) = true) ∨
     (blankN (Utf8.decode s pos).1 = false ∧ ∀ c ∈ (s.data.toList.drop pos).take (Utf8.decode s pos).2, blank c = false)) := by
  have hsz : s.size = s.data.toList.length := Lib.size_eq s
  rw [Lib.decode_N]
  generalize s.data.toList = l at *
  by_cases h0 : (l.getD pos 0).toNat < 128
  · rw [Lib.decodeN_ascii _ _ _ _ _ h0]
    refine ⟨Nat.le_refl _, by simp only; omega, ?_⟩
    by_cases hb : blank (l.getD pos 0) = true
    · exact .inl ⟨hb, rfl, hb⟩
    · refine .inr ⟨by simpa [blank] using hb, fun c hc => ?_⟩
      obtain ⟨j, hj, rfl⟩ := getD_take hc
      obtain rfl : j = 0 := by simp only at hj; omega
      simpa using hb
  · obtain ⟨h1, h2⟩ := decodeN_wide (l.length - pos) (l.getD pos 0).toNat (l.getD (pos + 1) 0).toNat (l.getD (pos + 2) 0).toNat (l.getD (pos + 3) 0).toNat h0
    refine ⟨by omega, by omega, .inr ⟨h1, fun c hc => ?_⟩⟩
    obtain ⟨j, hj, rfl⟩ := getD_take hc
    apply blank_big
    have hj4 : j = 0 ∨ j = 1 ∨ j = 2 ∨ j = 3 := by omega
    rcases hj4 with rfl | rfl | rfl | rfl
    · simp only [Nat.add_zero]; omega
    · omega
    · omega
    · omega

def cut (l : List UInt8) (x : Nat × Nat) : List UInt8 := (l.take x.2).drop x.1

def curOf (l : List UInt8) (st : Option Nat) (pos : Nat) : List UInt8 := match st with | none => [] | some a => cut l (a, pos)

theorem spans_end (s : ByteArray) (f pos : Nat) (st : Option Nat) (acc : List (Nat × Nat)) (hp : pos ≤ s.size) (hlt : ¬ pos < s.size) (hst : ∀ a, st = some a → a < pos) :
    (Lib.closeSpans s (Lib.spansFromP blankN s f pos st acc)).map (cut s.data.toList) = acc.map (cut s.data.toList) ++ splitGo (s.data.toList.drop pos) (curOf s.data.toList st pos) := by
  rw [Lib.spansFromP_end _ _ _ _ _ _ hlt]
  have hsz : s.size = s.data.toList.length := Lib.size_eq s
  have hpe : pos = s.size := by omega
  subst hpe
  have hd : s.data.toList.drop s.size = [] := by rw [hsz, List.drop_length]
  rw [hd]
  cases st with
  | none => simp [Lib.closeSpans, splitGo, curOf]
  | some a =>
    have ha := hst a rfl
    have hne : (cut s.data.toList (a, s.size)).isEmpty = false := by
      rw [List.isEmpty_eq_false_iff]
      intro h0
      have := congrArg List.length h0
      simp only [cut, List.length_drop, List.length_take, List.length_nil] at this
      omega
    simp only [Lib.closeSpans, splitGo, curOf, hne]
    simp

theorem spans_go (s : ByteArray) (f : Nat) : ∀ (pos : Nat) (st : Option Nat) (acc : List (Nat × Nat)), s.size - pos ≤ f → pos ≤ s.size → (∀ a, st = some a → a < pos) →
    (Lib.closeSpans s (Lib.spansFromP blankN s f pos st acc)).map (cut s.data.toList) = acc.map (cut s.data.toList) ++ splitGo (s.data.toList.drop pos) (curOf s.data.toList st pos) := by
  induction f with
  | zero => exact fun pos st acc hf hp hst => spans_end s 0 pos st acc hp (by omega) hst
  | succ f IH =>
    intro pos st acc hf hp hst
    have hsz : s.size = s.data.toList.length := Lib.size_eq s
    by_cases hlt : pos < s.size
    · obtain ⟨w1, w2, hw⟩ := rune_at s pos hlt
      have ih := fun st' acc' h => IH (pos + (Utf8.decode s pos).2) st' acc' (by omega) (by omega) h
      unfold Lib.spansFromP
      rw [if_pos hlt]
      rcases hw with ⟨hb, hone, hbb⟩ | ⟨hb, hall⟩
      · have hd : s.data.toList.drop pos = s.data.toList.getD pos 0 :: s.data.toList.drop (pos + 1) := by
          rw [List.drop_eq_getElem_cons (by omega), List.getD_eq_getElem?_getD, List.getElem?_eq_getElem (by omega)]; rfl
        rw [if_pos hb, hd, splitGo, if_pos hbb]
        cases st with
        | none =>
          simp only [curOf, List.isEmpty_nil, if_true]
          have := ih none acc (by simp)
          simpa [hone, curOf] using this
        | some a =>
          have ha := hst a rfl
          have hne : (cut s.data.toList (a, pos)).isEmpty = false := by
            rw [List.isEmpty_eq_false_iff]
            intro h0
            have := congrArg List.length h0
            simp [cut] at this
            omega
          simp only [curOf, hne]
          have := ih none (acc ++ [(a, pos)]) (by simp)
          simpa [hone, curOf] using this
      · rw [if_neg (by rw [hb]; simp)]
        have hd := drop_take_run s.data.toList pos (Utf8.decode s pos).2
        have hgo := fun cur => splitGo_run _ (s.data.toList.drop (pos + (Utf8.decode s pos).2)) cur hall
        rw [← hd] at hgo
        cases st with
        | none =>
          simp only [hgo]
          have := ih (some pos) acc (by intro a h; injection h; omega)
          rw [this]
          simp [cut, curOf, List.drop_take]
        | some a =>
          have ha := hst a rfl
          simp only [hgo]
          have := ih (some a) acc (by intro b h; injection h; omega)
          rw [this]
          congr 2
          simp only [cut, curOf]
          rw [← List.drop_append_of_le_length (by simp; omega)]
          congr 1
          rw [List.take_add]
    · exact spans_end s (f + 1) pos st acc hp hlt hst

theorem fields_split (s : ByteArray) : (Lib.goFieldsP blankN s).map (fun b => b.data.toList) = split s.data.toList := by
  have h := spans_go s s.size 0 none [] (by omega) (by omega) (by simp)
  simp only [List.drop_zero, List.map_nil, List.nil_append] at h
  refine Eq.trans ?_ h
  rw [Lib.goFieldsP, Lib.spansOfP, List.map_map]
  apply List.map_congr_left
  intro x _
  simp [cut, Function.comp, List.drop_take]

theorem words_split (s : ByteArray) : Lib.goFieldsP blankN s = (split s.data.toList).map fun l => ⟨l.toArray⟩ := by
  rw [← fields_split, List.map_map]
  exact ((List.map_congr_left (g := id) (fun b _ => by cases b; simp)).trans (List.map_id _)).symm
end L
end Go.Proofs.YthpcapohfjidoaaDoor
