/- Parts of the proof: see the last text. -/
import Derived.Lib.FieldsP
import Derived.Lib.TrimUEq
import Derived.WalkKit
import Derived.Test.YtgnlokmeohffaaaGreatDoorB2
/- doPrimitive, at whatever run in memory: what doPrim of the plain terms says. -/
namespace Go.Proofs.YtgnlokmeohffaaaGreatDoor
open Go.RowKit

theorem src_none {w : World} {n t : Nat} {xs : List Value} (hn : n = 0) (hx : xs = []) : Src w (.slice none (n - (n - t)) (0 - (n - t))) xs := by
  subst hn hx
  rw [show 0 - (0 - t) = 0 by omega]
  exact Src.nil w

/-- doPrimitive, where there is enough to take: whatever comes behind its slices. -/
theorem doPrim_tail (w : World) (mb rb : Nat) (vO vB vW vS vR vT : Value) (s : L.RunS) (nm : ByteArray) (t a : Nat) (g : Int) (code : Int) (P : World → World → Prop) (hrun : RunAt w mb rb vO vB vW vS vR vT s) (ht : t ≤ s.S.length) (ha : a ≤ s.R.length)
    (H : ∀ vT' vA', Src w vT' ((s.S.drop (s.S.length - t)).map (Value.int .i64)) → Src w vA' ((s.R.drop (s.R.length - a)).map (Value.int .i64)) → Tail w rb nm t a g vT' vA' (s.S.length : Int) code P) :
    Calls Tryz.prog 63 #[.pointer (some ⟨rb, 0, none⟩), .agg #[.string nm, .int .i64 t, .int .i64 a, .int .i64 g]] w fun r w' => r = .returned (.int .i64 code) ∧ ∃ W, Below w.heap.size w W ∧ P W w' := by
  have hr0 : ∀ o, (w.alloc o).cell? ⟨rb, 0, none⟩ = some (.pointer (some ⟨mb, 0, none⟩)) := fun o => cell_alloc (cell_of_block hrun.r rfl) o
  have hm0 : ∀ o, (w.alloc o).cell? ⟨mb, 0, none⟩ = some vS := fun o => cell_alloc (cell_of_block hrun.m rfl) o
  have hm1 : ∀ o, (w.alloc o).cell? ⟨mb, 1, none⟩ = some vR := fun o => cell_alloc (cell_of_block hrun.m rfl) o
  have hst := hrun.st
  have has := hrun.asd
  rcases owns_cases hst with ⟨rfl, n0, _⟩ | ⟨gS, capS, rfl, lS⟩ <;> rcases owns_cases has with ⟨rfl, m0, _⟩ | ⟨gR, capR, rfl, lR⟩
  · exact doPrim_nn w mb rb s.S.length t 0 s.R.length a 0 nm g code P hr0 (by rw [n0]; exact hm0) (by rw [m0]; exact hm1) hrun.sl ht (by omega) hrun.rl ha (by omega) (hide (H _ _ (src_none n0 (by rw [List.length_eq_zero_iff.1 n0]; simp)) (src_none m0 (by rw [List.length_eq_zero_iff.1 m0]; simp))))
  · have h2 := tail_src (t := a) has lR
    rw [← List.map_drop] at h2
    exact doPrim_ns w mb rb s.S.length t 0 s.R.length a capR gR nm g code P hr0 (by rw [n0]; exact hm0) hm1 hrun.sl ht (by omega) _ rfl hrun.rl ha lR (hide (H _ _ (src_none n0 (by rw [List.length_eq_zero_iff.1 n0]; simp)) h2))
  · have h1 := tail_src (t := t) hst lS
    rw [← List.map_drop] at h1
    exact doPrim_sn w mb rb s.S.length t capS gS s.R.length a 0 nm g code P hr0 hm0 (by rw [m0]; exact hm1) _ rfl hrun.sl ht lS hrun.rl ha (by omega) (hide (H _ _ h1 (src_none m0 (by rw [List.length_eq_zero_iff.1 m0]; simp))))
  · have h1 := tail_src (t := t) hst lS
    have h2 := tail_src (t := a) has lR
    rw [← List.map_drop] at h1 h2
    exact doPrim_ss w mb rb s.S.length t capS gS s.R.length a capR gR nm g code P hr0 hm0 hm1 _ rfl hrun.sl ht lS _ rfl hrun.rl ha lR (hide (H _ _ h1 h2))

/-- doPrimitive, where there is not enough. -/
theorem doPrim_few (w : World) (mb rb : Nat) (vO vB vW vS vR vT : Value) (s : L.RunS) (nm : ByteArray) (t a : Nat) (g : Int) (hrun : RunAt w mb rb vO vB vW vS vR vT s) (hu : s.S.length < t ∨ s.R.length < a) :
    Calls Tryz.prog 63 #[.pointer (some ⟨rb, 0, none⟩), .agg #[.string nm, .int .i64 t, .int .i64 a, .int .i64 g]] w fun r w' => r = .returned (.int .i64 6) ∧ Below w.heap.size w w' := by
  have hr0 : ∀ o, (w.alloc o).cell? ⟨rb, 0, none⟩ = some (.pointer (some ⟨mb, 0, none⟩)) := fun o => cell_alloc (cell_of_block hrun.r rfl) o
  have hm0 : ∀ o, (w.alloc o).cell? ⟨mb, 0, none⟩ = some vS := fun o => cell_alloc (cell_of_block hrun.m rfl) o
  have hm1 : ∀ o, (w.alloc o).cell? ⟨mb, 1, none⟩ = some vR := fun o => cell_alloc (cell_of_block hrun.m rfl) o
  obtain ⟨aS, capS, aR, capR, aT, capT, rfl, rfl, rfl, lS, lR⟩ := hrun.slices
  exact doPrim_under w mb rb _ _ t a capS capR aS aR nm g hr0 hm0 hm1 hu

theorem group_not (p : L.Prim) (hp : p ∈ L.primTab) : ((p.group : Int) == 3) = false := by
  simp only [L.primTab, List.mem_cons, List.not_mem_nil, or_false] at hp
  rcases hp with rfl | rfl | rfl | rfl | rfl | rfl | rfl | rfl | rfl | rfl | rfl | rfl | rfl | rfl | rfl | rfl | rfl | rfl | rfl | rfl | rfl | rfl | rfl | rfl <;> rfl

set_option maxHeartbeats 1600000 in
theorem doPrim_any (w : World) (mb rb : Nat) (vO vB vW vS vR vT : Value) (s : L.RunS) (p : L.Prim) (hp : p ∈ L.primTab) (hrun : RunAt w mb rb vO vB vW vS vR vT s) (htab : TabOk w) :
    Calls Tryz.prog 63 #[.pointer (some ⟨rb, 0, none⟩), primVal p] w fun r w' => r = .returned (.int .i64 (L.doPrim s p).2) ∧ Goes mb rb vO vB vW vS vR vT (L.doPrim s p).1 w w' := by
  by_cases hu : s.S.length < p.takes ∨ s.R.length < p.aside
  · have hd : L.doPrim s p = (s, 6) := if_pos hu
    rw [hd]
    exact (doPrim_few w mb rb vO vB vW vS vR vT s ⟨p.name.toArray⟩ p.takes p.aside p.group hrun hu).mono fun r w' h => ⟨h.1, Goes.stay hrun h.2⟩
  · have ht : p.takes ≤ s.S.length := by omega
    have ha : p.aside ≤ s.R.length := by omega
    have hTin : ∀ x ∈ s.S.drop (s.S.length - p.takes), inI64 x := fun x hx => hrun.si x (List.mem_of_mem_drop hx)
    have hAin : ∀ x ∈ s.R.drop (s.R.length - p.aside), inI64 x := fun x hx => hrun.ri x (List.mem_of_mem_drop hx)
    have hTl : (s.S.drop (s.S.length - p.takes)).length = p.takes := by rw [List.length_drop]; omega
    have hAl : (s.R.drop (s.R.length - p.aside)).length = p.aside := by rw [List.length_drop]; omega
    have hmod : Modest' (L.plan p.name (s.S.drop (s.S.length - p.takes)) (s.R.drop (s.R.length - p.aside)) s.S.length) :=
      plan_modest _ _ _ _ _ _ (mem_getD hTin 0) (mem_getD hTin 1) (mem_getD hTin 2) (mem_getD hAin 0) ⟨by omega, by have := hrun.sl; omega⟩
    have hplan : ∀ vT' vA', Src w vT' ((s.S.drop (s.S.length - p.takes)).map (Value.int .i64)) → Src w vA' ((s.R.drop (s.R.length - p.aside)).map (Value.int .i64)) → ∀ w1, Below w.heap.size w w1 → PlanAt p vT' vA' (s.S.drop (s.S.length - p.takes)) (s.R.drop (s.R.length - p.aside)) s.S.length w1 :=
      fun vT' vA' h1 h2 w1 hb => plan_any p hp _ w1 vT' vA' _ _ (h1.below hb) hTl (h2.below hb) hAl hTin (tabIs_of_block htab (hb.block _ (tab_lt htab)))
    have hdo : L.doPrim s p = if (L.plan p.name (s.S.drop (s.S.length - p.takes)) (s.R.drop (s.R.length - p.aside)) s.S.length).err ≠ 0 then (s, (L.plan p.name (s.S.drop (s.S.length - p.takes)) (s.R.drop (s.R.length - p.aside)) s.S.length).err)
      else L.commit s p.takes p.aside (L.plan p.name (s.S.drop (s.S.length - p.takes)) (s.R.drop (s.R.length - p.aside)) s.S.length) := if_neg hu
    unfold PlanAt at hplan
    generalize L.plan p.name (s.S.drop (s.S.length - p.takes)) (s.R.drop (s.R.length - p.aside)) s.S.length = e at *
    have hgr := group_not p hp
    by_cases he : e.err ≠ 0
    · have heb : (e.err != 0) = true := by rw [bne_iff_ne]; exact he
      rw [hdo, if_pos he]
      refine (doPrim_tail w mb rb vO vB vW vS vR vT s ⟨p.name.toArray⟩ p.takes p.aside p.group e.err (fun W w' => w' = W) hrun ht ha fun vT' vA' h1 h2 => .inr (.inl ⟨hgr, heb, ⟨e.lays, e.aside, e.tells, fun w1 hb => hplan vT' vA' h1 h2 w1 hb⟩, fun _ _ => rfl⟩)).mono ?_
      rintro r w' ⟨rfl, W, hb, rfl⟩
      exact ⟨rfl, Goes.stay hrun hb⟩
    · have he0 : e.err = 0 := by simpa using he
      rw [hdo, if_neg he]
      refine (doPrim_tail w mb rb vO vB vW vS vR vT s ⟨p.name.toArray⟩ p.takes p.aside p.group (L.commit s p.takes p.aside e).2 (fun W w' => Goes mb rb vO vB vW vS vR vT (L.commit s p.takes p.aside e).1 W w') hrun ht ha fun vT' vA' h1 h2 => .inr (.inr ⟨hgr, e.lays, e.aside, e.tells, fun w1 hb => ?_, fun W v hb hE => ?_⟩)).mono ?_
      · have := hplan vT' vA' h1 h2 w1 hb
        rw [he0] at this
        exact this
      · exact commit_any W mb rb vO vB vW vS vR vT v s p.takes p.aside w.heap.size e (hrun.below hb) (fun k hk => hrun.lt k (.inl hk)) hE ht ha hmod.1 hmod.2.1 hmod.2.2.1 hmod.2.2.2.1 hmod.2.2.2.2
      · rintro r w' ⟨rfl, W, hb, hg⟩
        exact ⟨rfl, Goes.after hb hg⟩
end Go.Proofs.YtgnlokmeohffaaaGreatDoor
/- The words of a line, in plain terms, of no program: what stands between the blanks, by bytes; and that the library's fields by runes are these. -/
namespace Go.Proofs.YtgnlokmeohffaaaGreatDoor
namespace L

def blankN (r : Nat) : Bool := r == 32 || r == 9 || r == 10 || r == 13
def blank (c : UInt8) : Bool := blankN c.toNat

def splitGo : List UInt8 → List UInt8 → List (List UInt8)
  | [], cur => if cur.isEmpty then [] else [cur]
  | c :: t, cur => if blank c then (if cur.isEmpty then splitGo t [] else cur :: splitGo t []) else splitGo t (cur ++ [c])
/-- A line's words. -/
def split (l : List UInt8) : List (List UInt8) := splitGo l []

theorem splitGo_run : ∀ (a : List UInt8) (t cur : List UInt8), (∀ c ∈ a, blank c = false) → splitGo (a ++ t) cur = splitGo t (cur ++ a)
  | [], t, cur, _ => by simp
  | c :: a, t, cur, h => by
    rw [List.cons_append, splitGo, if_neg (by rw [h c (by simp)]; simp), splitGo_run a t _ (fun x hx => h x (by simp [hx]))]
    simp

theorem decodeN_wide (n b0 b1 b2 b3 : Nat) (h0 : ¬ b0 < 128) : blankN (Lib.decodeN n b0 b1 b2 b3).1 = false ∧
    ((Lib.decodeN n b0 b1 b2 b3).2 = 1 ∨ ((Lib.decodeN n b0 b1 b2 b3).2 = 2 ∧ 1 < n ∧ 128 ≤ b1) ∨ ((Lib.decodeN n b0 b1 b2 b3).2 = 3 ∧ 2 < n ∧ 128 ≤ b1 ∧ 128 ≤ b2) ∨ ((Lib.decodeN n b0 b1 b2 b3).2 = 4 ∧ 3 < n ∧ 128 ≤ b1 ∧ 128 ≤ b2 ∧ 128 ≤ b3)) := by
  unfold Lib.decodeN
  rw [if_neg h0]
  repeat' split
  all_goals
    refine ⟨?_, ?_⟩
    · simp only [blankN, Bool.or_eq_false_iff, beq_eq_false_iff_ne]
      omega
    · first
        | exact .inl rfl
        | exact .inr (.inl ⟨rfl, by omega, by omega⟩)
        | exact .inr (.inr (.inl ⟨rfl, by omega, by omega, by omega⟩))
        | exact .inr (.inr (.inr ⟨rfl, by omega, by omega, by omega, by omega⟩))

theorem blank_big {c : UInt8} (h : 128 ≤ c.toNat) : blank c = false := by
  simp only [blank, blankN, Bool.or_eq_false_iff, beq_eq_false_iff_ne]
  omega

theorem drop_take_run (l : List UInt8) (pos w : Nat) : l.drop pos = (l.drop pos).take w ++ l.drop (pos + w) := by
  rw [← List.drop_drop, List.take_append_drop]

theorem getD_take {l : List UInt8} {pos w : Nat} {c : UInt8} (hc : c ∈ (l.drop pos).take w) : ∃ j, j < w ∧ c = l.getD (pos + j) 0 := by
  obtain ⟨j, hj, rfl⟩ := List.mem_iff_getElem.1 hc
  have hj2 : j < w ∧ pos + j < l.length := by simp at hj; omega
  refine ⟨j, hj2.1, ?_⟩
  rw [List.getD_eq_getElem?_getD, List.getElem?_eq_getElem hj2.2]
  simp

/-- One rune of a line: blank, of one byte; or not, and then none of its bytes is. -/
theorem rune_at (s : ByteArray) (pos : Nat) (h : pos < s.size) :
    1 ≤ (Utf8.decode s pos).2 ∧ pos + (Utf8.decode s pos).2 ≤ s.data.toList.length ∧
    ((blankN (Utf8.decode s pos).1 = true ∧ (Utf8.decode s pos).2 = 1 ∧ blank (s.data.toList.getD pos 0) = true) ∨
     (blankN (Utf8.decode s pos).1 = false ∧ ∀ c ∈ (s.data.toList.drop pos).take (Utf8.decode s pos).2, blank c = false)) := by
  have hsz : s.size = s.data.toList.length := Lib.size_eq s
  rw [Lib.decode_N]
  generalize s.data.toList = l at *
  by_cases h0 : (l.getD pos 0).toNat < 128
  · rw [Lib.decodeN_ascii _ _ _ _ _ h0]
    refine ⟨Nat.le_refl _, by simp only; omega, ?_⟩
    by_cases hb : blank (l.getD pos 0) = true
    · exact .inl ⟨hb, rfl, hb⟩
    · refine .inr ⟨by simpa [blank] using hb, fun c hc => ?_⟩
      obtain ⟨j, hj, rfl⟩ := getD_take hc
      obtain rfl : j = 0 := by simp only at hj; omega
      simpa using hb
  · obtain ⟨h1, h2⟩ := decodeN_wide (l.length - pos) (l.getD pos 0).toNat (l.getD (pos + 1) 0).toNat (l.getD (pos + 2) 0).toNat (l.getD (pos + 3) 0).toNat h0
    refine ⟨by omega, by omega, .inr ⟨h1, fun c hc => ?_⟩⟩
    obtain ⟨j, hj, rfl⟩ := getD_take hc
    apply blank_big
    have hj4 : j = 0 ∨ j = 1 ∨ j = 2 ∨ j = 3 := by omega
    rcases hj4 with rfl | rfl | rfl | rfl
    · simp only [Nat.add_zero]; omega
    · omega
    · omega
    · omega

def cut (l : List UInt8) (x : Nat × Nat) : List UInt8 := (l.take x.2).drop x.1

def curOf (l : List UInt8) (st : Option Nat) (pos : Nat) : List UInt8 := match st with | none => [] | some a => cut l (a, pos)

theorem spans_end (s : ByteArray) (f pos : Nat) (st : Option Nat) (acc : List (Nat × Nat)) (hp : pos ≤ s.size) (hlt : ¬ pos < s.size) (hst : ∀ a, st = some a → a < pos) :
    (Lib.closeSpans s (Lib.spansFromP blankN s f pos st acc)).map (cut s.data.toList) = acc.map (cut s.data.toList) ++ splitGo (s.data.toList.drop pos) (curOf s.data.toList st pos) := by
  rw [Lib.spansFromP_end _ _ _ _ _ _ hlt]
  have hsz : s.size = s.data.toList.length := Lib.size_eq s
  have hpe : pos = s.size := by omega
  subst hpe
  have hd : s.data.toList.drop s.size = [] := by rw [hsz, List.drop_length]
  rw [hd]
  cases st with
  | none => simp [Lib.closeSpans, splitGo, curOf]
  | some a =>
    have ha := hst a rfl
    have hne : (cut s.data.toList (a, s.size)).isEmpty = false := by
      rw [List.isEmpty_eq_false_iff]
      intro h0
      have := congrArg List.length h0
      simp only [cut, List.length_drop, List.length_take, List.length_nil] at this
      omega
    simp only [Lib.closeSpans, splitGo, curOf, hne]
    simp

theorem spans_go (s : ByteArray) (f : Nat) : ∀ (pos : Nat) (st : Option Nat) (acc : List (Nat × Nat)), s.size - pos ≤ f → pos ≤ s.size → (∀ a, st = some a → a < pos) →
    (Lib.closeSpans s (Lib.spansFromP blankN s f pos st acc)).map (cut s.data.toList) = acc.map (cut s.data.toList) ++ splitGo (s.data.toList.drop pos) (curOf s.data.toList st pos) := by
  induction f with
  | zero => exact fun pos st acc hf hp hst => spans_end s 0 pos st acc hp (by omega) hst
  | succ f IH =>
    intro pos st acc hf hp hst
    have hsz : s.size = s.data.toList.length := Lib.size_eq s
    by_cases hlt : pos < s.size
    · obtain ⟨w1, w2, hw⟩ := rune_at s pos hlt
      have ih := fun st' acc' h => IH (pos + (Utf8.decode s pos).2) st' acc' (by omega) (by omega) h
      unfold Lib.spansFromP
      rw [if_pos hlt]
      rcases hw with ⟨hb, hone, hbb⟩ | ⟨hb, hall⟩
      · have hd : s.data.toList.drop pos = s.data.toList.getD pos 0 :: s.data.toList.drop (pos + 1) := by
          rw [List.drop_eq_getElem_cons (by omega), List.getD_eq_getElem?_getD, List.getElem?_eq_getElem (by omega)]; rfl
        rw [if_pos hb, hd, splitGo, if_pos hbb]
        cases st with
        | none =>
          simp only [curOf, List.isEmpty_nil, if_true]
          have := ih none acc (by simp)
          simpa [hone, curOf] using this
        | some a =>
          have ha := hst a rfl
          have hne : (cut s.data.toList (a, pos)).isEmpty = false := by
            rw [List.isEmpty_eq_false_iff]
            intro h0
            have := congrArg List.length h0
            simp [cut] at this
            omega
          simp only [curOf, hne]
          have := ih none (acc ++ [(a, pos)]) (by simp)
          simpa [hone, curOf] using this
      · rw [if_neg (by rw [hb]; simp)]
        have hd := drop_take_run s.data.toList pos (Utf8.decode s pos).2
        have hgo := fun cur => splitGo_run _ (s.data.toList.drop (pos + (Utf8.decode s pos).2)) cur hall
        rw [← hd] at hgo
        cases st with
        | none =>
          simp only [hgo]
          have := ih (some pos) acc (by intro a h; injection h; omega)
          rw [this]
          simp [cut, curOf, List.drop_take]
        | some a =>
          have ha := hst a rfl
          simp only [hgo]
          have := ih (some a) acc (by intro b h; injection h; omega)
          rw [this]
          congr 2
          simp only [cut, curOf]
          rw [← List.drop_append_of_le_length (by simp; omega)]
          congr 1
          rw [List.take_add]
    · exact spans_end s (f + 1) pos st acc hp hlt hst

theorem fields_split (s : ByteArray) : (Lib.goFieldsP blankN s).map (fun b => b.data.toList) = split s.data.toList := by
  have h := spans_go s s.size 0 none [] (by omega) (by omega) (by simp)
  simp only [List.drop_zero, List.map_nil, List.nil_append] at h
  refine Eq.trans ?_ h
  rw [Lib.goFieldsP, Lib.spansOfP, List.map_map]
  apply List.map_congr_left
  intro x _
  simp [cut, Function.comp, List.drop_take]

theorem words_split (s : ByteArray) : Lib.goFieldsP blankN s = (split s.data.toList).map fun l => ⟨l.toArray⟩ := by
  rw [← fields_split, List.map_map]
  exact ((List.map_congr_left (g := id) (fun b _ => by cases b; simp)).trans (List.map_id _)).symm
end L
end Go.Proofs.YtgnlokmeohffaaaGreatDoor
/- THE DOCUMENT'S LANGUAGE, in plain terms, of no program: a machine with words of one's own, what a line does to it, what it tells. One model for both sides. -/
namespace Go.Proofs.YtgnlokmeohffaaaGreatDoor
namespace N
open Go.RowKit

abbrev Txt := List UInt8

/-- A word of a body: kind 1 a number n; 2 the word of one's own at place n; 3 a word of the language; 4 a bold one. -/
structure Cell where
  kind : Nat
  n : Int
  name : Txt

/-- A word of one's own: kind 1 a definition, 2 a variable, 3 a constant, 4 a marker. -/
structure Ent where
  name : Txt
  kind : Nat
  n : Int
  body : List Cell
  ended : Bool
  gone : Bool

structure Mach where
  all : List Ent
  S : List Int
  R : List Int
  out : Txt
  steps : Nat

def prims : List Txt := [[43], [45], [42], [47], [109, 111, 100], [61], [60], [62], [97, 110, 100], [111, 114], [120, 111, 114], [110, 111, 116], [100, 117, 112], [100, 114, 111, 112], [115, 119, 97, 112], [111, 118, 101, 114], [114, 111, 116],
  [62, 114], [114, 62], [114, 64], [100, 101, 112, 116, 104], [46], [101, 109, 105, 116], [99, 114], [64], [33], [101, 120, 101, 99, 117, 116, 101]]
def isPrim (s : Txt) : Bool := prims.any fun b => s == b

def there (e : Ent) : Bool := e.ended && !e.gone
/-- The newest word of a name among the first i. -/
def newestOf (all : List Ent) (name : Txt) : Nat → Option Nat
  | 0 => none
  | i + 1 => match all[i]? with
    | some e => if e.name == name && there e then some i else newestOf all name i
    | none => newestOf all name i
def newest (m : Mach) (name : Txt) : Option Nat := newestOf m.all name m.all.length
def count (m : Mach) : Nat := (m.all.filter there).length
/-- What a word means that is not bold. -/
def meaning (m : Mach) (s : Txt) : Option Cell :=
  match newest m s with
  | some k => some ⟨2, k, []⟩
  | none => if isPrim s then some ⟨3, 0, s⟩ else (L.number s).map fun n => ⟨1, n, []⟩
def forgets (m : Mach) (k : Nat) : Mach := { m with all := m.all.take k ++ (m.all.drop k).map fun e => { e with gone := true } }
/-- The place of a token of a word that there is. -/
def place (m : Mach) (t : Int) : Option Nat :=
  if t < 1000 then none else
    match m.all[(t - 1000).toNat]? with
    | some e => if there e then some (t - 1000).toNat else none
    | none => none

def push (m : Mach) (n : Int) : Mach × Int := if 16 ≤ m.S.length then (m, 7) else ({ m with S := m.S ++ [n] }, 0)
/-- Takes the top off: what is left, and it. -/
def pop (m : Mach) : Option (Mach × Int) :=
  match m.S.getLast? with
  | none => none
  | some n => some ({ m with S := m.S.dropLast }, n)

/-- How many a word takes and lays: off the stack, off what is aside, onto the stack, aside. -/
def takes (s : Txt) : Nat × Nat × Nat × Nat :=
  if [[43], [45], [42], [47], [109, 111, 100], [61], [60], [62], [97, 110, 100], [111, 114], [120, 111, 114]].any (fun b => s == b) then (2, 0, 1, 0)
  else if s == [110, 111, 116] || s == [64] then (1, 0, 1, 0)
  else if s == [100, 117, 112] then (1, 0, 2, 0)
  else if s == [100, 114, 111, 112] || s == [46] || s == [101, 109, 105, 116] || s == [101, 120, 101, 99, 117, 116, 101] then (1, 0, 0, 0)
  else if s == [115, 119, 97, 112] then (2, 0, 2, 0)
  else if s == [111, 118, 101, 114] then (2, 0, 3, 0)
  else if s == [114, 111, 116] then (3, 0, 3, 0)
  else if s == [62, 114] then (1, 0, 0, 1)
  else if s == [114, 62] then (0, 1, 1, 0)
  else if s == [114, 64] then (0, 1, 1, 1)
  else if s == [100, 101, 112, 116, 104] then (0, 0, 1, 0)
  else if s == [33] then (2, 0, 0, 0)
  else (0, 0, 0, 0)
def reckoned (s : Txt) (a b : Int) : Int :=
  if s == [43] then wrap64 (a + b) else if s == [45] then wrap64 (a - b) else if s == [42] then wrap64 (a * b) else if s == [47] then wrap64 (a.tdiv b) else if s == [109, 111, 100] then a.tmod b
  else if s == [61] then L.truth (a == b) else if s == [60] then L.truth (decide (a < b)) else if s == [62] then L.truth (decide (b < a)) else if s == [97, 110, 100] then bits .and .i64 a b else if s == [111, 114] then bits .or .i64 a b else bits .xor .i64 a b
def told (s : Txt) (n : Int) : Txt := if s == [46] then Lib.itoa n ++ [32] else if s == [101, 109, 105, 116] then [UInt8.ofNat n.toNat] else if s == [99, 114] then [10] else []
/-- A word's own errors; l: the numbers that it takes. -/
def wrong (m : Mach) (s : Txt) (l : List Int) : Int :=
  if s == [47] || s == [109, 111, 100] then (if l.getD 1 0 = 0 then 8 else 0)
  else if s == [101, 109, 105, 116] then (if l.getD 0 0 < 32 ∨ 126 < l.getD 0 0 then 11 else 0)
  else if s == [64] || s == [33] then
    (match place m (l.getD (l.length - 1) 0) with
     | some k => (match m.all[k]? with | some e => if e.kind = 2 then 0 else 9 | none => 9)
     | none => 9)
  else if s == [101, 120, 101, 99, 117, 116, 101] then (match place m (l.getD 0 0) with | some _ => 0 | none => 10)
  else 0
/-- What a word of the language leaves, once nothing is wrong; execute: not here. -/
def does (m : Mach) (s : Txt) (l : List Int) (rest : List Int) : Mach :=
  let x := l.getD 0 0
  let y := l.getD 1 0
  let z := l.getD 2 0
  let r := m.R.getLast?.getD 0
  if s == [110, 111, 116] then { m with S := rest ++ [L.truth (x == 0)] }
  else if s == [100, 117, 112] then { m with S := rest ++ [x, x] }
  else if s == [115, 119, 97, 112] then { m with S := rest ++ [y, x] }
  else if s == [111, 118, 101, 114] then { m with S := rest ++ [x, y, x] }
  else if s == [114, 111, 116] then { m with S := rest ++ [y, z, x] }
  else if s == [62, 114] then { m with S := rest, R := m.R ++ [x] }
  else if s == [114, 62] then { m with S := rest ++ [r], R := m.R.dropLast }
  else if s == [114, 64] then { m with S := rest ++ [r] }
  else if s == [100, 101, 112, 116, 104] then { m with S := rest ++ [(m.S.length : Int)] }
  else if s == [64] then { m with S := rest ++ [(m.all[(x - 1000).toNat]?.map (·.n)).getD 0] }
  else if s == [33] then { m with S := rest, all := m.all.modify (y - 1000).toNat fun e => { e with n := x } }
  else if s == [100, 114, 111, 112] || s == [46] || s == [101, 109, 105, 116] || s == [99, 114] || s == [101, 120, 101, 99, 117, 116, 101] then { m with S := rest }
  else { m with S := rest ++ [reckoned s x y] }

/-- A word of the language: the machine behind it, its error, and the word of one's own that is to be done next (execute). -/
def prim (m : Mach) (s : Txt) : Mach × Int × Option Nat :=
  let t := takes s
  if m.S.length < t.1 ∨ m.R.length < t.2.1 then (m, 6, none) else
  let l := m.S.drop (m.S.length - t.1)
  let rest := m.S.take (m.S.length - t.1)
  let e := wrong m s l
  if e ≠ 0 then (m, e, none) else
  if 16 < m.S.length - t.1 + t.2.2.1 ∨ 16 < m.R.length - t.2.1 + t.2.2.2 then (m, 7, none) else
  let txt := told s (l.getD 0 0)
  if 300 < m.out.length + txt.length then (m, 12, none) else
  let m1 := does { m with out := m.out ++ txt } s l rest
  (m1, 0, if s == [101, 120, 101, 99, 117, 116, 101] then some (l.getD 0 0 - 1000).toNat else none)

/-- Behind the first of some words, from place i on, that stands there in no inner pair. -/
def aheadOf (open' : Txt) (shut want : List Txt) : List Cell → Nat → Int → Nat
  | [], i, _ => i
  | c :: t, i, deep =>
    if c.kind ≠ 4 then aheadOf open' shut want t (i + 1) deep
    else if deep = 0 ∧ want.any (fun b => c.name == b) = true then i + 1
    else if c.name == open' then aheadOf open' shut want t (i + 1) (deep + 1)
    else if shut.any (fun b => c.name == b) then aheadOf open' shut want t (i + 1) (deep - 1)
    else aheadOf open' shut want t (i + 1) deep
def ahead (l : List Cell) (at' : Nat) (open' : Txt) (shut want : List Txt) : Nat := aheadOf open' shut want (l.drop (at' + 1)) (at' + 1) 0
/-- Behind the opening word that belongs to the one at a place: looked for from i - 1 down. -/
def backOf (l : List Cell) (open' : Txt) (shut : List Txt) : Nat → Int → Nat
  | 0, _ => 0
  | i + 1, deep => match l[i]? with
    | none => 0
    | some c =>
      if c.kind ≠ 4 then backOf l open' shut i deep
      else if c.name == open' ∧ deep = 0 then i + 1
      else if c.name == open' then backOf l open' shut i (deep - 1)
      else if shut.any (fun b => c.name == b) then backOf l open' shut i (deep + 1)
      else backOf l open' shut i deep

def wIf : Txt := [105, 102]
def wElse : Txt := [101, 108, 115, 101]
def wThen : Txt := [116, 104, 101, 110]
def wBegin : Txt := [98, 101, 103, 105, 110]
def wUntil : Txt := [117, 110, 116, 105, 108]
def wAgain : Txt := [97, 103, 97, 105, 110]
def wWhile : Txt := [119, 104, 105, 108, 101]
def wRepeat : Txt := [114, 101, 112, 101, 97, 116]
def wDo : Txt := [100, 111]
def wLoop : Txt := [108, 111, 111, 112]
def wI : Txt := [105]
def wLeave : Txt := [108, 101, 97, 118, 101]
def wExit : Txt := [101, 120, 105, 116]
def wRecurse : Txt := [114, 101, 99, 117, 114, 115, 101]
def ends : List Txt := [wUntil, wAgain, wRepeat]

/-- if, else, then, begin, until, again, while, repeat: where it goes on. -/
def ways (m : Mach) (l : List Cell) (at' : Nat) (name : Txt) : Mach × Nat × Int :=
  if name == wIf || name == wUntil || name == wWhile then
    match pop m with
    | none => (m, 0, 6)
    | some (m1, n) =>
      if n = 0 then
        (if name == wIf then (m1, ahead l at' wIf [wThen] [wElse, wThen], 0)
         else if name == wWhile then (m1, ahead l at' wBegin ends [wRepeat], 0)
         else (m1, backOf l wBegin ends at' 0, 0))
      else (m1, at' + 1, 0)
  else if name == wElse then (m, ahead l at' wIf [wThen] [wThen], 0)
  else if name == wAgain || name == wRepeat then (m, backOf l wBegin ends at' 0, 0)
  else (m, at' + 1, 0)

/-- do, loop, i, leave: where it goes on, and the loops that are being done (limit, count), the innermost last. -/
def rounds (m : Mach) (l : List Cell) (at' : Nat) (name : Txt) (r : List (Int × Int)) : Mach × Nat × List (Int × Int) × Int :=
  let behind := ahead l at' wDo [wLoop] [wLoop]
  if name == wDo then
    (if m.S.length < 2 then (m, 0, [], 6) else
      let start := m.S.getD (m.S.length - 1) 0
      let limit := m.S.getD (m.S.length - 2) 0
      let m1 := { m with S := m.S.take (m.S.length - 2) }
      if limit ≤ start then (m1, behind, r, 0) else (m1, at' + 1, r ++ [(limit, start)], 0))
  else if name == wLoop then
    (let last := r.getLast?.getD (0, 0)
     let c := wrap64 (last.2 + 1)
     if c < last.1 then (m, backOf l wDo [wLoop] at' 0, r.dropLast ++ [(last.1, c)], 0) else (m, at' + 1, r.dropLast, 0))
  else if name == wLeave then (m, behind, r.dropLast, 0)
  else let p := push m (r.getLast?.getD (0, 0)).2; (p.1, at' + 1, r, p.2)

/-- A body from place at' on; fuel: at least as much as steps and depths are left. owns is inlined (see owns). -/
def body : Nat → Mach → Nat → List Cell → Nat → Nat → List (Int × Int) → Mach × Int
  | 0, m, _, _, _, _, _ => (m, 14)
  | f + 1, m, k, l, depth, at', r =>
    match l[at']? with
    | none => (m, 0)
    | some c =>
      if 1000 ≤ m.steps then ({ m with steps := m.steps + 1 }, 14) else
      let m0 := { m with steps := m.steps + 1 }
      let own := fun (m1 : Mach) (j : Nat) => match m1.all[j]? with
        | none => (m1, (0 : Int))
        | some e =>
          if e.kind = 2 then push m1 (1000 + j) else if e.kind = 3 then push m1 e.n else if e.kind = 4 then (forgets m1 j, 0)
          else if 12 ≤ depth then (m1, 13) else body f m1 j e.body (depth + 1) 0 []
      let on := fun (p : Mach × Int) (next : Nat) (r1 : List (Int × Int)) => if p.2 ≠ 0 then p else body f p.1 k l depth next r1
      if c.kind = 1 then on (push m0 c.n) (at' + 1) r
      else if c.kind = 2 then on (own m0 c.n.toNat) (at' + 1) r
      else if c.kind = 3 then
        (let p := prim m0 c.name
         match p.2.2 with
         | some j => on (own p.1 j) (at' + 1) r
         | none => on (p.1, p.2.1) (at' + 1) r)
      else if c.name == wExit then (m0, 0)
      else if c.name == wRecurse then on (own m0 k) (at' + 1) r
      else if c.name == wDo || c.name == wLoop || c.name == wI || c.name == wLeave then
        (let p := rounds m0 l at' c.name r
         on (p.1, p.2.2.2) p.2.1 p.2.2.1)
      else (let p := ways m0 l at' c.name
            on (p.1, p.2.2) p.2.1 r)

/-- A word of one's own is done, within so many definitions. -/
def owns (f : Nat) (m : Mach) (j depth : Nat) : Mach × Int :=
  match m.all[j]? with
  | none => (m, 0)
  | some e =>
    if e.kind = 2 then push m (1000 + j) else if e.kind = 3 then push m e.n else if e.kind = 4 then (forgets m j, 0)
    else if 12 ≤ depth then (m, 13) else body f m j e.body (depth + 1) 0 []

def isSign (c : UInt8) : Bool := decide (33 ≤ c.toNat) && decide (c.toNat ≤ 126)
def nameFits (l : Txt) : Bool := l.all isSign && (decide (l.length ≤ 12) && (!(L.number l).isSome && !L.isBold l))
/-- The name that follows: its error. -/
def nameErr (m : Mach) (s : Option Txt) (fits : Bool) : Int :=
  match s with
  | none => 4
  | some t => if L.isBold t || (fits && !nameFits t) then 4 else if fits ∧ 40 ≤ count m then 5 else 0

/-- May a bold word stand here? What is open behind it (the innermost last). -/
def turns (o : List Txt) (of : List Txt) (dest : Option Txt) : Option (List Txt) :=
  match o.getLast? with
  | none => none
  | some t => if of.any (fun b => t == b) then some (match dest with | none => o.dropLast | some x => o.dropLast ++ [x]) else none
def stands (o : List Txt) (s : Txt) : Option (List Txt) :=
  if s == wIf || s == wBegin || s == wDo then some (o ++ [s])
  else if s == wElse then turns o [wIf] (some wElse)
  else if s == wThen then turns o [wIf, wElse] none
  else if s == wUntil || s == wAgain then turns o [wBegin] none
  else if s == wWhile then turns o [wBegin] (some wWhile)
  else if s == wRepeat then turns o [wWhile] none
  else if s == wLoop then turns o [wDo] none
  else if s == wI || s == wLeave then (if o.any (fun b => b == wDo) then some o else none)
  else if s == wRecurse || s == wExit || s == [39] then some o
  else none

/-- The body of a definition, from a word of the line on: what was read, and its end: (error, the word that it is told of, the next word to be read). -/
def reads (m : Mach) (ws : List Txt) : Nat → Nat → List Txt → List Cell → List Cell × Int × Nat × Nat
  | 0, at', _, b => (b, 3, ws.length - 1, at')
  | f + 1, at', o, b =>
    match ws[at']? with
    | none => (b, 3, ws.length - 1, at')
    | some s =>
      if s == [59] then (if o.isEmpty then (b, 0, 0, at' + 1) else (b, 3, at', at' + 1))
      else if L.isBold s = false then
        (match meaning m s with
         | none => (b, 2, at', at' + 1)
         | some c => if 60 ≤ b.length then (b, 5, at', at' + 1) else reads m ws f (at' + 1) o (b ++ [c]))
      else match stands o s with
        | none => (b, 3, at', at' + 1)
        | some o1 =>
          if s == [39] then
            (let e := nameErr m ws[at' + 1]? false
             if e ≠ 0 then (b, e, at', at' + 2) else
             match newest m ((ws[at' + 1]?).getD []) with
             | none => (b, 2, at', at' + 2)
             | some k => if 60 ≤ b.length then (b, 5, at', at' + 2) else reads m ws f (at' + 2) o1 (b ++ [⟨1, 1000 + k, []⟩]))
          else if 60 ≤ b.length then (b, 5, at', at' + 1) else reads m ws f (at' + 1) o1 (b ++ [⟨4, 0, s⟩])

def fuel : Nat := 1100
/-- A word of the line, with what belongs to it: the machine, the error and its word, the next word. -/
def one (m : Mach) (ws : List Txt) (at' : Nat) (s : Txt) : Mach × Int × Nat × Nat :=
  if s == [58] then
    (let e := nameErr m ws[at' + 1]? true
     if e ≠ 0 then (m, e, at', at' + 2) else
     let p := reads m ws (ws.length + 1) (at' + 2) [] []
     let ent : Ent := ⟨(ws[at' + 1]?).getD [], 1, 0, p.1, p.2.1 == 0, false⟩
     ({ m with all := m.all ++ [ent] }, p.2.1, p.2.2.1, p.2.2.2))
  else if s == [118, 97, 114, 105, 97, 98, 108, 101] || s == [99, 111, 110, 115, 116, 97, 110, 116] || s == [109, 97, 114, 107, 101, 114] then
    (let e := nameErr m ws[at' + 1]? true
     if e ≠ 0 then (m, e, at', at' + 2) else
     let nm := (ws[at' + 1]?).getD []
     if s == [99, 111, 110, 115, 116, 97, 110, 116] then
       (match pop m with
        | none => (m, 6, at', at' + 2)
        | some (m1, n) => ({ m1 with all := m1.all ++ [⟨nm, 3, n, [], true, false⟩] }, 0, 0, at' + 2))
     else ({ m with all := m.all ++ [⟨nm, if s == [109, 97, 114, 107, 101, 114] then 4 else 2, 0, [], true, false⟩] }, 0, 0, at' + 2))
  else if s == [102, 111, 114, 103, 101, 116] || s == [39] then
    (let e := nameErr m ws[at' + 1]? false
     if e ≠ 0 then (m, e, at', at' + 2) else
     match newest m ((ws[at' + 1]?).getD []) with
     | none => (m, 2, at', at' + 2)
     | some k => if s == [39] then (let p := push m (1000 + k); (p.1, p.2, at', at' + 2)) else (forgets m k, 0, 0, at' + 2))
  else if L.isBold s then (m, 3, at', at' + 1)
  else match meaning m s with
    | none => (m, 2, at', at' + 1)
    | some c =>
      if c.kind = 1 then (let p := push m c.n; (p.1, p.2, at', at' + 1))
      else if c.kind = 2 then (let p := owns fuel m c.n.toNat 0; (p.1, p.2, at', at' + 1))
      else (let p := prim m c.name
            match p.2.2 with
            | some j => (let q := owns fuel p.1 j 0; (q.1, q.2, at', at' + 1))
            | none => (p.1, p.2.1, at', at' + 1))

/-- The words of a line from a place on. -/
def runs : Nat → Mach → List Txt → Nat → Mach × Int × Nat
  | 0, m, _, _ => (m, 0, 0)
  | f + 1, m, ws, at' =>
    match ws[at']? with
    | none => (m, 0, 0)
    | some s =>
      let m0 := { m with steps := m.steps + 1 }
      if 1000 < m0.steps then ({ m0 with S := [], R := [] }, 14, at') else
      let p := one m0 ws at' s
      if p.2.1 ≠ 0 then ({ p.1 with S := [], R := [] }, p.2.1, p.2.2.1) else runs f p.1 ws p.2.2.2

/-- A line: the machine behind it; what it tells, the error, its word. -/
def doLine (m : Mach) (text : Txt) : Mach × Txt × Int × Nat :=
  if 500 < text.length then (m, [], 1, 0) else
  let ws := L.split text
  let p := runs (ws.length + 1) { m with out := [], steps := 0 } ws 0
  (p.1, p.1.out, p.2.1, p.2.2)

def words (m : Mach) : List Txt := (m.all.filter there).map (·.name)
def cellTxt (c : Cell) : Txt := if c.kind = 1 then 32 :: Lib.itoa c.n else if c.kind = 2 then 32 :: 35 :: Lib.itoa (1000 + c.n) else 32 :: c.name
def see (m : Mach) (name : Txt) : Txt × Int :=
  match newest m name with
  | none => ([], 2)
  | some k => match m.all[k]? with
    | none => ([], 2)
    | some e =>
      if e.kind = 2 then ([118, 97, 114, 105, 97, 98, 108, 101, 32] ++ Lib.itoa e.n, 0)
      else if e.kind = 3 then ([99, 111, 110, 115, 116, 97, 110, 116, 32] ++ Lib.itoa e.n, 0)
      else if e.kind = 4 then ([109, 97, 114, 107, 101, 114], 0)
      else ([58] ++ (e.body.map cellTxt).flatten, 0)
def new : Mach := ⟨[], [], [], [], 0⟩
end N
end Go.Proofs.YtgnlokmeohffaaaGreatDoor
/- The body of a definition while it is read, in plain terms: what is open, which words wait for its end; AND THAT WHERE A WORD GOES ON IS WHAT LOOKING FOR IT IN THE WHOLE BODY FINDS. -/
namespace Go.Proofs.YtgnlokmeohffaaaGreatDoor
namespace N
open Go.RowKit

/-- A part of a body whose end is not read yet: the word of it that was read last, where it starts, which words wait for its end. -/
structure Part where
  kind : Txt
  start : Nat
  waits : List Nat
/-- What was read: words, each with where it goes on; what is open, the innermost first. -/
structure Draft where
  body : List (Cell × Nat)
  opens : List Part

def goOn (b : List (Cell × Nat)) (p goal : Nat) : List (Cell × Nat) := b.modify p fun c => (c.1, goal)
def goOns (b : List (Cell × Nat)) (ps : List Nat) (goal : Nat) : List (Cell × Nat) := ps.foldl (fun b p => goOn b p goal) b
def shut (d : Draft) : Draft :=
  match d.opens with
  | [] => d
  | o :: t => ⟨goOns d.body o.waits d.body.length, t⟩
def addWait : List Part → Nat → List Part
  | [], _ => []
  | o :: t, p => if o.kind == wDo then { o with waits := o.waits ++ [p] } :: t else o :: addWait t p
def settle (d : Draft) (b : Txt) (p : Nat) : Draft :=
  if b == wIf || b == wDo then ⟨d.body, ⟨b, p, [p]⟩ :: d.opens⟩
  else if b == wBegin then ⟨d.body, ⟨b, p, []⟩ :: d.opens⟩
  else if b == wElse then ⟨(shut d).body, ⟨b, p, [p]⟩ :: (shut d).opens⟩
  else if b == wWhile then (match d.opens with | [] => d | o :: t => ⟨d.body, ⟨b, o.start, [p]⟩ :: t⟩)
  else if b == wLeave then ⟨d.body, addWait d.opens p⟩
  else if b == wUntil || b == wAgain || b == wRepeat || b == wLoop then (match d.opens with | [] => d | o :: t => shut ⟨goOn d.body p (o.start + 1), o :: t⟩)
  else if b == wThen then shut d
  else d
def add (d : Draft) (c : Cell) : Draft :=
  if c.kind = 4 then settle ⟨d.body ++ [(c, 0)], d.opens⟩ c.name d.body.length else ⟨d.body ++ [(c, 0)], d.opens⟩
def cells (d : Draft) : List Cell := d.body.map (·.1)
def kinds (d : Draft) : List Txt := d.opens.reverse.map (·.kind)

/-- Where a word goes on, looked for in the whole body. -/
def opn (b : Txt) : Txt := if b == wIf || b == wElse then wIf else if b == wWhile then wBegin else wDo
def shu (b : Txt) : List Txt := if b == wIf || b == wElse then [wThen] else if b == wWhile then ends else [wLoop]
def wan (b : Txt) : List Txt := if b == wIf then [wElse, wThen] else if b == wElse then [wThen] else if b == wWhile then [wRepeat] else [wLoop]
def fwd (b : Txt) : Bool := b == wIf || b == wElse || b == wWhile || b == wDo || b == wLeave
def bwd (b : Txt) : Bool := b == wUntil || b == wAgain || b == wRepeat || b == wLoop
def goal (l : List Cell) (p : Nat) (b : Txt) : Nat :=
  if fwd b then ahead l p (opn b) (shu b) (wan b) else if b == wLoop then backOf l wDo [wLoop] p 0 else backOf l wBegin ends p 0

/-- The kind of words that open and shut a part. -/
def typ (k : Txt) : Txt := if k == wIf || k == wElse then wIf else if k == wBegin || k == wWhile then wBegin else wDo
def waitOk (k b : Txt) : Bool := (k == wIf && b == wIf) || (k == wElse && b == wElse) || (k == wWhile && b == wWhile) || (k == wDo && (b == wDo || b == wLeave))

abbrev Cnt := Txt → Int
def bump (k : Cnt) (X : Txt) : Cnt := fun Y => if Y = X then k Y + 1 else k Y

/-- A word that waits: looking for its end from it on comes to the end of what was read, so deep. -/
def Waiting (l : List Cell) (k : Cnt) (kind : Txt) (p : Nat) : Prop :=
  ∃ c, l[p]? = some c ∧ c.kind = 4 ∧ waitOk kind c.name = true ∧ ∀ more, aheadOf (opn c.name) (shu c.name) (wan c.name) (l.drop (p + 1) ++ more) (p + 1) 0 = aheadOf (opn c.name) (shu c.name) (wan c.name) more l.length (k (opn c.name))
def Wt (l : List Cell) : Cnt → List Part → Prop
  | _, [] => True
  | k, o :: t => (∀ p ∈ o.waits, Waiting l k o.kind p) ∧ Wt l (bump k (typ o.kind)) t

theorem drop_snoc {α : Type} (l : List α) (c : α) (p : Nat) (h : p < l.length) : (l ++ [c]).drop (p + 1) = l.drop (p + 1) ++ [c] := by
  rw [List.drop_append_of_le_length (by omega)]

theorem waiting_step {l : List Cell} {k k2 : Cnt} {kind : Txt} {p : Nat} (c : Cell)
    (H : ∀ b, fwd b = true → ∀ more n, aheadOf (opn b) (shu b) (wan b) (c :: more) n (k (opn b)) = aheadOf (opn b) (shu b) (wan b) more (n + 1) (k2 (opn b)))
    (h : Waiting l k kind p) : Waiting (l ++ [c]) k2 kind p := by
  obtain ⟨x, h1, h2, h3, h4⟩ := h
  have hp : p < l.length := (List.getElem?_eq_some_iff.1 h1).1
  have hf : fwd x.name = true := by
    unfold waitOk at h3
    unfold fwd
    simp only [Bool.or_eq_true, Bool.and_eq_true] at h3 ⊢
    rcases h3 with ((h3 | h3) | h3) | h3
    · exact .inl (.inl (.inl (.inl h3.2)))
    · exact .inl (.inl (.inl (.inr h3.2)))
    · exact .inl (.inl (.inr h3.2))
    · rcases h3.2 with h | h
      · exact .inl (.inr h)
      · exact .inr h
  refine ⟨x, by rw [List.getElem?_append_left hp]; exact h1, h2, h3, fun more => ?_⟩
  rw [drop_snoc l c p hp, List.append_assoc, h4, List.singleton_append, H _ hf, List.length_append]
  rfl

theorem bump_add (k y : Cnt) (X : Txt) : bump (fun Y => k Y + y Y) X = fun Y => k Y + bump y X Y := by
  funext Y
  unfold bump
  show (if Y = X then k Y + y Y + 1 else k Y + y Y) = k Y + if Y = X then y Y + 1 else y Y
  split <;> omega
theorem bump_nonneg {y : Cnt} (h : ∀ X, 0 ≤ y X) (X : Txt) : ∀ Y, 0 ≤ bump y X Y := fun Y => by
  unfold bump
  have := h Y
  split <;> omega

theorem wt_step {l : List Cell} (c : Cell) (k k2 : Cnt) (H : ∀ b, fwd b = true → ∀ x : Int, 0 ≤ x → ∀ more n, aheadOf (opn b) (shu b) (wan b) (c :: more) n (k (opn b) + x) = aheadOf (opn b) (shu b) (wan b) more (n + 1) (k2 (opn b) + x)) :
    ∀ (t : List Part) (y : Cnt), (∀ X, 0 ≤ y X) → Wt l (fun Y => k Y + y Y) t → Wt (l ++ [c]) (fun Y => k2 Y + y Y) t
  | [], _, _, _ => trivial
  | o :: t, y, hy, h => by
    refine ⟨fun p hp => waiting_step c (fun b hb more n => H b hb _ (hy _) more n) (h.1 p hp), ?_⟩
    have h2 := h.2
    rw [bump_add] at h2 ⊢
    exact wt_step c k k2 H t _ (bump_nonneg hy _) h2

def zero : Cnt := fun _ => 0
theorem wt_step0 {l : List Cell} (c : Cell) (k k2 : Cnt) (H : ∀ b, fwd b = true → ∀ x : Int, 0 ≤ x → ∀ more n, aheadOf (opn b) (shu b) (wan b) (c :: more) n (k (opn b) + x) = aheadOf (opn b) (shu b) (wan b) more (n + 1) (k2 (opn b) + x))
    {t : List Part} (h : Wt l k t) : Wt (l ++ [c]) k2 t := by
  have := wt_step c k k2 H t zero (fun _ => Int.le_refl 0) (by simpa [zero] using h)
  simpa [zero] using this

theorem fwd_cases {b : Txt} (h : fwd b = true) : b = wIf ∨ b = wElse ∨ b = wWhile ∨ b = wDo ∨ b = wLeave := by
  unfold fwd at h
  simp only [Bool.or_eq_true, beq_iff_eq] at h
  rcases h with (((h | h) | h) | h) | h
  · exact .inl h
  · exact .inr (.inl h)
  · exact .inr (.inr (.inl h))
  · exact .inr (.inr (.inr (.inl h)))
  · exact .inr (.inr (.inr (.inr h)))

/-- A word that opens and shuts nothing. -/
def idle (c : Cell) : Prop := c.kind ≠ 4 ∨ c.name = wWhile ∨ c.name = wLeave ∨ c.name = wI ∨ c.name = wExit ∨ c.name = wRecurse

theorem ahead_idle {c : Cell} (h : idle c) (b : Txt) (hb : fwd b = true) (x : Int) (more : List Cell) (n : Nat) : aheadOf (opn b) (shu b) (wan b) (c :: more) n x = aheadOf (opn b) (shu b) (wan b) more (n + 1) x := by
  obtain ⟨ck, cn, nm⟩ := c
  by_cases hk : ck = 4
  · subst hk
    rcases h with h | rfl | rfl | rfl | rfl | rfl
    · exact (h rfl).elim
    all_goals (rcases fwd_cases hb with rfl | rfl | rfl | rfl | rfl <;> (rw [aheadOf]; simp [opn, shu, wan, ends, wIf, wElse, wThen, wBegin, wUntil, wAgain, wWhile, wRepeat, wDo, wLoop, wI, wLeave, wExit, wRecurse]))
  · rw [aheadOf, if_pos hk]

theorem wt_idle {l : List Cell} {c : Cell} (hc : idle c) {k : Cnt} {t : List Part} (h : Wt l k t) : Wt (l ++ [c]) k t :=
  wt_step0 c k k (fun b hb _ _ more n => ahead_idle hc b hb _ more n) h
end N
end Go.Proofs.YtgnlokmeohffaaaGreatDoor
/- Where a word goes on: what a word that opens, turns or shuts a part changes. -/
namespace Go.Proofs.YtgnlokmeohffaaaGreatDoor
namespace N
open Go.RowKit

theorem ahead_open (n0 : Int) {X : Txt} (hX : X = wIf ∨ X = wBegin ∨ X = wDo) (b : Txt) (hb : fwd b = true) (k : Cnt) (x : Int) (more : List Cell) (n : Nat) :
    aheadOf (opn b) (shu b) (wan b) (⟨4, n0, X⟩ :: more) n (k (opn b) + x) = aheadOf (opn b) (shu b) (wan b) more (n + 1) (bump k X (opn b) + x) := by
  rcases hX with rfl | rfl | rfl <;> rcases fwd_cases hb with rfl | rfl | rfl | rfl | rfl <;>
    (rw [aheadOf]; simp [opn, shu, wan, ends, bump, wIf, wElse, wThen, wBegin, wUntil, wAgain, wWhile, wRepeat, wDo, wLoop, wLeave] <;> (congr 1; omega))
theorem wt_open {l : List Cell} {n0 : Int} {X : Txt} (hX : X = wIf ∨ X = wBegin ∨ X = wDo) {k : Cnt} {t : List Part} (h : Wt l k t) : Wt (l ++ [⟨4, n0, X⟩]) (bump k X) t :=
  wt_step0 _ k _ (fun b hb x _ more n => ahead_open n0 hX b hb k x more n) h

/-- The word s shuts parts of X. -/
def shuts (X s : Txt) : Prop := (X = wIf ∧ s = wThen) ∨ (X = wBegin ∧ (s = wUntil ∨ s = wAgain ∨ s = wRepeat)) ∨ (X = wDo ∧ s = wLoop)
theorem ahead_shut (n0 : Int) {X s : Txt} (hX : shuts X s) (b : Txt) (hb : fwd b = true) (k : Cnt) (hk : ∀ Y, 0 ≤ k Y) (x : Int) (hx : 0 ≤ x) (more : List Cell) (n : Nat) :
    aheadOf (opn b) (shu b) (wan b) (⟨4, n0, s⟩ :: more) n (bump k X (opn b) + x) = aheadOf (opn b) (shu b) (wan b) more (n + 1) (k (opn b) + x) := by
  have h1 := hk wIf
  have h2 := hk wBegin
  have h3 := hk wDo
  have e1 : ¬ (k wIf + 1 + x = 0) := by omega
  have e2 : ¬ (k wBegin + 1 + x = 0) := by omega
  have e3 : ¬ (k wDo + 1 + x = 0) := by omega
  have f1 : k wIf + 1 + x - 1 = k wIf + x := by omega
  have f2 : k wBegin + 1 + x - 1 = k wBegin + x := by omega
  have f3 : k wDo + 1 + x - 1 = k wDo + x := by omega
  clear h1 h2 h3 hk
  rcases hX with ⟨rfl, rfl⟩ | ⟨rfl, rfl | rfl | rfl⟩ | ⟨rfl, rfl⟩ <;> rcases fwd_cases hb with rfl | rfl | rfl | rfl | rfl <;>
    (rw [aheadOf]; simp [opn, shu, wan, ends, bump, wIf, wElse, wThen, wBegin, wUntil, wAgain, wWhile, wRepeat, wDo, wLoop, wLeave] at e1 e2 e3 f1 f2 f3 ⊢ <;> simp [e1, e2, e3, f1, f2, f3])
theorem wt_shut {l : List Cell} {n0 : Int} {X s : Txt} (hX : shuts X s) {k : Cnt} (hk : ∀ Y, 0 ≤ k Y) {t : List Part} (h : Wt l (bump k X) t) : Wt (l ++ [⟨4, n0, s⟩]) k t :=
  wt_step0 _ _ k (fun b hb x hx more n => ahead_shut n0 hX b hb k hk x hx more n) h

theorem ahead_else (n0 : Int) (b : Txt) (hb : fwd b = true) (k : Cnt) (hk : 0 ≤ k wIf) (x : Int) (hx : 0 ≤ x) (more : List Cell) (n : Nat) :
    aheadOf (opn b) (shu b) (wan b) (⟨4, n0, wElse⟩ :: more) n (bump k wIf (opn b) + x) = aheadOf (opn b) (shu b) (wan b) more (n + 1) (bump k wIf (opn b) + x) := by
  have e1 : ¬ (k wIf + 1 + x = 0) := by omega
  clear hk
  rcases fwd_cases hb with rfl | rfl | rfl | rfl | rfl <;>
    (rw [aheadOf]; simp [opn, shu, wan, ends, bump, wIf, wElse, wThen, wBegin, wUntil, wAgain, wWhile, wRepeat, wDo, wLoop, wLeave] at e1 ⊢ <;> simp [e1])
theorem wt_else {l : List Cell} {n0 : Int} {k : Cnt} (hk : 0 ≤ k wIf) {t : List Part} (h : Wt l (bump k wIf) t) : Wt (l ++ [⟨4, n0, wElse⟩]) (bump k wIf) t :=
  wt_step0 _ _ _ (fun b hb x hx more n => ahead_else n0 b hb k hk x hx more n) h

/-- The word s is what those wait for that wait in a part of that kind. -/
def wanted (kind s : Txt) : Prop := (kind = wIf ∧ (s = wElse ∨ s = wThen)) ∨ (kind = wElse ∧ s = wThen) ∨ (kind = wWhile ∧ s = wRepeat) ∨ (kind = wDo ∧ s = wLoop)
theorem found {l : List Cell} {n0 : Int} {kind s : Txt} {p : Nat} (hw : wanted kind s) (h : Waiting l zero kind p) :
    ∃ c, l[p]? = some c ∧ c.kind = 4 ∧ fwd c.name = true ∧ ∀ more, ahead (l ++ [⟨4, n0, s⟩] ++ more) p (opn c.name) (shu c.name) (wan c.name) = l.length + 1 := by
  obtain ⟨x, h1, h2, h3, h4⟩ := h
  have hp : p < l.length := (List.getElem?_eq_some_iff.1 h1).1
  have key : fwd x.name = true ∧ ∀ more, aheadOf (opn x.name) (shu x.name) (wan x.name) (⟨4, n0, s⟩ :: more) l.length 0 = l.length + 1 := by
    unfold waitOk at h3
    simp only [Bool.or_eq_true, Bool.and_eq_true, beq_iff_eq] at h3
    clear h4
    rcases h3 with ((⟨rfl, h⟩ | ⟨rfl, h⟩) | ⟨rfl, h⟩) | ⟨rfl, h | h⟩ <;> rw [h] <;> refine ⟨by decide, fun more => ?_⟩ <;> rcases hw with ⟨e, rfl | rfl⟩ | ⟨e, rfl⟩ | ⟨e, rfl⟩ | ⟨e, rfl⟩ <;>
      first
      | exact absurd e (by decide)
      | (rw [aheadOf]; simp [wan, wIf, wElse, wThen, wWhile, wRepeat, wDo, wLoop, wLeave])
  refine ⟨x, h1, h2, key.1, fun more => ?_⟩
  unfold ahead
  rw [List.append_assoc, List.drop_append_of_le_length (by omega), h4]
  exact key.2 more

theorem back_prefix (l m : List Cell) (X : Txt) (sh : List Txt) : ∀ (i : Nat) (d : Int), i ≤ l.length → backOf (l ++ m) X sh i d = backOf l X sh i d
  | 0, _, _ => rfl
  | i + 1, d, h => by
    unfold backOf
    rw [List.getElem?_append_left (by omega)]
    cases l[i]? with
    | none => rfl
    | some c => simp only [back_prefix l m X sh i _ (by omega)]
theorem back_snoc (l : List Cell) (c : Cell) (X : Txt) (sh : List Txt) (d : Int) : backOf (l ++ [c]) X sh (l ++ [c]).length d =
    (if c.kind ≠ 4 then backOf l X sh l.length d else if c.name == X ∧ d = 0 then l.length + 1 else if c.name == X then backOf l X sh l.length (d - 1) else if sh.any (fun b => c.name == b) then backOf l X sh l.length (d + 1) else backOf l X sh l.length d) := by
  rw [List.length_append, List.length_singleton, backOf, List.getElem?_append_right (Nat.le_refl _), Nat.sub_self]
  simp only [List.getElem?_cons_zero, back_prefix l [c] X sh l.length _ (Nat.le_refl _)]

def shutOf (X : Txt) : List Txt := if X == wBegin then ends else [wLoop]
def Bk (l : List Cell) (t : List Part) : Prop := ∀ X, (X = wBegin ∨ X = wDo) → ∀ (d : Nat) (o : Part), (t.filter fun o => typ o.kind == X)[d]? = some o → backOf l X (shutOf X) l.length d = o.start + 1

theorem bk_same {l : List Cell} {t t' : List Part} (c : Cell) (h : Bk l t) (ht : ∀ X, (X = wBegin ∨ X = wDo) → (t'.filter fun o => typ o.kind == X).map (·.start) = (t.filter fun o => typ o.kind == X).map (·.start))
    (hc : ∀ X, (X = wBegin ∨ X = wDo) → c.kind ≠ 4 ∨ ((c.name == X) = false ∧ (shutOf X).any (fun b => c.name == b) = false)) : Bk (l ++ [c]) t' := by
  intro X hX d o ho
  rw [back_snoc]
  have hs : ((t.filter fun o => typ o.kind == X).map (·.start))[d]? = some o.start := by rw [← ht X hX, List.getElem?_map, ho]; rfl
  rw [List.getElem?_map] at hs
  obtain ⟨o', ho', he⟩ := Option.map_eq_some_iff.1 hs
  have := h X hX d o' ho'
  rw [he] at this
  rcases hc X hX with hk | ⟨h1, h2⟩
  · rw [if_pos hk]; exact this
  · rw [h1, h2]
    simp only [Bool.false_eq_true, false_and, if_false]
    split <;> exact this
theorem bk_open {l : List Cell} {t : List Part} (n0 : Int) {X : Txt} (w : List Nat) (hX : X = wIf ∨ X = wBegin ∨ X = wDo) (h : Bk l t) : Bk (l ++ [⟨4, n0, X⟩]) (⟨X, l.length, w⟩ :: t) := by
  intro Y hY d o ho
  have hty : typ X = X := by rcases hX with rfl | rfl | rfl <;> rfl
  rw [back_snoc, if_neg (by simp)]
  rw [List.filter_cons] at ho
  by_cases he : X = Y
  · subst he
    have ht : (typ X == X) = true := by rw [hty]; exact beq_self_eq_true X
    have hx : (X == X) = true := beq_self_eq_true X
    simp only [ht, if_true] at ho
    cases d with
    | zero =>
      simp only [List.getElem?_cons_zero, Option.some.injEq] at ho
      rw [if_pos ⟨hx, rfl⟩, ← ho]
    | succ d =>
      simp only [List.getElem?_cons_succ] at ho
      rw [if_neg (by simp; omega), if_pos hx, show ((d + 1 : Nat) : Int) - 1 = (d : Int) by omega]
      exact h X hY d o ho
  · have ht : (typ X == Y) = false := by rw [hty, beq_eq_false_iff_ne]; exact he
    have hx : (X == Y) = false := by rw [beq_eq_false_iff_ne]; exact he
    have hs : (shutOf Y).any (fun b => X == b) = false := by rcases hX with rfl | rfl | rfl <;> rcases hY with rfl | rfl <;> rfl
    simp only [ht, Bool.false_eq_true, if_false] at ho
    simp only [hx, hs, Bool.false_eq_true, false_and, if_false]
    exact h Y hY d o ho
theorem bk_shut {l : List Cell} {t : List Part} (n0 : Int) {X s : Txt} {o0 : Part} (hX : shuts X s) (ho : typ o0.kind = X) (h : Bk l (o0 :: t)) : Bk (l ++ [⟨4, n0, s⟩]) t := by
  intro Y hY d o ho'
  have hh := h Y hY
  rw [List.filter_cons] at hh
  rw [back_snoc]
  rw [ho] at hh
  rcases hX with ⟨rfl, rfl⟩ | ⟨rfl, rfl | rfl | rfl⟩ | ⟨rfl, rfl⟩ <;> rcases hY with rfl | rfl
  all_goals first
    | (have := hh d o (by simpa [wIf, wBegin, wDo] using ho'); simpa [shutOf, ends, wBegin, wUntil, wAgain, wRepeat, wDo, wLoop, wThen] using this)
    | (have := hh (d + 1) o (by simpa using ho'); simpa [shutOf, ends, wBegin, wUntil, wAgain, wRepeat, wDo, wLoop, wThen] using this)
end N
end Go.Proofs.YtgnlokmeohffaaaGreatDoor
/- A body that was read: where each of its words goes on is what looking for it in the whole body finds. -/
namespace Go.Proofs.YtgnlokmeohffaaaGreatDoor
namespace N
open Go.RowKit

def Settled (d : Draft) : Prop := ∀ p c g, d.body[p]? = some (c, g) → c.kind = 4 → (∃ o ∈ d.opens, p ∈ o.waits) ∨ (∀ more, (fwd c.name || bwd c.name) = true → g = goal (cells d ++ more) p c.name)
structure Good (d : Draft) : Prop where
  wt : Wt (cells d) zero d.opens
  bk : Bk (cells d) d.opens
  se : Settled d

theorem good_nil : Good ⟨[], []⟩ := ⟨trivial, fun _ _ _ _ h => by simp at h, fun _ _ _ h => by simp at h⟩

theorem cells_len (d : Draft) : (cells d).length = d.body.length := by simp [cells]
theorem cells_goOn (b : List (Cell × Nat)) (p g : Nat) : (goOn b p g).map (·.1) = b.map (·.1) := by
  apply List.ext_getElem?
  intro i
  rw [List.getElem?_map, List.getElem?_map, goOn, List.getElem?_modify]
  cases b[i]? with
  | none => rfl
  | some x =>
    show some (if p = i then (x.1, g) else x).1 = some x.1
    split <;> rfl
theorem cells_goOns (ps : List Nat) (g : Nat) : ∀ b : List (Cell × Nat), (goOns b ps g).map (·.1) = b.map (·.1) := by
  induction ps with
  | nil => intro b; rfl
  | cons p t ih => intro b; exact (ih (goOn b p g)).trans (cells_goOn b p g)
theorem goOn_get {b : List (Cell × Nat)} {p g i : Nat} {c : Cell} {g' : Nat} (h : (goOn b p g)[i]? = some (c, g')) : (i = p ∧ g' = g ∧ ∃ g0, b[i]? = some (c, g0)) ∨ (i ≠ p ∧ b[i]? = some (c, g')) := by
  rw [goOn, List.getElem?_modify] at h
  cases hb : b[i]? with
  | none => rw [hb] at h; simp at h
  | some x =>
    rw [hb] at h
    change some (if p = i then (x.1, g) else x) = some (c, g') at h
    injection h with h
    by_cases hp : p = i
    · rw [if_pos hp] at h
      injection h with h1 h2
      exact .inl ⟨hp.symm, h2.symm, x.2, by rw [← h1]⟩
    · rw [if_neg hp] at h
      exact .inr ⟨fun e => hp e.symm, by rw [← h]⟩
theorem goOns_get {g i : Nat} {c : Cell} {g' : Nat} : ∀ (ps : List Nat) {b : List (Cell × Nat)}, (goOns b ps g)[i]? = some (c, g') → (i ∈ ps ∧ g' = g ∧ ∃ g0, b[i]? = some (c, g0)) ∨ (i ∉ ps ∧ b[i]? = some (c, g'))
  | [], _, h => .inr ⟨by simp, h⟩
  | p :: t, b, h => by
    rcases goOns_get t (b := goOn b p g) h with ⟨h1, h2, g0, h3⟩ | ⟨h1, h2⟩
    · rcases goOn_get h3 with ⟨h4, _, g1, h5⟩ | ⟨_, h5⟩
      · exact .inl ⟨List.mem_cons_of_mem _ h1, h2, g1, h5⟩
      · exact .inl ⟨List.mem_cons_of_mem _ h1, h2, g0, h5⟩
    · rcases goOn_get h2 with ⟨h4, h5, g1, h6⟩ | ⟨h4, h5⟩
      · exact .inl ⟨by rw [h4]; exact List.mem_cons_self, h5, g1, h6⟩
      · refine .inr ⟨fun hm => ?_, h5⟩
        rcases List.mem_cons.1 hm with e | e
        · exact h4 e
        · exact h1 e

theorem snoc_get {α : Type} {b : List α} {x y : α} {i : Nat} (h : (b ++ [x])[i]? = some y) : b[i]? = some y ∨ (i = b.length ∧ y = x) := by
  rcases Nat.lt_trichotomy i b.length with hl | he | hg
  · rw [List.getElem?_append_left hl] at h; exact .inl h
  · subst he
    rw [List.getElem?_append_right (Nat.le_refl _), Nat.sub_self] at h
    simp at h
    exact .inr ⟨rfl, h.symm⟩
  · rw [List.getElem?_eq_none (by simp; omega)] at h
    cases h

/-- What was settled stays so. -/
theorem Settled.old {d : Draft} (h : Settled d) (c0 : Cell) {p g : Nat} {c : Cell} (hb : d.body[p]? = some (c, g)) (hk : c.kind = 4) :
    (∃ o ∈ d.opens, p ∈ o.waits) ∨ (∀ more, (fwd c.name || bwd c.name) = true → g = goal (cells d ++ [c0] ++ more) p c.name) := by
  rcases h p c g hb hk with h1 | h1
  · exact .inl h1
  · exact .inr fun more hf => by rw [List.append_assoc]; exact h1 _ hf

theorem cells_snoc (b : List (Cell × Nat)) (t : List Part) (c : Cell) (g : Nat) : cells ⟨b ++ [(c, g)], t⟩ = cells ⟨b, t⟩ ++ [c] := by simp [cells]
theorem cells_opens (b : List (Cell × Nat)) (t t' : List Part) : cells ⟨b, t⟩ = cells ⟨b, t'⟩ := rfl

/-- A word that opens and shuts nothing, and goes on behind itself. -/
theorem good_idle {d : Draft} (h : Good d) {c : Cell} (hc : c.kind ≠ 4 ∨ c.name = wI ∨ c.name = wExit ∨ c.name = wRecurse) : Good ⟨d.body ++ [(c, 0)], d.opens⟩ := by
  have hi : idle c := by
    rcases hc with hc | hc | hc | hc
    · exact .inl hc
    · exact .inr (.inr (.inr (.inl hc)))
    · exact .inr (.inr (.inr (.inr (.inl hc))))
    · exact .inr (.inr (.inr (.inr (.inr hc))))
  refine ⟨?_, ?_, ?_⟩
  · rw [cells_snoc]; exact wt_idle hi h.wt
  · rw [cells_snoc]
    refine bk_same c h.bk (fun _ _ => rfl) fun X hX => ?_
    rcases hc with hc | hc | hc | hc
    · exact .inl hc
    all_goals (refine .inr ?_; rw [hc]; rcases hX with rfl | rfl <;> decide)
  · intro p x g hb hk
    rw [cells_snoc]
    rcases snoc_get hb with h1 | ⟨h1, h2⟩
    · exact h.se.old c h1 hk
    · injection h2 with h2 _
      subst h2
      refine .inr fun more hf => ?_
      rcases hc with hc | hc | hc | hc
      · exact (hc hk).elim
      all_goals (rw [hc] at hf; exact absurd hf (by decide))

theorem waiting_new (l : List Cell) (n0 : Int) (kind b : Txt) (h : waitOk kind b = true) : Waiting (l ++ [⟨4, n0, b⟩]) zero kind l.length := by
  refine ⟨⟨4, n0, b⟩, by rw [List.getElem?_append_right (Nat.le_refl _), Nat.sub_self]; rfl, rfl, h, fun more => ?_⟩
  rw [List.drop_eq_nil_of_le (by simp), List.nil_append, List.length_append]
  rfl

theorem good_open {d : Draft} (h : Good d) (n0 : Int) {X : Txt} (w : List Nat) (hX : (X = wBegin ∧ w = []) ∨ ((X = wIf ∨ X = wDo) ∧ w = [d.body.length])) : Good ⟨d.body ++ [(⟨4, n0, X⟩, 0)], ⟨X, d.body.length, w⟩ :: d.opens⟩ := by
  have hX' : X = wIf ∨ X = wBegin ∨ X = wDo := by rcases hX with ⟨h, _⟩ | ⟨h | h, _⟩ <;> simp [h]
  have ht : typ X = X := by rcases hX' with rfl | rfl | rfl <;> rfl
  refine ⟨⟨fun p hp => ?_, ?_⟩, ?_, ?_⟩
  · rw [cells_snoc]
    rcases hX with ⟨_, rfl⟩ | ⟨hx, rfl⟩
    · simp at hp
    · rw [List.mem_singleton] at hp
      subst hp
      rw [← cells_len]
      exact waiting_new _ _ X X (by rcases hx with rfl | rfl <;> rfl)
  · rw [cells_snoc, ht]; exact wt_open hX' h.wt
  · rw [cells_snoc, ← cells_len]
    exact bk_open n0 w hX' h.bk
  · intro p x g hb hk
    rw [cells_snoc]
    rcases snoc_get hb with h1 | ⟨h1, h2⟩
    · rcases h.se.old ⟨4, n0, X⟩ h1 hk with ⟨o, ho, hp⟩ | h2
      · exact .inl ⟨o, List.mem_cons_of_mem _ ho, hp⟩
      · exact .inr h2
    · injection h2 with h2 _
      subst h2
      rcases hX with ⟨rfl, _⟩ | ⟨_, rfl⟩
      · exact .inr fun more hf => by cases hf
      · exact .inl ⟨_, List.mem_cons_self, by rw [h1]; exact List.mem_singleton.2 rfl⟩

theorem zero_nonneg : ∀ Y, 0 ≤ zero Y := fun _ => Int.le_refl 0

/-- A word that ends a part: those that waited go on behind it. -/
theorem good_shut {b : List (Cell × Nat)} {o : Part} {t : List Part} (h : Good ⟨b, o :: t⟩) (n0 : Int) {X s : Txt} (g0 : Nat) (hX : shuts X s) (ho : typ o.kind = X) (hw : wanted o.kind s ∨ o.waits = [])
    (hg : bwd s = true → ∀ more, g0 = goal (cells ⟨b, o :: t⟩ ++ [⟨4, n0, s⟩] ++ more) b.length s) : Good ⟨goOns (b ++ [(⟨4, n0, s⟩, g0)]) o.waits (b.length + 1), t⟩ := by
  have hcl : cells ⟨goOns (b ++ [(⟨4, n0, s⟩, g0)]) o.waits (b.length + 1), t⟩ = cells ⟨b, o :: t⟩ ++ [⟨4, n0, s⟩] := by
    show (goOns _ _ _).map _ = _
    rw [cells_goOns]; simp [cells]
  refine ⟨?_, ?_, ?_⟩
  · rw [hcl]
    have := h.wt.2
    rw [ho] at this
    exact wt_shut hX zero_nonneg this
  · rw [hcl]; exact bk_shut n0 hX ho h.bk
  · intro p x g hb hk
    rw [hcl]
    have hlen : (cells ⟨b, o :: t⟩).length = b.length := cells_len _
    have hin : ∀ p ∈ o.waits, p < b.length := fun p hp => by
      obtain ⟨c, hc, _⟩ := h.wt.1 p hp
      have := (List.getElem?_eq_some_iff.1 hc).1
      omega
    rcases goOns_get _ hb with ⟨hm, rfl, g1, hb1⟩ | ⟨hm, hb1⟩
    · refine .inr fun more hf => ?_
      rcases hw with hw | hw
      · obtain ⟨c, hc, hc4, hcf, hah⟩ := found (n0 := n0) hw (h.wt.1 p hm)
        have hx : c = x := by
          rcases snoc_get hb1 with h1 | ⟨h1, _⟩
          · have : (cells ⟨b, o :: t⟩)[p]? = some x := by simp [cells, h1]
            rw [hc] at this
            injection this
          · have := hin p hm
            omega
        subst hx
        unfold goal
        rw [if_pos hcf, hah, hlen]
      · rw [hw] at hm; simp at hm
    · rcases snoc_get hb1 with h1 | ⟨h1, h2⟩
      · rcases h.se.old ⟨4, n0, s⟩ h1 hk with ⟨o', ho', hp⟩ | h2
        · rcases List.mem_cons.1 ho' with rfl | ho'
          · exact (hm hp).elim
          · exact .inl ⟨o', ho', hp⟩
        · exact .inr h2
      · injection h2 with h2 h3
        subst h2 h3 h1
        refine .inr fun more hf => ?_
        have hnf : fwd s = false := by rcases hX with ⟨_, rfl⟩ | ⟨_, rfl | rfl | rfl⟩ | ⟨_, rfl⟩ <;> decide
        rw [hnf, Bool.false_or] at hf
        exact hg hf more

theorem good_else {b : List (Cell × Nat)} {o : Part} {t : List Part} (h : Good ⟨b, o :: t⟩) (n0 : Int) (ho : o.kind = wIf) : Good ⟨goOns (b ++ [(⟨4, n0, wElse⟩, 0)]) o.waits (b.length + 1), ⟨wElse, b.length, [b.length]⟩ :: t⟩ := by
  have hcl : cells ⟨goOns (b ++ [(⟨4, n0, wElse⟩, 0)]) o.waits (b.length + 1), ⟨wElse, b.length, [b.length]⟩ :: t⟩ = cells ⟨b, o :: t⟩ ++ [⟨4, n0, wElse⟩] := by
    show (goOns _ _ _).map _ = _
    rw [cells_goOns]; simp [cells]
  have hlen : (cells ⟨b, o :: t⟩).length = b.length := cells_len _
  have hty : typ o.kind = wIf := by rw [ho]; rfl
  refine ⟨?_, ?_, ?_⟩
  · rw [hcl]
    refine ⟨fun p hp => ?_, ?_⟩
    · rw [List.mem_singleton] at hp
      subst hp
      have := waiting_new (cells ⟨b, o :: t⟩) n0 wElse wElse rfl
      rwa [hlen] at this
    · have := h.wt.2
      rw [hty] at this
      exact wt_else (Int.le_refl 0) this
  · rw [hcl]
    refine bk_same _ h.bk (fun X hX => ?_) fun X hX => .inr ?_
    · rw [List.filter_cons, List.filter_cons, hty]
      rcases hX with rfl | rfl <;> rfl
    · rcases hX with rfl | rfl <;> exact ⟨rfl, rfl⟩
  · intro p x g hb hk
    rw [hcl]
    have hin : ∀ p ∈ o.waits, p < b.length := fun p hp => by
      obtain ⟨c, hc, _⟩ := h.wt.1 p hp
      have := (List.getElem?_eq_some_iff.1 hc).1
      omega
    rcases goOns_get _ hb with ⟨hm, rfl, g1, hb1⟩ | ⟨hm, hb1⟩
    · refine .inr fun more hf => ?_
      obtain ⟨c, hc, hc4, hcf, hah⟩ := found (n0 := n0) (s := wElse) (.inl ⟨ho, .inl rfl⟩) (h.wt.1 p hm)
      have hx : c = x := by
        rcases snoc_get hb1 with h1 | ⟨h1, _⟩
        · have : (cells ⟨b, o :: t⟩)[p]? = some x := by simp [cells, h1]
          rw [hc] at this
          injection this
        · have := hin p hm
          omega
      subst hx
      unfold goal
      rw [if_pos hcf, hah, hlen]
    · rcases snoc_get hb1 with h1 | ⟨h1, h2⟩
      · rcases h.se.old ⟨4, n0, wElse⟩ h1 hk with ⟨o', ho', hp⟩ | h2
        · rcases List.mem_cons.1 ho' with rfl | ho'
          · exact (hm hp).elim
          · exact .inl ⟨o', List.mem_cons_of_mem _ ho', hp⟩
        · exact .inr h2
      · exact .inl ⟨_, List.mem_cons_self, by rw [h1]; exact List.mem_singleton.2 rfl⟩

theorem good_while {b : List (Cell × Nat)} {o : Part} {t : List Part} (h : Good ⟨b, o :: t⟩) (n0 : Int) (ho : o.kind = wBegin) : Good ⟨b ++ [(⟨4, n0, wWhile⟩, 0)], ⟨wWhile, o.start, [b.length]⟩ :: t⟩ := by
  have hlen : (cells ⟨b, o :: t⟩).length = b.length := cells_len _
  have hcl : cells ⟨b ++ [(⟨4, n0, wWhile⟩, 0)], ⟨wWhile, o.start, [b.length]⟩ :: t⟩ = cells ⟨b, o :: t⟩ ++ [⟨4, n0, wWhile⟩] := by simp [cells]
  have hty : typ o.kind = wBegin := by rw [ho]; rfl
  have hw0 : ∀ p, p ∉ o.waits := fun p hp => by
    obtain ⟨c, _, _, hc, _⟩ := h.wt.1 p hp
    rw [ho] at hc
    simp [waitOk, wBegin, wIf, wElse, wWhile, wDo] at hc
  refine ⟨?_, ?_, ?_⟩
  · rw [hcl]
    refine ⟨fun p hp => ?_, ?_⟩
    · rw [List.mem_singleton] at hp
      subst hp
      have := waiting_new (cells ⟨b, o :: t⟩) n0 wWhile wWhile rfl
      rwa [hlen] at this
    · have := h.wt.2
      rw [hty] at this
      exact wt_idle (.inr (.inl rfl)) this
  · rw [hcl]
    refine bk_same _ h.bk (fun X hX => ?_) fun X hX => .inr ?_
    · rw [List.filter_cons, List.filter_cons, hty]
      rcases hX with rfl | rfl <;> rfl
    · rcases hX with rfl | rfl <;> exact ⟨rfl, rfl⟩
  · intro p x g hb hk
    rw [hcl]
    rcases snoc_get hb with h1 | ⟨h1, h2⟩
    · rcases h.se.old ⟨4, n0, wWhile⟩ h1 hk with ⟨o', ho', hp⟩ | h2
      · rcases List.mem_cons.1 ho' with rfl | ho'
        · exact (hw0 p hp).elim
        · exact .inl ⟨o', List.mem_cons_of_mem _ ho', hp⟩
      · exact .inr h2
    · exact .inl ⟨_, List.mem_cons_self, by rw [h1]; exact List.mem_singleton.2 rfl⟩

theorem addWait_mem {p q : Nat} : ∀ {t : List Part}, (∃ o ∈ t, p ∈ o.waits) → ∃ o ∈ addWait t q, p ∈ o.waits
  | [], ⟨_, h, _⟩ => by simp at h
  | o :: t, ⟨x, hx, hp⟩ => by
    unfold addWait
    split
    · rcases List.mem_cons.1 hx with rfl | hx
      · exact ⟨_, List.mem_cons_self, List.mem_append_left _ hp⟩
      · exact ⟨x, List.mem_cons_of_mem _ hx, hp⟩
    · rcases List.mem_cons.1 hx with rfl | hx
      · exact ⟨_, List.mem_cons_self, hp⟩
      · obtain ⟨y, hy, hp⟩ := addWait_mem (q := q) ⟨x, hx, hp⟩
        exact ⟨y, List.mem_cons_of_mem _ hy, hp⟩
theorem addWait_new {q : Nat} : ∀ {t : List Part}, (∃ o ∈ t, o.kind = wDo) → ∃ o ∈ addWait t q, q ∈ o.waits
  | [], ⟨_, h, _⟩ => by simp at h
  | o :: t, ⟨x, hx, hp⟩ => by
    unfold addWait
    split
    · exact ⟨_, List.mem_cons_self, List.mem_append_right _ (List.mem_singleton.2 rfl)⟩
    · rename_i hn
      rcases List.mem_cons.1 hx with rfl | hx
      · exact (hn (by rw [hp]; rfl)).elim
      · obtain ⟨y, hy, hp⟩ := addWait_new (q := q) ⟨x, hx, hp⟩
        exact ⟨y, List.mem_cons_of_mem _ hy, hp⟩
theorem addWait_same (q : Nat) (X : Txt) : ∀ t : List Part, ((addWait t q).filter fun o => typ o.kind == X).map (·.start) = (t.filter fun o => typ o.kind == X).map (·.start)
  | [] => rfl
  | o :: t => by
    unfold addWait
    split
    · rw [List.filter_cons, List.filter_cons]
      show List.map _ (if (typ o.kind == X) = true then _ else _) = List.map _ (if (typ o.kind == X) = true then _ else _)
      split <;> rfl
    · rw [List.filter_cons, List.filter_cons]
      split
      · rw [List.map_cons, List.map_cons, addWait_same q X t]
      · exact addWait_same q X t
theorem wt_leave {l : List Cell} (n0 : Int) : ∀ (t : List Part) (k : Cnt), k wDo = 0 → Wt l k t → (∀ o ∈ t, typ o.kind = wDo → o.kind = wDo) → Wt (l ++ [⟨4, n0, wLeave⟩]) k (addWait t l.length)
  | [], _, _, _, _ => trivial
  | o :: t, k, hk, h, hd => by
    unfold addWait
    split
    · rename_i ho
      rw [beq_iff_eq] at ho
      refine ⟨fun p hp => ?_, wt_idle (.inr (.inr (.inl rfl))) h.2⟩
      rcases List.mem_append.1 hp with hp | hp
      · exact waiting_step _ (fun b hb more n => ahead_idle (.inr (.inr (.inl rfl))) b hb _ more n) (h.1 p hp)
      · rw [List.mem_singleton] at hp
        subst hp
        refine ⟨⟨4, n0, wLeave⟩, by rw [List.getElem?_append_right (Nat.le_refl _), Nat.sub_self]; rfl, rfl, by show waitOk o.kind wLeave = true; rw [ho]; rfl, fun more => ?_⟩
        rw [List.drop_eq_nil_of_le (by simp), List.nil_append, List.length_append]
        show aheadOf wDo _ _ _ _ _ = aheadOf wDo _ _ _ _ (k wDo)
        rw [hk]
        rfl
    · rename_i ho
      rw [beq_iff_eq] at ho
      have hn : typ o.kind ≠ wDo := fun e => ho (hd o List.mem_cons_self e)
      refine ⟨fun p hp => waiting_step _ (fun b hb more n => ahead_idle (.inr (.inr (.inl rfl))) b hb _ more n) (h.1 p hp), ?_⟩
      refine wt_leave n0 t _ ?_ h.2 fun o' ho' => hd o' (List.mem_cons_of_mem _ ho')
      unfold bump
      rw [if_neg fun e => hn e.symm]
      exact hk

theorem good_leave {d : Draft} (h : Good d) (n0 : Int) (ho : ∃ o ∈ d.opens, o.kind = wDo) (hd : ∀ o ∈ d.opens, typ o.kind = wDo → o.kind = wDo) : Good ⟨d.body ++ [(⟨4, n0, wLeave⟩, 0)], addWait d.opens d.body.length⟩ := by
  have hlen : (cells d).length = d.body.length := cells_len _
  have hcl : cells ⟨d.body ++ [(⟨4, n0, wLeave⟩, 0)], addWait d.opens d.body.length⟩ = cells d ++ [⟨4, n0, wLeave⟩] := by simp [cells]
  refine ⟨?_, ?_, ?_⟩
  · rw [hcl]
    have := wt_leave n0 d.opens zero rfl h.wt hd
    rwa [hlen] at this
  · rw [hcl]
    refine bk_same _ h.bk (fun X _ => addWait_same _ X _) fun X hX => .inr ?_
    rcases hX with rfl | rfl <;> exact ⟨rfl, rfl⟩
  · intro p x g hb hk
    rw [hcl]
    rcases snoc_get hb with h1 | ⟨h1, h2⟩
    · rcases h.se.old ⟨4, n0, wLeave⟩ h1 hk with h3 | h3
      · exact .inl (addWait_mem h3)
      · exact .inr h3
    · subst h1
      exact .inl (addWait_new ho)
end N
end Go.Proofs.YtgnlokmeohffaaaGreatDoor
/- A word is read into a body: what is open behind it is what 'stands' says, and all goes on where it should. -/
namespace Go.Proofs.YtgnlokmeohffaaaGreatDoor
namespace N
open Go.RowKit

/-- The bold words that may stand in a body. -/
def inner (s : Txt) : Bool := [wRecurse, wIf, wElse, wThen, wBegin, wUntil, wAgain, wWhile, wRepeat, wDo, wLoop, wI, wLeave, wExit].any fun b => s == b
def kindOk (k : Txt) : Prop := k = wIf ∨ k = wElse ∨ k = wBegin ∨ k = wWhile ∨ k = wDo
structure Fine (d : Draft) : Prop where
  good : Good d
  ok : ∀ o ∈ d.opens, kindOk o.kind

theorem fine_nil : Fine ⟨[], []⟩ := ⟨good_nil, fun _ h => by simp at h⟩

theorem kinds_cons (b : List (Cell × Nat)) (o : Part) (t : List Part) : kinds ⟨b, o :: t⟩ = kinds ⟨b, t⟩ ++ [o.kind] := by simp [kinds]
theorem kinds_body (b b' : List (Cell × Nat)) (t : List Part) : kinds ⟨b, t⟩ = kinds ⟨b', t⟩ := rfl

def turnTo (l : List Txt) : Option Txt → List Txt
  | none => l
  | some x => l ++ [x]
theorem goOn_last (c : Cell) (g : Nat) : ∀ b : List (Cell × Nat), goOn (b ++ [(c, 0)]) b.length g = b ++ [(c, g)]
  | [] => rfl
  | x :: b => congrArg (x :: ·) (goOn_last c g b)
theorem turns_some {d : Draft} {of : List Txt} {dest : Option Txt} {o1 : List Txt} (h : turns (kinds d) of dest = some o1) : ∃ o t, d.opens = o :: t ∧ of.any (fun b => o.kind == b) = true ∧ o1 = turnTo (kinds ⟨d.body, t⟩) dest := by
  obtain ⟨b, os⟩ := d
  cases os with
  | nil => simp [turns, kinds] at h
  | cons o t =>
    refine ⟨o, t, rfl, ?_⟩
    unfold turns at h
    rw [kinds_cons, List.getLast?_append, List.getLast?_singleton] at h
    simp only [Option.some_or] at h
    by_cases hc : of.any (fun b => o.kind == b) = true
    · rw [if_pos hc] at h
      injection h with h
      refine ⟨hc, h.symm.trans ?_⟩
      cases dest with
      | none => simp [turnTo]
      | some x => simp [turnTo]
    · rw [if_neg hc] at h
      cases h

theorem addWait_kinds (q : Nat) : ∀ t : List Part, (addWait t q).map (·.kind) = t.map (·.kind)
  | [] => rfl
  | o :: t => by
    unfold addWait
    split
    · rfl
    · rw [List.map_cons, List.map_cons, addWait_kinds q t]

theorem typ_do {k : Txt} (h : kindOk k) (ht : typ k = wDo) : k = wDo := by
  rcases h with rfl | rfl | rfl | rfl | rfl
  all_goals first | rfl | exact absurd ht (by decide)

theorem back_goal {b : List (Cell × Nat)} {o : Part} {t : List Part} (h : Good ⟨b, o :: t⟩) (n0 : Int) {s : Txt} (hb : bwd s = true) (ht : typ o.kind = (if s == wLoop then wDo else wBegin)) :
    ∀ more, o.start + 1 = goal (cells ⟨b, o :: t⟩ ++ [⟨4, n0, s⟩] ++ more) b.length s := by
  intro more
  have hf : fwd s = false := by
    unfold bwd at hb
    simp only [Bool.or_eq_true, beq_iff_eq] at hb
    rcases hb with ((rfl | rfl) | rfl) | rfl <;> rfl
  have hlen : (cells ⟨b, o :: t⟩).length = b.length := cells_len _
  unfold goal
  rw [if_neg (by rw [hf]; exact Bool.false_ne_true), List.append_assoc]
  by_cases hl : (s == wLoop) = true
  · rw [if_pos hl] at ht ⊢
    rw [← hlen, back_prefix _ _ _ _ _ _ (Nat.le_refl _)]
    have := h.bk wDo (.inr rfl) 0 o (by rw [List.filter_cons, if_pos (by rw [ht]; rfl)]; rfl)
    exact this.symm
  · rw [if_neg hl] at ht ⊢
    rw [← hlen, back_prefix _ _ _ _ _ _ (Nat.le_refl _)]
    have := h.bk wBegin (.inl rfl) 0 o (by rw [List.filter_cons, if_pos (by rw [ht]; rfl)]; rfl)
    exact this.symm

/-- A bold word is read. -/
theorem add_bold {d : Draft} (h : Fine d) (s : Txt) (o1 : List Txt) (hs : stands (kinds d) s = some o1) (ht : s ≠ [39]) :
    Fine (add d ⟨4, 0, s⟩) ∧ kinds (add d ⟨4, 0, s⟩) = o1 ∧ cells (add d ⟨4, 0, s⟩) = cells d ++ [⟨4, 0, s⟩] := by
  have hadd : add d ⟨4, 0, s⟩ = settle ⟨d.body ++ [(⟨4, 0, s⟩, 0)], d.opens⟩ s d.body.length := if_pos rfl
  rw [hadd]
  clear hadd
  unfold stands at hs
  by_cases h1 : (s == wIf || s == wBegin || s == wDo) = true
  · rw [if_pos h1] at hs
    injection hs with hs
    subst hs
    simp only [Bool.or_eq_true, beq_iff_eq] at h1
    have hk : ∀ w, kinds ⟨d.body ++ [(⟨4, 0, s⟩, 0)], ⟨s, d.body.length, w⟩ :: d.opens⟩ = kinds d ++ [s] := fun w => by simp [kinds]
    have hc : ∀ w, cells ⟨d.body ++ [(⟨4, 0, s⟩, 0)], ⟨s, d.body.length, w⟩ :: d.opens⟩ = cells d ++ [⟨4, 0, s⟩] := fun w => by simp [cells]
    have hok : ∀ w, ∀ o ∈ (⟨s, d.body.length, w⟩ :: d.opens : List Part), kindOk o.kind := fun w o ho => by
      rcases List.mem_cons.1 ho with rfl | ho
      · rcases h1 with (rfl | rfl) | rfl
        · exact .inl rfl
        · exact .inr (.inr (.inl rfl))
        · exact .inr (.inr (.inr (.inr rfl)))
      · exact h.ok o ho
    rcases h1 with (rfl | rfl) | rfl
    · exact ⟨⟨good_open h.good 0 _ (.inr ⟨.inl rfl, rfl⟩), hok _⟩, hk _, hc _⟩
    · exact ⟨⟨good_open h.good 0 _ (.inl ⟨rfl, rfl⟩), hok _⟩, hk _, hc _⟩
    · exact ⟨⟨good_open h.good 0 _ (.inr ⟨.inr rfl, rfl⟩), hok _⟩, hk _, hc _⟩
  rw [if_neg h1] at hs
  have hsh : ∀ (b : List (Cell × Nat)) (o : Part) (t : List Part) (g0 : Nat) (s : Txt), cells ⟨goOns (b ++ [(⟨4, 0, s⟩, g0)]) o.waits (b.length + 1), t⟩ = cells ⟨b, o :: t⟩ ++ [⟨4, 0, s⟩] := fun b o t g0 s => by
    show (goOns _ _ _).map _ = _
    rw [cells_goOns]; simp [cells]
  -- the goal of the word itself
  have hgo : ∀ (b : List (Cell × Nat)) (c : Cell) (g : Nat), goOn (b ++ [(c, 0)]) b.length g = b ++ [(c, g)] := fun b c g => goOn_last c g b
  have hlen1 : ∀ (b : List (Cell × Nat)) (x : Cell × Nat), (b ++ [x]).length = b.length + 1 := fun b x => by simp
  by_cases h2 : (s == wElse) = true
  · rw [if_pos h2] at hs
    rw [beq_iff_eq] at h2
    subst h2
    obtain ⟨o, t, he, hany, rfl⟩ := turns_some hs
    obtain ⟨b, os⟩ := d
    subst he
    have ho : o.kind = wIf := by simpa using hany
    refine ⟨⟨?_, ?_⟩, ?_, ?_⟩
    · have := good_else h.good 0 ho
      simpa [settle, shut, wElse, wIf, wDo, wBegin] using this
    · intro x hx
      have hx : x ∈ (⟨wElse, b.length, [b.length]⟩ :: t : List Part) := by simpa [settle, shut, wElse, wIf, wDo, wBegin] using hx
      rcases List.mem_cons.1 hx with rfl | hx
      · exact .inr (.inl rfl)
      · exact h.ok x (List.mem_cons_of_mem _ hx)
    · simp [settle, shut, wElse, wIf, wDo, wBegin, kinds, turnTo]
    · have := hsh b o t 0 wElse
      simpa [settle, shut, wElse, wIf, wDo, wBegin, cells] using this
  rw [if_neg h2] at hs
  by_cases h3 : (s == wThen) = true
  · rw [if_pos h3] at hs
    rw [beq_iff_eq] at h3
    subst h3
    obtain ⟨o, t, he, hany, rfl⟩ := turns_some hs
    obtain ⟨b, os⟩ := d
    subst he
    have ho : o.kind = wIf ∨ o.kind = wElse := by simpa using hany
    refine ⟨⟨?_, ?_⟩, ?_, ?_⟩
    · have := good_shut h.good 0 0 (s := wThen) (X := wIf) (.inl ⟨rfl, rfl⟩) (by rcases ho with e | e <;> rw [e] <;> rfl) (.inl (by rcases ho with e | e <;> simp [wanted, e])) (fun e => by cases e)
      simpa [settle, shut, wThen, wElse, wIf, wDo, wBegin, wWhile, wLeave, wUntil, wAgain, wRepeat, wLoop] using this
    · intro x hx
      have hx : x ∈ t := by simpa [settle, shut, wThen, wElse, wIf, wDo, wBegin, wWhile, wLeave, wUntil, wAgain, wRepeat, wLoop] using hx
      exact h.ok x (List.mem_cons_of_mem _ hx)
    · simp [settle, shut, wThen, wElse, wIf, wDo, wBegin, wWhile, wLeave, wUntil, wAgain, wRepeat, wLoop, kinds, turnTo]
    · have := hsh b o t 0 wThen
      simpa [settle, shut, wThen, wElse, wIf, wDo, wBegin, wWhile, wLeave, wUntil, wAgain, wRepeat, wLoop, cells] using this
  rw [if_neg h3] at hs
  -- words that go back
  have back : ∀ (b : List (Cell × Nat)) (o : Part) (t : List Part) (X : Txt), Fine ⟨b, o :: t⟩ → bwd s = true → shuts X s → typ o.kind = X → (wanted o.kind s ∨ o.waits = []) →
      Fine (settle ⟨b ++ [(⟨4, 0, s⟩, 0)], o :: t⟩ s b.length) ∧ kinds (settle ⟨b ++ [(⟨4, 0, s⟩, 0)], o :: t⟩ s b.length) = kinds ⟨b, t⟩ ∧ cells (settle ⟨b ++ [(⟨4, 0, s⟩, 0)], o :: t⟩ s b.length) = cells ⟨b, o :: t⟩ ++ [⟨4, 0, s⟩] := by
    intro b o t X hf hb hX hty hw
    have hset : settle ⟨b ++ [(⟨4, 0, s⟩, 0)], o :: t⟩ s b.length = ⟨goOns (b ++ [(⟨4, 0, s⟩, o.start + 1)]) o.waits (b.length + 1), t⟩ := by
      have e1 : settle ⟨b ++ [(⟨4, 0, s⟩, 0)], o :: t⟩ s b.length = shut ⟨goOn (b ++ [(⟨4, 0, s⟩, 0)]) b.length (o.start + 1), o :: t⟩ := by
        unfold bwd at hb
        simp only [Bool.or_eq_true, beq_iff_eq] at hb
        rcases hb with ((rfl | rfl) | rfl) | rfl <;> rfl
      rw [e1, hgo]
      show (⟨goOns _ o.waits (b ++ [((⟨4, 0, s⟩ : Cell), o.start + 1)]).length, t⟩ : Draft) = _
      rw [hlen1]
    rw [hset]
    refine ⟨⟨good_shut hf.good 0 _ hX hty hw fun _ => back_goal hf.good 0 hb ?_, fun x hx => hf.ok x (List.mem_cons_of_mem _ hx)⟩, rfl, hsh b o t _ s⟩
    rw [hty]
    rcases hX with ⟨rfl, rfl⟩ | ⟨rfl, rfl | rfl | rfl⟩ | ⟨rfl, rfl⟩
    · cases hb
    all_goals rfl
  have begin0 : ∀ (b : List (Cell × Nat)) (o : Part) (t : List Part), Good ⟨b, o :: t⟩ → o.kind = wBegin → o.waits = [] := fun b o t hg hk => by
    refine List.eq_nil_iff_forall_not_mem.2 fun p hp => ?_
    obtain ⟨c, _, _, hc, _⟩ := hg.wt.1 p hp
    rw [hk] at hc
    simp [waitOk, wBegin, wIf, wElse, wWhile, wDo] at hc
  by_cases h4 : (s == wUntil || s == wAgain) = true
  · rw [if_pos h4] at hs
    simp only [Bool.or_eq_true, beq_iff_eq] at h4
    obtain ⟨o, t, he, hany, rfl⟩ := turns_some hs
    obtain ⟨b, os⟩ := d
    subst he
    have ho : o.kind = wBegin := by simpa using hany
    exact back b o t wBegin h (by rcases h4 with rfl | rfl <;> rfl) (.inr (.inl ⟨rfl, by rcases h4 with h4 | h4 <;> simp [h4]⟩)) (by rw [ho]; rfl) (.inr (begin0 b o t h.good ho))
  rw [if_neg h4] at hs
  by_cases h5 : (s == wWhile) = true
  · rw [if_pos h5] at hs
    rw [beq_iff_eq] at h5
    subst h5
    obtain ⟨o, t, he, hany, rfl⟩ := turns_some hs
    obtain ⟨b, os⟩ := d
    subst he
    have ho : o.kind = wBegin := by simpa using hany
    refine ⟨⟨good_while h.good 0 ho, fun x hx => ?_⟩, ?_, ?_⟩
    · rcases List.mem_cons.1 hx with rfl | hx
      · exact .inr (.inr (.inr (.inl rfl)))
      · exact h.ok x (List.mem_cons_of_mem _ hx)
    · simp [settle, wElse, wIf, wDo, wBegin, wWhile, kinds, turnTo]
    · simp [settle, wElse, wIf, wDo, wBegin, wWhile, cells]
  rw [if_neg h5] at hs
  by_cases h6 : (s == wRepeat) = true
  · rw [if_pos h6] at hs
    rw [beq_iff_eq] at h6
    obtain ⟨o, t, he, hany, rfl⟩ := turns_some hs
    obtain ⟨b, os⟩ := d
    subst he
    have ho : o.kind = wWhile := by simpa using hany
    exact back b o t wBegin h (by rw [h6]; rfl) (.inr (.inl ⟨rfl, .inr (.inr h6)⟩)) (by rw [ho]; rfl) (.inl (.inr (.inr (.inl ⟨ho, h6⟩))))
  rw [if_neg h6] at hs
  by_cases h7 : (s == wLoop) = true
  · rw [if_pos h7] at hs
    rw [beq_iff_eq] at h7
    obtain ⟨o, t, he, hany, rfl⟩ := turns_some hs
    obtain ⟨b, os⟩ := d
    subst he
    have ho : o.kind = wDo := by simpa using hany
    exact back b o t wDo h (by rw [h7]; rfl) (.inr (.inr ⟨rfl, h7⟩)) (by rw [ho]; rfl) (.inl (.inr (.inr (.inr ⟨ho, h7⟩))))
  rw [if_neg h7] at hs
  have plain : settle ⟨d.body ++ [(⟨4, 0, s⟩, 0)], d.opens⟩ s d.body.length = ⟨d.body ++ [(⟨4, 0, s⟩, 0)], d.opens⟩ → (s = wI ∨ s = wExit ∨ s = wRecurse) → kinds d = o1 →
      Fine (settle ⟨d.body ++ [(⟨4, 0, s⟩, 0)], d.opens⟩ s d.body.length) ∧ kinds (settle ⟨d.body ++ [(⟨4, 0, s⟩, 0)], d.opens⟩ s d.body.length) = o1 ∧ cells (settle ⟨d.body ++ [(⟨4, 0, s⟩, 0)], d.opens⟩ s d.body.length) = cells d ++ [⟨4, 0, s⟩] := by
    intro he hi hk
    rw [he]
    exact ⟨⟨good_idle h.good (.inr hi), h.ok⟩, hk, by simp [cells]⟩
  by_cases h8 : (s == wI || s == wLeave) = true
  · rw [if_pos h8] at hs
    by_cases hany : (kinds d).any (fun b => b == wDo) = true
    · rw [if_pos hany] at hs
      injection hs with hs
      simp only [Bool.or_eq_true, beq_iff_eq] at h8
      rcases h8 with rfl | rfl
      · exact plain rfl (.inl rfl) hs
      · have hdo : ∃ o ∈ d.opens, o.kind = wDo := by
          rw [List.any_eq_true] at hany
          obtain ⟨x, hx, he⟩ := hany
          unfold kinds at hx
          rw [List.mem_map] at hx
          obtain ⟨o, ho, hk⟩ := hx
          exact ⟨o, List.mem_reverse.1 ho, by rw [hk]; simpa using he⟩
        refine ⟨⟨good_leave h.good 0 hdo fun o ho => typ_do (h.ok o ho), fun x hx => ?_⟩, ?_, ?_⟩
        · have hx : x.kind ∈ (addWait d.opens d.body.length).map (·.kind) := List.mem_map_of_mem hx
          rw [addWait_kinds, List.mem_map] at hx
          obtain ⟨y, hy, he⟩ := hx
          rw [← he]
          exact h.ok y hy
        · rw [← hs]
          show List.map _ (List.reverse (addWait d.opens d.body.length)) = List.map _ (List.reverse d.opens)
          rw [List.map_reverse, List.map_reverse, addWait_kinds]
        · simp [settle, wElse, wIf, wDo, wBegin, wWhile, wLeave, cells]
    · rw [if_neg hany] at hs
      cases hs
  rw [if_neg h8] at hs
  by_cases h9 : (s == wRecurse || s == wExit || s == [39]) = true
  · rw [if_pos h9] at hs
    injection hs with hs
    simp only [Bool.or_eq_true, beq_iff_eq] at h9
    rcases h9 with (rfl | rfl) | rfl
    · exact plain rfl (.inr (.inr rfl)) hs
    · exact plain rfl (.inr (.inl rfl)) hs
    · exact (ht rfl).elim
  · rw [if_neg h9] at hs
    cases hs

/-- Any other word is read. -/
theorem add_plain {d : Draft} (h : Fine d) (c : Cell) (hc : c.kind ≠ 4) : Fine (add d c) ∧ kinds (add d c) = kinds d ∧ cells (add d c) = cells d ++ [c] := by
  have hadd : add d c = ⟨d.body ++ [(c, 0)], d.opens⟩ := if_neg hc
  rw [hadd]
  exact ⟨⟨good_idle h.good (.inl hc), h.ok⟩, rfl, by simp [cells]⟩

/-- A whole body: each word goes on where looking for it in the body finds. -/
theorem goal_whole {d : Draft} (h : Fine d) (ho : d.opens = []) {p g : Nat} {c : Cell} (hb : d.body[p]? = some (c, g)) (hk : c.kind = 4) (hf : (fwd c.name || bwd c.name) = true) : g = goal (cells d) p c.name := by
  rcases h.good.se p c g hb hk with ⟨o, hm, _⟩ | h1
  · rw [ho] at hm; simp at hm
  · have := h1 [] hf
    rwa [List.append_nil] at this
end N
end Go.Proofs.YtgnlokmeohffaaaGreatDoor
