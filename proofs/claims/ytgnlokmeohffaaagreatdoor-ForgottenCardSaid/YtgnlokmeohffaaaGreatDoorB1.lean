/- Parts of the proof: see the last text. -/
import Derived.Lib.ItoaNum
import Derived.WalkKit
import Derived.Deep.AppendLies
import Derived.Below
import Derived.Lib.AppendStr
import Derived.Test.YtgnlokmeohffaaaGreatDoorProg
import Derived.WalkSpells
import Derived.WalkLawsBesides
import Derived.Deep.QuietTactic
import Derived.Deep.RegionHeld3
import Derived.Deep.DrawnRows
import Derived.Deep.RegionLaw
import Derived.BigQuiet
import Derived.Lib.Strings
/- Plain facts on digits and bytes, of no program. -/
namespace Go.Proofs.YtgnlokmeohffaaaGreatDoor
open Go.RowKit

theorem hide {p : Prop} (h : p) : Hid p := h
theorem ret_int {k : IntKind} {a b : Int} (h : a = b) : Ending.returned (.int k a) = .returned (.int k b) := by rw [h]
theorem ret_str {a b : ByteArray} (h : a = b) : Ending.returned (.string a) = .returned (.string b) := by rw [h]
theorem ret_bool {a b : Bool} (h : a = b) : Ending.returned (.bool a) = .returned (.bool b) := by rw [h]
theorem ret_ib {k : IntKind} {a a' : Int} {b b' : Bool} (h : a = a') (h2 : b = b') : Ending.returned (.tuple #[.int k a, .bool b]) = .returned (.tuple #[.int k a', .bool b']) := by rw [h, h2]
theorem unhide {p : Prop} (h : Hid p) : p := h

def digStr (n : Nat) : ByteArray := ⟨(Lib.decDigits n).toArray⟩
def itoaStr (n : Int) : ByteArray := ⟨(Lib.itoa n).toArray⟩

theorem itoaStr_nat (n : Nat) : itoaStr (n : Int) = digStr n := by
  unfold itoaStr digStr Lib.itoa
  rw [if_neg (by omega)]; simp

theorem digit_extract_fin : ∀ i : Fin 10, (({ data := #[48, 49, 50, 51, 52, 53, 54, 55, 56, 57] } : ByteArray).extract i.val (i.val + 1)) = ⟨#[UInt8.ofNat (48 + i.val)]⟩ := by decide +kernel

theorem digit_cons (m : Nat) (s : List UInt8) :
    (({ data := #[48, 49, 50, 51, 52, 53, 54, 55, 56, 57] } : ByteArray).extract (m % 10) (m % 10 + 1) ++ { data := s.toArray }) = ⟨(UInt8.ofNat (48 + m % 10) :: s).toArray⟩ := by
  have h := digit_extract_fin ⟨m % 10, by omega⟩
  simp only at h
  rw [h]
  apply ByteArray.ext
  simp

theorem dec_small {m : Nat} (h : m / 10 = 0) : Lib.decDigits m = [UInt8.ofNat (48 + m % 10)] := by
  rw [Lib.decDigits, dif_pos (by omega), Nat.mod_eq_of_lt (by omega)]
theorem dec_big {m : Nat} (h : m / 10 ≠ 0) : Lib.decDigits m = Lib.decDigits (m / 10) ++ [UInt8.ofNat (48 + m % 10)] := by
  rw [Lib.decDigits, dif_neg (by omega)]

theorem nDigits_le (k u : Nat) (h : u < 10 ^ (k + 1)) : Lib.nDigits u ≤ k + 1 := by
  induction k generalizing u with
  | zero => rw [Lib.nDigits_small (by simpa using h)]; exact Nat.le_refl _
  | succ k ih =>
    by_cases h2 : u < 10
    · rw [Lib.nDigits_small h2]; omega
    · rw [Lib.nDigits_big h2]
      have := ih (u / 10) (by rw [Nat.pow_succ] at h; omega)
      omega
theorem dec_len (n : Nat) (h : (n : Int) ≤ 9223372036854775808) : (Lib.decDigits n).length ≤ 19 := by
  rw [Lib.decDigits_length]
  exact nDigits_le 18 n (by simp only [Nat.reducePow, Nat.reduceAdd]; omega)
theorem digStr_size (n : Nat) : (digStr n).size = (Lib.decDigits n).length := by simp [digStr, ByteArray.size]
theorem minus_cons (l : List UInt8) : (({ data := #[45] } : ByteArray) ++ { data := l.toArray }) = ⟨(45 :: l).toArray⟩ := by
  apply ByteArray.ext
  simp
theorem itoaStr_min : itoaStr (-9223372036854775808) = ⟨#[45, 57, 50, 50, 51, 51, 55, 50, 48, 51, 54, 56, 53, 52, 55, 55, 53, 56, 48, 56]⟩ := by
  unfold itoaStr Lib.itoa
  rw [if_pos (by omega), show (-9223372036854775808 : Int).natAbs = 9223372036854775808 from rfl]
  simp only [dec_big, dec_small, ne_eq, Nat.reduceDiv, Nat.reduceMod, Nat.reduceAdd, Nat.reduceEqDiff, not_false_eq_true]
  rfl
end Go.Proofs.YtgnlokmeohffaaaGreatDoor
/- Rows of memory, of no program: slices that can be read, what an append leaves, and a record of which blocks may have turned. -/
namespace Go.Proofs.YtgnlokmeohffaaaGreatDoor
open Go.RowKit

theorem add_lit (b o j : Nat) : (⟨b, o, none⟩ : Addr).add j = ⟨b, o + j, none⟩ := by unfold Addr.add; split <;> simp_all

/-- A slice value that can be read, and its elements. -/
def Src (w : World) (v : Value) (xs : List Value) : Prop :=
  (v = .slice none 0 0 ∧ xs = []) ∨ ∃ b o c, v = .slice (some ⟨b, o, none⟩) xs.length c ∧ b < w.heap.size ∧ ∀ j u, xs[j]? = some u → w.cell? ⟨b, o + j, none⟩ = some u

theorem Src.nil (w : World) : Src w (.slice none 0 0) [] := .inl ⟨rfl, rfl⟩

theorem Src.len {w : World} {v : Value} {xs : List Value} (h : Src w v xs) : ∃ a c, v = .slice a xs.length c := by
  rcases h with ⟨rfl, rfl⟩ | ⟨b, o, c, rfl, _⟩
  · exact ⟨_, _, rfl⟩
  · exact ⟨_, _, rfl⟩

/-- What is kept: below the heap's old size all blocks but those of T. -/
structure Mv (T : Nat → Prop) (w w' : World) : Prop where
  os : w'.os = w.os
  tape : w'.tape = w.tape
  output : w'.output = w.output
  size : w.heap.size ≤ w'.heap.size
  block : ∀ k, k < w.heap.size → ¬ T k → w'.heap[k]? = w.heap[k]?

/-- The blocks of T' are those of T or new. -/
def Fresh (w : World) (T T' : Nat → Prop) : Prop := ∀ k, T' k → T k ∨ w.heap.size ≤ k

theorem Mv.refl (T : Nat → Prop) (w : World) : Mv T w w := ⟨rfl, rfl, rfl, Nat.le_refl _, fun _ _ _ => rfl⟩
theorem Fresh.refl (T : Nat → Prop) (w : World) : Fresh w T T := fun _ h => .inl h

theorem Mv.trans {T T' : Nat → Prop} {a b c : World} (h : Mv T a b) (hf : Fresh a T T') (k : Mv T' b c) : Mv T a c :=
  ⟨k.os.trans h.os, k.tape.trans h.tape, k.output.trans h.output, Nat.le_trans h.size k.size, fun i hi ht =>
    (k.block i (Nat.lt_of_lt_of_le hi h.size) (fun ht' => Or.elim (hf i ht') ht (fun x => by omega))).trans (h.block i hi ht)⟩

theorem Fresh.trans {T T' T'' : Nat → Prop} {a b : World} (hs : a.heap.size ≤ b.heap.size) (h : Fresh a T T') (k : Fresh b T' T'') : Fresh a T T'' := fun i hi => by
  rcases k i hi with x | x
  · exact h i x
  · exact .inr (by omega)

theorem Mv.below {T : Nat → Prop} {B : Nat} {w w' : World} (h : Mv T w w') (hT : ∀ k, T k → B ≤ k) (hB : B ≤ w.heap.size) : Below B w w' :=
  ⟨h.os, h.tape, h.output, h.size, fun k hk => h.block k (by omega) (fun ht => by have := hT k ht; omega)⟩

theorem Mv.of_below {w w' : World} (h : Below w.heap.size w w') (T : Nat → Prop) : Mv T w w' := ⟨h.os, h.tape, h.output, h.size, fun k hk _ => h.block k hk⟩

theorem Mv.weaken {T T' : Nat → Prop} {w w' : World} (h : Mv T w w') (ht : ∀ k, T k → T' k) : Mv T' w w' := ⟨h.os, h.tape, h.output, h.size, fun k hk hn => h.block k hk (fun x => hn (ht k x))⟩

theorem Mv.drew {T : Nat → Prop} {w w' : World} (h : Mv T w w') : Mv T w w'.drew := ⟨h.os, h.tape, h.output, h.size, h.block⟩

theorem Mv.alloc {T : Nat → Prop} {w w' : World} (h : Mv T w w') (o : Obj) : Mv T w (w'.alloc o) :=
  ⟨h.os, h.tape, h.output, by have := h.size; simp; omega, fun k hk ht => (Below.heap_alloc _ _ _ (by have := h.size; omega)).trans (h.block k hk ht)⟩

theorem Mv.setCell {T : Nat → Prop} {w w' : World} (h : Mv T w w') {p : Addr} (hp : T p.block ∨ w.heap.size ≤ p.block) (u : Value) : Mv T w (w'.setCell p u) :=
  ⟨h.os, h.tape, h.output, by have := h.size; simpa [World.setCell] using this, fun k hk ht => (Below.heap_setCell _ _ _ _ (by rintro rfl; exact Or.elim hp ht (fun x => by omega))).trans (h.block k hk ht)⟩

theorem Mv.grown {T : Nat → Prop} {w w' w'' : World} {row : Option Nat} (h : Mv T w w') (hg : w'.grownBy w'' row) (hr : ∀ k, row = some k → T k ∨ w.heap.size ≤ k) : Mv T w w'' :=
  ⟨hg.os.trans h.os, hg.tape.trans h.tape, hg.output.trans h.output, Nat.le_trans h.size hg.size, fun k hk ht =>
    (hg.block k (Nat.lt_of_lt_of_le hk h.size) (fun e => Or.elim (hr k e.symm) ht (fun x => by omega))).trans (h.block k hk ht)⟩

/-- A slice in a block that hasn't turned reads as it did. -/
theorem Src.kept {w w' : World} {v : Value} {xs : List Value} (h : Src w v xs) (hs : w.heap.size ≤ w'.heap.size) (hk : ∀ b, v.ownBlock = some b → w'.heap[b]? = w.heap[b]?) : Src w' v xs := by
  rcases h with h | ⟨b, o, c, rfl, hb, hc⟩
  · exact .inl h
  · refine .inr ⟨b, o, c, rfl, by omega, fun j u hu => ?_⟩
    rw [World.cell?_of_block (w := w) (hk b rfl)]
    exact hc j u hu

theorem Src.lt {w : World} {v : Value} {xs : List Value} (h : Src w v xs) : ∀ b, v.ownBlock = some b → b < w.heap.size := by
  rcases h with ⟨rfl, _⟩ | ⟨b, o, c, rfl, hb, hc⟩
  · intro b h; simp [Value.ownBlock] at h
  · intro b' h; simp [Value.ownBlock] at h; omega

theorem Src.below {w w' : World} {v : Value} {xs : List Value} (h : Src w v xs) (hb : Below w.heap.size w w') : Src w' v xs :=
  h.kept hb.size fun b e => hb.block b (h.lt b e)

theorem Src.of_owns {w : World} {base e n : Nat} {v : Value} {xs : List Value} (h : w.ownsRow base e 1 v n xs) : Src w v xs := by
  have hl := h.1
  have hc := @World.ownsRow.cells w base e 1 v n xs h
  have hlt := h.lt
  rcases h.2 with ⟨rfl, rfl⟩ | ⟨g, cap, cur, rfl, _⟩
  · exact .inl ⟨rfl, List.length_eq_zero_iff.1 (by omega)⟩
  · refine .inr ⟨g, 0, cap, by rw [hl, Nat.mul_one], (hlt g rfl).2, fun j u hu => ?_⟩
    have := hc rfl j u hu
    rwa [add_lit] at this

/-- append onto a row of the call's own, of whatever can be read (nothing too). -/
theorem run_append_src {P : Program} (w : World) (t ty e : TypeId) (i : TypeInfo) (z : Value) (bytes : Nat) (ht : P.underlying t = some (.slice e)) (hi : P.info? e = some i) (hz : i.zero = some z)
    (hsize : i.size = 1) (hby : i.bytes = bytes) (hzs : z.cells.size = 1)
    (v : Value) (n : Nat) (xs : List Value) (hown : w.ownsRow 0 e 1 v n xs) (x : Value) (news : List Value) (hx : Src w x news) (h1 : ∀ u ∈ news, u.oneCell' = true)
    (h63 : n + news.length ≤ maxLen) (hbytes : (n + news.length) * bytes ≤ 140737488355328) :
    ∃ v' w', (Builtin.append_ #[t, t] ty #[v, x]).run P w = .ok v' w' ∧ w'.ownsRow 0 e 1 v' (n + news.length) (xs ++ news) ∧ w.grownBy w' v.ownBlock ∧
      (v'.ownBlock = v.ownBlock ∨ v'.ownBlock = some w.heap.size) := by
  rcases hx with ⟨rfl, rfl⟩ | ⟨b, o, c, rfl, _, hc⟩
  · refine ⟨v, w, ?_, by simpa using hown, ⟨rfl, rfl, rfl, Nat.le_refl _, fun _ _ _ => rfl⟩, .inl rfl⟩
    rcases hown.2 with ⟨rfl, rfl⟩ | ⟨g, cap, cur, rfl, _, _, hle, _⟩
    · simp [Builtin.append_, run_underlying ht, sizeOf, typeInfo, hi, Builtin.lenOf, Builtin.firstCells]
    · simp [Builtin.append_, run_underlying ht, sizeOf, typeInfo, hi, Builtin.lenOf, Builtin.firstCells, hle, storeCells]
  · obtain ⟨v', w', hr, h2, h3, _, h5⟩ := run_append_own_at (P := P) w 0 t ty e i z 1 bytes ht hi hz hsize hby hzs (by omega) v n xs hown ⟨b, o, none⟩ news.length c news (by omega) (fun j u hu => by rw [add_lit]; exact hc j u hu) h1 h63 hbytes (Nat.zero_le _)
    exact ⟨v', w', hr, h2, h3, h5⟩

theorem src_at {w : World} {g : Nat} {cs : Array Value} {t : TypeId} {c : Nat} {fr : Nat × Nat} (h : w.heap[g]? = some (.cells cs t fr)) : Src w (.slice (some ⟨g, 0, none⟩) cs.size c) cs.toList := by
  refine .inr ⟨g, 0, c, by simp, (Array.getElem?_eq_some_iff.1 h).1, fun j u hu => ?_⟩
  rw [Nat.zero_add, cell_of_row w g j cs t fr h]
  simpa using hu

theorem src_of {w : World} {g : Nat} (xs : List Value) (t : TypeId) {n c : Nat} (hn : xs.length = n) (h : w.heap[g]? = some (.cells xs.toArray t (0, 0))) : Src w (.slice (some ⟨g, 0, none⟩) n c) xs := by
  have := src_at (c := c) h
  simpa [hn] using this

theorem heap_two (w : World) (a b : Obj) : ((w.alloc a).alloc b).heap[w.heap.size + 1]? = some b := by
  have := heap_alloc_new (w.alloc a) b
  simpa using this
theorem heap_three (w : World) (a b c : Obj) : (((w.alloc a).alloc b).alloc c).heap[w.heap.size + 1 + 1]? = some c := by
  have := heap_alloc_new ((w.alloc a).alloc b) c
  simpa using this
theorem heap_three_mid (w : World) (a b c : Obj) : (((w.alloc a).alloc b).alloc c).heap[w.heap.size + 1]? = some b := by
  rw [Below.heap_alloc _ _ _ (by simp), heap_two]

theorem cell_alloc {w : World} {a : Addr} {v : Value} (h : w.cell? a = some v) (o : Obj) : (w.alloc o).cell? a = some v := (World.grownBy_alloc w o none).cell h (by simp)
theorem block_lt {w : World} {b o : Nat} {v : Value} (h : w.cell? ⟨b, o, none⟩ = some v) : b < w.heap.size := World.block_lt_of_cell? w _ h

/-- An effect (what is laid, what is laid aside, what is told) that lies in blocks from B on. -/
def EffAt (B : Nat) (w : World) (v : Value) (lays aside : List Int) (tells : List UInt8) : Prop :=
  ∃ vL vA, v = .agg #[vL, vA, .string ⟨tells.toArray⟩] ∧ Src w vL (lays.map (Value.int .i64)) ∧ Src w vA (aside.map (Value.int .i64)) ∧ (∀ k, vL.ownBlock = some k → B ≤ k) ∧ (∀ k, vA.ownBlock = some k → B ≤ k)

theorem own_none : ∀ {B : Nat} (k : Nat), Value.ownBlock (.slice none 0 0) = some k → B ≤ k := fun k h => by simp [Value.ownBlock] at h
theorem own_at {B g o n c : Nat} (h : B ≤ g) : ∀ k, Value.ownBlock (.slice (some ⟨g, o, none⟩) n c) = some k → B ≤ k := fun k e => by simp [Value.ownBlock] at e; omega

theorem src_new (w : World) (xs : List Value) (t : TypeId) {n c g : Nat} (hn : xs.length = n) (hg : w.heap.size = g) : Src (w.alloc (.cells xs.toArray t)) (.slice (some ⟨g, 0, none⟩) n c) xs :=
  src_of xs t hn (by subst hg; exact heap_alloc_new w _)

theorem Src.drew {w : World} {v : Value} {xs : List Value} (h : Src w v xs) : Src w.drew v xs := h
theorem Src.setCell {w : World} {v : Value} {xs : List Value} (h : Src w v xs) {B : Nat} (hB : ∀ k, v.ownBlock = some k → B ≤ k) {p : Addr} (hp : p.block < B) (u : Value) : Src (w.setCell p u) v xs :=
  h.kept (by simp [World.setCell]) fun b e => Below.heap_setCell _ _ _ _ (by have := hB b e; omega)
theorem Src.alloc {w : World} {v : Value} {xs : List Value} (h : Src w v xs) (o : Obj) : Src (w.alloc o) v xs :=
  h.kept (by simp) fun b e => Below.heap_alloc _ _ _ (h.lt b e)

theorem bcell {W w1 : World} (hb : Below W.heap.size W w1) : (∀ b o, b < W.heap.size → w1.cell? ⟨b, o, none⟩ = W.cell? ⟨b, o, none⟩) ∧ (∀ b o, b < W.heap.size → w1.frozen? ⟨b, o, none⟩ = W.frozen? ⟨b, o, none⟩) :=
  ⟨fun b o h => hb.cell (p := ⟨b, o, none⟩) h, fun b o h => hb.frozen (p := ⟨b, o, none⟩) h⟩
end Go.Proofs.YtgnlokmeohffaaaGreatDoor
/- append, of no program: onto a row of the call's own, of whatever can be read or of a string's bytes; and where the new row lies: at the operation, in a list of operations, and at a step of a region that draws its order. -/
namespace Go.Proofs.YtgnlokmeohffaaaGreatDoor
open Go.RowKit

theorem owns_slice {w : World} {base e n : Nat} {v : Value} {xs : List Value} (h : w.ownsRow base e 1 v n xs) : ∃ a cap, v = .slice a n cap ∧ n ≤ cap ∧ (a = none → n = 0 ∧ cap = 0) := by
  rcases h.2 with ⟨rfl, rfl⟩ | ⟨g, cap, cur, rfl, _, _, hle, _⟩
  · exact ⟨_, _, rfl, Nat.le_refl _, fun _ => ⟨rfl, rfl⟩⟩
  · exact ⟨_, _, rfl, hle, fun h => by cases h⟩

/-- The first k of a row. -/
theorem owns_take {w : World} {base e n cap : Nat} {a : Option Addr} {xs : List Value} (h : w.ownsRow base e 1 (.slice a n cap) n xs) (k : Nat) (hk : k ≤ n) : w.ownsRow base e 1 (.slice a k cap) k (xs.take k) := by
  have hl := h.1
  refine ⟨by rw [List.length_take]; omega, ?_⟩
  rcases h.2 with ⟨h1, h2⟩ | ⟨g, cap', cur, h1, hb, hg, hle, hm, hs, ht⟩
  · injection h1 with h3 h4 h5
    exact .inl ⟨by rw [h3, h5, show k = 0 by omega], by omega⟩
  · injection h1 with h3 h4 h5
    subst h5
    refine .inr ⟨g, cap, cur, by rw [h3], hb, hg, by omega, hm, hs, ?_⟩
    rw [← ht, List.take_take, Nat.mul_one, Nat.mul_one, Nat.min_eq_left hk]

theorem run_append_str {P : Program} (w : World) (t u ty e : TypeId) (i : TypeInfo) (ht : P.underlying t = some (.slice e)) (hu : P.underlying u = some .string) (hi : P.info? e = some i) (hz : i.zero = some (.int .u8 0))
    (hsize : i.size = 1) (hby : i.bytes = 1) (v : Value) (n : Nat) (xs : List Value) (hown : w.ownsRow 0 e 1 v n xs) (s : ByteArray)
    (h63 : n + s.size ≤ maxLen) (hbytes : n + s.size ≤ 140737488355328) :
    ∃ v' w', (Builtin.append_ #[t, u] ty #[v, .string s]).run P w = .ok v' w' ∧ w'.ownsRow 0 e 1 v' (n + s.size) (xs ++ Lib.strCells s) ∧ w.grownBy w' v.ownBlock ∧
      (v'.ownBlock = v.ownBlock ∨ v'.ownBlock = some w.heap.size) := by
  obtain ⟨v', w', hr, h2, h3, h4⟩ := Lib.run_append_own_string (P := P) w 0 t u ty e i ht hu hi hz hsize hby v n xs hown s h63 hbytes (Nat.zero_le _)
  refine ⟨v', w', hr, h2, h3, ?_⟩
  have hsmall : n + s.size ≤ 9223372036854775807 := by simp only [maxLen] at h63; omega
  rcases hown.2 with ⟨rfl, rfl⟩ | ⟨g, cap, cur, rfl, _, hg, hle, hm, hs, ht'⟩
  · by_cases hm : s.size = 0
    · rw [h4.2 ⟨rfl, hm⟩]; exact .inl rfl
    · have hr2 := run_append_nil_string (P := P) w t u ty e i (.int .u8 0) ht hu hi hz s (by omega) (by omega) (by rw [hby]; omega)
      rw [hr] at hr2
      injection hr2 with h5 _
      rw [h5]; exact .inr rfl
  · by_cases hroom : n + s.size ≤ cap
    · have hr2 := Lib.run_append_room_string (P := P) w t u ty e i ht hu hi hsize g n cap cur hg s hroom (by omega)
      rw [hr] at hr2
      injection hr2 with h5 _
      rw [h5]; exact .inl rfl
    · have holds : ∀ j u, xs[j]? = some u → w.cell? ((⟨g, 0, none⟩ : Addr).add j) = some u := hown.cells (g := g) rfl
      have hr2 := Lib.run_append_grow_string (P := P) w t u ty e i (.int .u8 0) ht hu hi hz ⟨g, 0, none⟩ n cap xs (by rw [hsize]; exact hown.1) holds s (by omega) (by omega) (by rw [hby]; exact growslice_fits (by omega) (by omega))
      rw [hr] at hr2
      injection hr2 with h5 _
      rw [h5]; exact .inr rfl

section
variable {P : Program} (w : World)

theorem wp_append_src {o : Oper} {a : Act} {K : Act → World → Prop} {Q : Exit → Act → World → Prop} (s x : Operand) (t : TypeId)
    (ho : o.op = .call { callee := .builtin .append, args := #[s, x], argTypes := #[t, t] })
    (e : TypeId) (i : TypeInfo) (z : Value) (bytes : Nat) (ht : P.underlying t = some (.slice e)) (hi : P.info? e = some i) (hz : i.zero = some z)
    (hsize : i.size = 1) (hby : i.bytes = bytes) (hzs : z.cells.size = 1)
    (v : Value) (n : Nat) (xs : List Value) (hs : a.eval s = v) (hown : w.ownsRow 0 e 1 v n xs)
    (vx : Value) (news : List Value) (hx : a.eval x = vx) (hsrc : Src w vx news) (h1 : ∀ u ∈ news, u.oneCell' = true)
    (h63 : n + news.length ≤ maxLen) (hbytes : (n + news.length) * bytes ≤ 140737488355328)
    (h : ∀ a' cap' w', w'.ownsRow 0 e 1 (.slice a' (n + news.length) cap') (n + news.length) (xs ++ news) → w.grownBy w' v.ownBlock → ((Value.slice a' (n + news.length) cap').ownBlock = v.ownBlock ∨ (Value.slice a' (n + news.length) cap').ownBlock = some w.heap.size) → K (a.put o.dst (.slice a' (n + news.length) cap')) w') : o.wp P a w K Q := by
  obtain ⟨v', w', hr, h2, h3, h4⟩ := run_append_src (P := P) w t o.type e i z bytes ht hi hz hsize hby hzs v n xs hown vx news hsrc h1 h63 hbytes
  obtain ⟨a', cap', rfl, _, _⟩ := owns_slice h2
  unfold Oper.wp execOp
  simp only [ho, resolve, invoke, builtin, Sem.run_bind, Sem.run_pure, Result.andThen_ok, List.map_toArray, List.map_cons, List.map_nil, hs, hx, hr]
  exact h a' cap' w' h2 h3 h4

theorem step_append_src {ops : Array Oper} {o : Oper} {a : Act} {K : Act → World → Prop} {Q : Exit → Act → World → Prop} {E : Prop} (hgd : o.guard = none) (s x : Operand) (t : TypeId)
    (ho : o.op = .call { callee := .builtin .append, args := #[s, x], argTypes := #[t, t] })
    (e : TypeId) (i : TypeInfo) (z : Value) (bytes : Nat) (ht : P.underlying t = some (.slice e)) (hi : P.info? e = some i) (hz : i.zero = some z)
    (hsize : i.size = 1) (hby : i.bytes = bytes) (hzs : z.cells.size = 1)
    (v : Value) (n : Nat) (xs : List Value) (hs : a.eval s = v) (hown : w.ownsRow 0 e 1 v n xs)
    (vx : Value) (news : List Value) (hx : a.eval x = vx) (hsrc : Src w vx news) (h1 : ∀ u ∈ news, u.oneCell' = true)
    (h63 : n + news.length ≤ maxLen) (hbytes : (n + news.length) * bytes ≤ 140737488355328)
    (h : ∀ a' cap' w', w'.ownsRow 0 e 1 (.slice a' (n + news.length) cap') (n + news.length) (xs ++ news) → w.grownBy w' v.ownBlock → ((Value.slice a' (n + news.length) cap').ownBlock = v.ownBlock ∨ (Value.slice a' (n + news.length) cap').ownBlock = some w.heap.size) → K (a.put o.dst (.slice a' (n + news.length) cap')) w') :
    if Region.wanted o (yielded ops a.tmps) = true then Oper.wp P o a w K Q else E := by
  have hw : Region.wanted o (yielded ops a.tmps) = true := by simp [Region.wanted, hgd]
  rw [if_pos hw]
  exact wp_append_src w s x t ho e i z bytes ht hi hz hsize hby hzs v n xs hs hown vx news hx hsrc h1 h63 hbytes h

/-- At the list of a plain region's operations. -/
theorem wpList_append_src {ops : Array Oper} {rest : List Oper} {o : Oper} {a : Act} {Q : Exit → Act → World → Prop} (hgd : o.guard = none) (s x : Operand) (t : TypeId)
    (ho : o.op = .call { callee := .builtin .append, args := #[s, x], argTypes := #[t, t] })
    (e : TypeId) (i : TypeInfo) (z : Value) (bytes : Nat) (ht : P.underlying t = some (.slice e)) (hi : P.info? e = some i) (hz : i.zero = some z)
    (hsize : i.size = 1) (hby : i.bytes = bytes) (hzs : z.cells.size = 1)
    (v : Value) (n : Nat) (xs : List Value) (hs : a.eval s = v) (hown : w.ownsRow 0 e 1 v n xs)
    (vx : Value) (news : List Value) (hx : a.eval x = vx) (hsrc : Src w vx news) (h1 : ∀ u ∈ news, u.oneCell' = true)
    (h63 : n + news.length ≤ maxLen) (hbytes : (n + news.length) * bytes ≤ 140737488355328)
    (h : ∀ a' cap' w', w'.ownsRow 0 e 1 (.slice a' (n + news.length) cap') (n + news.length) (xs ++ news) → w.grownBy w' v.ownBlock → ((Value.slice a' (n + news.length) cap').ownBlock = v.ownBlock ∨ (Value.slice a' (n + news.length) cap').ownBlock = some w.heap.size) → wpList P ops Q rest (a.put o.dst (.slice a' (n + news.length) cap')) w') : wpList P ops Q (o :: rest) a w :=
  wpList_plain hgd fun _ hK => wp_append_src w s x t ho e i z bytes ht hi hz hsize hby hzs v n xs hs hown vx news hx hsrc h1 h63 hbytes fun a' cap' w' h2 h3 h4 => hK _ _ (h a' cap' w' h2 h3 h4)

theorem wp_append_str {o : Oper} {a : Act} {K : Act → World → Prop} {Q : Exit → Act → World → Prop} (sl x : Operand) (t u : TypeId)
    (ho : o.op = .call { callee := .builtin .append, args := #[sl, x], argTypes := #[t, u] })
    (e : TypeId) (i : TypeInfo) (ht : P.underlying t = some (.slice e)) (hu : P.underlying u = some .string) (hi : P.info? e = some i) (hz : i.zero = some (.int .u8 0))
    (hsize : i.size = 1) (hby : i.bytes = 1)
    (v : Value) (n : Nat) (xs : List Value) (hs : a.eval sl = v) (hown : w.ownsRow 0 e 1 v n xs) (s : ByteArray) (hx : a.eval x = .string s)
    (h63 : n + s.size ≤ maxLen) (hbytes : n + s.size ≤ 140737488355328)
    (h : ∀ a' cap' w', w'.ownsRow 0 e 1 (.slice a' (n + s.size) cap') (n + s.size) (xs ++ Lib.strCells s) → w.grownBy w' v.ownBlock → ((Value.slice a' (n + s.size) cap').ownBlock = v.ownBlock ∨ (Value.slice a' (n + s.size) cap').ownBlock = some w.heap.size) → K (a.put o.dst (.slice a' (n + s.size) cap')) w') : o.wp P a w K Q := by
  obtain ⟨v', w', hr, h2, h3, h4⟩ := run_append_str (P := P) w t u o.type e i ht hu hi hz hsize hby v n xs hown s h63 hbytes
  obtain ⟨a', cap', rfl, _, _⟩ := owns_slice h2
  unfold Oper.wp execOp
  simp only [ho, resolve, invoke, builtin, Sem.run_bind, Sem.run_pure, Result.andThen_ok, List.map_toArray, List.map_cons, List.map_nil, hs, hx, hr]
  exact h a' cap' w' h2 h3 h4

theorem step_append_str {ops : Array Oper} {o : Oper} {a : Act} {K : Act → World → Prop} {Q : Exit → Act → World → Prop} {E : Prop} (hgd : o.guard = none) (sl x : Operand) (t u : TypeId)
    (ho : o.op = .call { callee := .builtin .append, args := #[sl, x], argTypes := #[t, u] })
    (e : TypeId) (i : TypeInfo) (ht : P.underlying t = some (.slice e)) (hu : P.underlying u = some .string) (hi : P.info? e = some i) (hz : i.zero = some (.int .u8 0))
    (hsize : i.size = 1) (hby : i.bytes = 1)
    (v : Value) (n : Nat) (xs : List Value) (hs : a.eval sl = v) (hown : w.ownsRow 0 e 1 v n xs) (s : ByteArray) (hx : a.eval x = .string s)
    (h63 : n + s.size ≤ maxLen) (hbytes : n + s.size ≤ 140737488355328)
    (h : ∀ a' cap' w', w'.ownsRow 0 e 1 (.slice a' (n + s.size) cap') (n + s.size) (xs ++ Lib.strCells s) → w.grownBy w' v.ownBlock → ((Value.slice a' (n + s.size) cap').ownBlock = v.ownBlock ∨ (Value.slice a' (n + s.size) cap').ownBlock = some w.heap.size) → K (a.put o.dst (.slice a' (n + s.size) cap')) w') :
    if Region.wanted o (yielded ops a.tmps) = true then Oper.wp P o a w K Q else E := by
  have hw : Region.wanted o (yielded ops a.tmps) = true := by simp [Region.wanted, hgd]
  rw [if_pos hw]
  exact wp_append_str w sl x t u ho e i ht hu hi hz hsize hby v n xs hs hown s hx h63 hbytes h
end
end Go.Proofs.YtgnlokmeohffaaaGreatDoor
/- The words of the language in plain terms, of no program: what each takes, and what it does with that. -/
namespace Go.Proofs.YtgnlokmeohffaaaGreatDoor
namespace L

/-- A word of the language: its name; how many it takes from the stack, and from what is aside; its group (0 reckons, 1 moves, 2 tells, 3 reaches). -/
structure Prim where
  name : List UInt8
  takes : Nat
  aside : Nat
  group : Nat

def primTab : List Prim := [⟨[43], 2, 0, 0⟩, ⟨[45], 2, 0, 0⟩, ⟨[42], 2, 0, 0⟩, ⟨[47], 2, 0, 0⟩, ⟨[109, 111, 100], 2, 0, 0⟩, ⟨[61], 2, 0, 0⟩, ⟨[60], 2, 0, 0⟩, ⟨[62], 2, 0, 0⟩, ⟨[97, 110, 100], 2, 0, 0⟩, ⟨[111, 114], 2, 0, 0⟩, ⟨[120, 111, 114], 2, 0, 0⟩,
  ⟨[110, 111, 116], 1, 0, 0⟩, ⟨[100, 117, 112], 1, 0, 1⟩, ⟨[100, 114, 111, 112], 1, 0, 1⟩, ⟨[62, 114], 1, 0, 1⟩, ⟨[115, 119, 97, 112], 2, 0, 1⟩, ⟨[111, 118, 101, 114], 2, 0, 1⟩, ⟨[114, 111, 116], 3, 0, 1⟩, ⟨[114, 62], 0, 1, 1⟩, ⟨[114, 64], 0, 1, 1⟩, ⟨[100, 101, 112, 116, 104], 0, 0, 1⟩,
  ⟨[46], 1, 0, 2⟩, ⟨[101, 109, 105, 116], 1, 0, 2⟩, ⟨[99, 114], 0, 0, 2⟩]
def reachTab : List Prim := [⟨[64], 1, 0, 3⟩, ⟨[101, 120, 101, 99, 117, 116, 101], 1, 0, 3⟩, ⟨[33], 2, 0, 3⟩]
def find (l : List UInt8) : Option Prim := (primTab ++ reachTab).find? fun p => l == p.name
def truth (b : Bool) : Int := if b then -1 else 0
def divOr (y v : Int) : Int := if y = 0 then 0 else v
def zeroErr (y : Int) : Int := if y = 0 then 8 else 0
end L
def primVal (p : L.Prim) : Value := .agg #[.string ⟨p.name.toArray⟩, .int .i64 p.takes, .int .i64 p.aside, .int .i64 p.group]
end Go.Proofs.YtgnlokmeohffaaaGreatDoor
/- What each word of the language does with what it takes, in plain terms, of no program. -/
namespace Go.Proofs.YtgnlokmeohffaaaGreatDoor
namespace L
open Go.RowKit

/-- What a word is about to do in place of what it takes; an error, and then nothing. -/
structure Eff where
  lays : List Int
  aside : List Int
  tells : List UInt8
  err : Int

def planOf (n : List UInt8) (x y z a d : Int) : Eff :=
  if n == [43] then (⟨[wrap64 (x + y)], [], [], 0⟩)
  else if n == [45] then (⟨[wrap64 (x - y)], [], [], 0⟩)
  else if n == [42] then (⟨[wrap64 (x * y)], [], [], 0⟩)
  else if n == [47] then (if y = 0 then ⟨[], [], [], 8⟩ else ⟨[wrap64 (x.tdiv y)], [], [], 0⟩)
  else if n == [109, 111, 100] then (if y = 0 then ⟨[], [], [], 8⟩ else ⟨[x.tmod y], [], [], 0⟩)
  else if n == [61] then (⟨[truth (x == y)], [], [], 0⟩)
  else if n == [60] then (⟨[truth (decide (x < y))], [], [], 0⟩)
  else if n == [62] then (⟨[truth (decide (y < x))], [], [], 0⟩)
  else if n == [97, 110, 100] then (⟨[bits .and .i64 x y], [], [], 0⟩)
  else if n == [111, 114] then (⟨[bits .or .i64 x y], [], [], 0⟩)
  else if n == [120, 111, 114] then (⟨[bits .xor .i64 x y], [], [], 0⟩)
  else if n == [110, 111, 116] then (⟨[truth (x == 0)], [], [], 0⟩)
  else if n == [100, 117, 112] then (⟨[x, x], [], [], 0⟩)
  else if n == [100, 114, 111, 112] then (⟨[], [], [], 0⟩)
  else if n == [62, 114] then (⟨[], [x], [], 0⟩)
  else if n == [115, 119, 97, 112] then (⟨[y, x], [], [], 0⟩)
  else if n == [111, 118, 101, 114] then (⟨[x, y, x], [], [], 0⟩)
  else if n == [114, 111, 116] then (⟨[y, z, x], [], [], 0⟩)
  else if n == [114, 62] then (⟨[a], [], [], 0⟩)
  else if n == [114, 64] then (⟨[a], [a], [], 0⟩)
  else if n == [100, 101, 112, 116, 104] then (⟨[d], [], [], 0⟩)
  else if n == [46] then (⟨[], [], Lib.itoa x ++ [32], 0⟩)
  else if n == [101, 109, 105, 116] then (if x < 32 ∨ 126 < x then ⟨[], [], [], 11⟩ else ⟨[], [], [UInt8.ofNat x.toNat], 0⟩)
  else if n == [99, 114] then (⟨[], [], [10], 0⟩)
  else ⟨[], [], [], 0⟩
def plan (n : List UInt8) (T A : List Int) (d : Int) : Eff := planOf n (T.getD 0 0) (T.getD 1 0) (T.getD 2 0) (A.getD 0 0) d
end L
end Go.Proofs.YtgnlokmeohffaaaGreatDoor
/- A line while it is done, in plain terms, and how it lies in memory: the machine's block, the run's block, the rows of the stacks, of what was told, of the words. -/
namespace Go.Proofs.YtgnlokmeohffaaaGreatDoor
open Go.RowKit

def inI64 (x : Int) : Prop := -9223372036854775808 ≤ x ∧ x ≤ 9223372036854775807

namespace L
structure RunS where
  S : List Int
  R : List Int
  words : List (List UInt8)
  pos : Nat
  steps : Nat
  depth : Nat
  out : List UInt8

/-- An effect happens in place of what is taken, if there is room for it. -/
def commit (s : RunS) (t a : Nat) (e : Eff) : RunS × Int :=
  if 16 < s.S.length - t + e.lays.length ∨ 16 < s.R.length - a + e.aside.length then (s, 7)
  else if 300 < s.out.length + e.tells.length then (s, 12)
  else ({ s with S := s.S.take (s.S.length - t) ++ e.lays, R := s.R.take (s.R.length - a) ++ e.aside, out := s.out ++ e.tells }, 0)
end L

def byteCell (c : UInt8) : Value := .int .u8 c.toNat
def wordCell (l : List UInt8) : Value := .string ⟨l.toArray⟩

/-- A run in memory. vO, vB: the machine's words of one's own and their count; vW: the line's words; vS, vR, vT: the stacks, and what was told. -/
structure RunAt (w : World) (mb rb : Nat) (vO vB vW vS vR vT : Value) (s : L.RunS) : Prop where
  m : w.heap[mb]? = some (.cells #[vS, vR, vO, vB] 60)
  r : w.heap[rb]? = some (.cells #[.pointer (some ⟨mb, 0, none⟩), vW, .int .i64 s.pos, .int .i64 s.steps, .int .i64 s.depth, vT] 67)
  st : w.ownsRow 0 3 1 vS s.S.length (s.S.map (Value.int .i64))
  asd : w.ownsRow 0 3 1 vR s.R.length (s.R.map (Value.int .i64))
  ot : w.ownsRow 0 5 1 vT s.out.length (s.out.map byteCell)
  wd : w.ownsRow 0 9 1 vW s.words.length (s.words.map wordCell)
  ap : ∀ k, vS.ownBlock = some k → vR.ownBlock = some k → False
  sl : s.S.length ≤ 16
  rl : s.R.length ≤ 16
  ol : s.out.length ≤ 300
  wl : s.words.length ≤ 500
  si : ∀ x ∈ s.S, inI64 x
  ri : ∀ x ∈ s.R, inI64 x

/-- The blocks of a run that may turn. -/
def Foot (mb rb : Nat) (vS vR vT : Value) : Nat → Prop := fun k => k = mb ∨ k = rb ∨ vS.ownBlock = some k ∨ vR.ownBlock = some k ∨ vT.ownBlock = some k

/-- A row's block has the row's type. -/
theorem owns_block {w : World} {base e n k : Nat} {v : Value} {xs : List Value} (h : w.ownsRow base e 1 v n xs) (hk : v.ownBlock = some k) : ∃ cur, w.heap[k]? = some (.cells cur e) := by
  rcases h.2 with ⟨rfl, _⟩ | ⟨g, cap, cur, rfl, _, hg, _⟩
  · simp [Value.ownBlock] at hk
  · simp [Value.ownBlock] at hk
    subst hk
    exact ⟨cur, hg⟩

/-- Blocks of different types are different. -/
theorem ne_of_type {w : World} {k g : Nat} {c c' : Array Value} {t t' : TypeId} {f f' : Nat × Nat} (h : w.heap[k]? = some (.cells c t f)) (h' : w.heap[g]? = some (.cells c' t' f')) (ht : t ≠ t') : k ≠ g := by
  rintro rfl
  rw [h] at h'
  injection h' with h1
  injection h1 with _ h2
  exact ht h2

theorem owns_kept {w w' : World} {base e n : Nat} {v : Value} {xs : List Value} (h : w.ownsRow base e 1 v n xs) (hk : ∀ k, v.ownBlock = some k → w'.heap[k]? = w.heap[k]?) : w'.ownsRow base e 1 v n xs := by
  refine ⟨h.1, ?_⟩
  rcases h.2 with h1 | ⟨g, cap, cur, rfl, hb, hg, hr⟩
  · exact .inl h1
  · exact .inr ⟨g, cap, cur, rfl, hb, by rw [hk g rfl]; exact hg, hr⟩

/-- A run whose blocks have not turned is as it was. -/
theorem RunAt.kept {w w' : World} {mb rb : Nat} {vO vB vW vS vR vT : Value} {s : L.RunS} (h : RunAt w mb rb vO vB vW vS vR vT s) (hk : ∀ k, Foot mb rb vS vR vT k ∨ vW.ownBlock = some k → w'.heap[k]? = w.heap[k]?) : RunAt w' mb rb vO vB vW vS vR vT s where
  m := by rw [hk mb (.inl (.inl rfl))]; exact h.m
  r := by rw [hk rb (.inl (.inr (.inl rfl)))]; exact h.r
  st := owns_kept h.st fun k e => hk k (.inl (.inr (.inr (.inl e))))
  asd := owns_kept h.asd fun k e => hk k (.inl (.inr (.inr (.inr (.inl e)))))
  ot := owns_kept h.ot fun k e => hk k (.inl (.inr (.inr (.inr (.inr e)))))
  wd := owns_kept h.wd fun k e => hk k (.inr e)
  ap := h.ap
  sl := h.sl
  rl := h.rl
  ol := h.ol
  wl := h.wl
  si := h.si
  ri := h.ri

theorem heap_lt {w : World} {k : Nat} {o : Obj} (h : w.heap[k]? = some o) : k < w.heap.size := (Array.getElem?_eq_some_iff.1 h).1

theorem RunAt.lt {w : World} {mb rb : Nat} {vO vB vW vS vR vT : Value} {s : L.RunS} (h : RunAt w mb rb vO vB vW vS vR vT s) : ∀ k, Foot mb rb vS vR vT k ∨ vW.ownBlock = some k → k < w.heap.size := by
  rintro k ((rfl | rfl | e | e | e) | e)
  · exact heap_lt h.m
  · exact heap_lt h.r
  · exact (h.st.lt k e).2
  · exact (h.asd.lt k e).2
  · exact (h.ot.lt k e).2
  · exact (h.wd.lt k e).2

theorem RunAt.below {w w' : World} {mb rb : Nat} {vO vB vW vS vR vT : Value} {s : L.RunS} (h : RunAt w mb rb vO vB vW vS vR vT s) (hb : Below w.heap.size w w') : RunAt w' mb rb vO vB vW vS vR vT s :=
  h.kept fun k hk => hb.block k (h.lt k hk)

theorem cell_of_block {w : World} {b j : Nat} {cs : Array Value} {t : TypeId} {v : Value} (h : w.heap[b]? = some (.cells cs t)) (hv : cs[j]? = some v) : w.cell? ⟨b, j, none⟩ = some v := by
  rw [cell_of_row w b j cs t (0, 0) h]; exact hv
theorem frozen_of_block {w : World} {b : Nat} (j : Nat) {cs : Array Value} {t : TypeId} (h : w.heap[b]? = some (.cells cs t)) : w.frozen? ⟨b, j, none⟩ = false := by
  simp [World.frozen?, h]
end Go.Proofs.YtgnlokmeohffaaaGreatDoor
/- What two appends and their stores leave: no walk, no program's run: the run in memory again. -/
namespace Go.Proofs.YtgnlokmeohffaaaGreatDoor
open Go.RowKit

theorem own_slice (a : Option Addr) (n c : Nat) : (Value.slice a n c).ownBlock = a.map (·.block) := by cases a <;> rfl

/-- Two rows were appended to, one behind the other. -/
structure Two (w1 w3 : World) (bS bR : Option Nat) (v1 v2 : Value) (k1 k2 : Nat) (xs ys : List Value) : Prop where
  os : w3.os = w1.os
  tape : w3.tape = w1.tape
  output : w3.output = w1.output
  size : w1.heap.size ≤ w3.heap.size
  block : ∀ k, k < w1.heap.size → some k ≠ bS → some k ≠ bR → w3.heap[k]? = w1.heap[k]?
  o1 : w3.ownsRow 0 3 1 v1 k1 xs
  o2 : w3.ownsRow 0 3 1 v2 k2 ys
  t1 : ∀ k, v1.ownBlock = some k → bS = some k ∨ w1.heap.size ≤ k
  t2 : ∀ k, v2.ownBlock = some k → bR = some k ∨ w1.heap.size ≤ k
  ap : ∀ k, v1.ownBlock = some k → v2.ownBlock = some k → False

theorem Two.symm {w1 w3 : World} {bS bR : Option Nat} {v1 v2 : Value} {k1 k2 : Nat} {xs ys : List Value} (h : Two w1 w3 bS bR v1 v2 k1 k2 xs ys) : Two w1 w3 bR bS v2 v1 k2 k1 ys xs :=
  ⟨h.os, h.tape, h.output, h.size, fun k a b c => h.block k a c b, h.o2, h.o1, h.t2, h.t1, fun k a b => h.ap k b a⟩

theorem two_app {w1 w2 w3 : World} {bS bR : Option Nat} {v1 v2 : Value} {k1 k2 : Nat} {xs ys : List Value} (g1 : w1.grownBy w2 bS) (g2 : w2.grownBy w3 bR) (o1 : w2.ownsRow 0 3 1 v1 k1 xs) (o2 : w3.ownsRow 0 3 1 v2 k2 ys)
    (t1 : v1.ownBlock = bS ∨ v1.ownBlock = some w1.heap.size) (t2 : v2.ownBlock = bR ∨ v2.ownBlock = some w2.heap.size) (hR : ∀ k, bR = some k → k < w1.heap.size) (ap : ∀ k, bS = some k → bR = some k → False) :
    Two w1 w3 bS bR v1 v2 k1 k2 xs ys := by
  have hlt := o1.lt
  have hne : ∀ k, v1.ownBlock = some k → some k ≠ bR := fun k hk e => by
    rcases t1 with t | t
    · exact ap k (t ▸ hk) e.symm
    · have := hR k e.symm
      rw [t] at hk
      injection hk with hk
      omega
  have hs1 := g1.size
  refine ⟨g2.os.trans g1.os, g2.tape.trans g1.tape, g2.output.trans g1.output, Nat.le_trans g1.size g2.size, fun k hk h1 h2 => (g2.block k (by omega) h2).trans (g1.block k hk h1), ?_, o2, ?_, ?_, ?_⟩
  · exact owns_kept o1 fun k hk => g2.block k (hlt k hk).2 (hne k hk)
  · intro k hk
    rcases t1 with t | t
    · exact .inl (t ▸ hk)
    · rw [t] at hk; injection hk with hk; exact .inr (by omega)
  · intro k hk
    rcases t2 with t | t
    · exact .inl (t ▸ hk)
    · rw [t] at hk; injection hk with hk; exact .inr (by omega)
  · intro k hk hk2
    rcases t2 with t | t
    · exact hne k hk (t ▸ hk2).symm
    · rw [t] at hk2
      injection hk2 with hk2
      have := (hlt k hk).2
      omega

theorem set_block {w : World} {b : Nat} {cs : Array Value} {t : TypeId} {fr : Nat × Nat} (h : w.heap[b]? = some (.cells cs t fr)) (j : Nat) (u : Value) : (w.setCell ⟨b, j, none⟩ u).heap[b]? = some (.cells (cs.setIfInBounds j u) t fr) := by
  simp [World.setCell, Array.getElem?_modify, h]

theorem own_ne_of_type {w : World} {base e n k : Nat} {v : Value} {xs : List Value} {c : Array Value} {t : TypeId} {f : Nat × Nat} (h : w.ownsRow base e 1 v n xs) (hk : w.heap[k]? = some (.cells c t f)) (ht : t ≠ e) : v.ownBlock ≠ some k := fun hv => by
  obtain ⟨cur, hc⟩ := owns_block h hv
  exact ne_of_type hk hc ht rfl

/-- A run again, behind the two appends, the stores of their rows, the append of what is told and its store. -/
theorem commit_end {w0 w1 w3 w4 w5 w6 : World} {mb rb : Nat} {vO vB vW vS vR vT v1 v2 v3 : Value} {s : L.RunS} {lays aside : List Int} {tells : List UInt8} {t a : Nat}
    (hrun0 : RunAt w0 mb rb vO vB vW vS vR vT s) (hbel : Below w0.heap.size w0 w1)
    (two : Two w1 w3 vS.ownBlock vR.ownBlock v1 v2 (s.S.length - t + lays.length) (s.R.length - a + aside.length) ((s.S.map (Value.int .i64)).take (s.S.length - t) ++ lays.map (Value.int .i64)) ((s.R.map (Value.int .i64)).take (s.R.length - a) ++ aside.map (Value.int .i64)))
    (h4o : w4.os = w3.os) (h4t : w4.tape = w3.tape) (h4p : w4.output = w3.output) (h4s : w4.heap.size = w3.heap.size) (h4b : ∀ k, k ≠ mb → w4.heap[k]? = w3.heap[k]?) (h4m : w4.heap[mb]? = some (.cells #[v1, v2, vO, vB] 60))
    (g5 : w4.grownBy w5 vT.ownBlock) (o5 : w5.ownsRow 0 5 1 v3 (s.out.length + tells.length) (s.out.map byteCell ++ tells.map byteCell)) (t5 : v3.ownBlock = vT.ownBlock ∨ v3.ownBlock = some w4.heap.size)
    (h6o : w6.os = w5.os) (h6t : w6.tape = w5.tape) (h6p : w6.output = w5.output) (h6s : w6.heap.size = w5.heap.size) (h6b : ∀ k, k ≠ rb → w6.heap[k]? = w5.heap[k]?)
    (h6r : w6.heap[rb]? = some (.cells #[.pointer (some ⟨mb, 0, none⟩), vW, .int .i64 s.pos, .int .i64 s.steps, .int .i64 s.depth, v3] 67))
    (hl1 : s.S.length - t + lays.length ≤ 16) (hl2 : s.R.length - a + aside.length ≤ 16) (hl3 : s.out.length + tells.length ≤ 300) (hi1 : ∀ x ∈ lays, inI64 x) (hi2 : ∀ x ∈ aside, inI64 x) :
    RunAt w6 mb rb vO vB vW v1 v2 v3 { s with S := s.S.take (s.S.length - t) ++ lays, R := s.R.take (s.R.length - a) ++ aside, out := s.out ++ tells } ∧
    Mv (Foot mb rb vS vR vT) w0 w6 ∧ Fresh w0 (Foot mb rb vS vR vT) (Foot mb rb v1 v2 v3) := by
  have hrun1 := hrun0.below hbel
  have hlt1 := hrun1.lt
  have hb1 := hbel.size
  have hs3 := two.size
  -- the blocks that are of other types
  have neSm := own_ne_of_type hrun1.st hrun1.m (by decide)
  have neRm := own_ne_of_type hrun1.asd hrun1.m (by decide)
  have neTm := own_ne_of_type hrun1.ot hrun1.m (by decide)
  have neWm := own_ne_of_type hrun1.wd hrun1.m (by decide)
  have neSr := own_ne_of_type hrun1.st hrun1.r (by decide)
  have neRr := own_ne_of_type hrun1.asd hrun1.r (by decide)
  have neTr := own_ne_of_type hrun1.ot hrun1.r (by decide)
  have neWr := own_ne_of_type hrun1.wd hrun1.r (by decide)
  have nemr : mb ≠ rb := ne_of_type hrun1.m hrun1.r (by decide)
  have ltm := hlt1 mb (.inl (.inl rfl))
  have ltr := hlt1 rb (.inl (.inr (.inl rfl)))
  have neST : ∀ k, vS.ownBlock = some k → vT.ownBlock = some k → False := fun k e1 e2 => by
    obtain ⟨c1, h1⟩ := owns_block hrun1.st e1
    obtain ⟨c2, h2⟩ := owns_block hrun1.ot e2
    exact ne_of_type h1 h2 (by decide) rfl
  have neRT : ∀ k, vR.ownBlock = some k → vT.ownBlock = some k → False := fun k e1 e2 => by
    obtain ⟨c1, h1⟩ := owns_block hrun1.asd e1
    obtain ⟨c2, h2⟩ := owns_block hrun1.ot e2
    exact ne_of_type h1 h2 (by decide) rfl
  have neSW : ∀ k, vS.ownBlock = some k → vW.ownBlock = some k → False := fun k e1 e2 => by
    obtain ⟨c1, h1⟩ := owns_block hrun1.st e1
    obtain ⟨c2, h2⟩ := owns_block hrun1.wd e2
    exact ne_of_type h1 h2 (by decide) rfl
  have neRW : ∀ k, vR.ownBlock = some k → vW.ownBlock = some k → False := fun k e1 e2 => by
    obtain ⟨c1, h1⟩ := owns_block hrun1.asd e1
    obtain ⟨c2, h2⟩ := owns_block hrun1.wd e2
    exact ne_of_type h1 h2 (by decide) rfl
  have neTW : ∀ k, vT.ownBlock = some k → vW.ownBlock = some k → False := fun k e1 e2 => by
    obtain ⟨c1, h1⟩ := owns_block hrun1.ot e1
    obtain ⟨c2, h2⟩ := owns_block hrun1.wd e2
    exact ne_of_type h1 h2 (by decide) rfl
  -- a row that is none of T's, and neither the run's block, is behind all as it was behind the two appends
  have late : ∀ k, k < w3.heap.size → k ≠ mb → k ≠ rb → vT.ownBlock ≠ some k → w6.heap[k]? = w3.heap[k]? := fun k hk h1 h2 h3 =>
    (h6b k h2).trans ((g5.block k (by omega) (fun e => h3 e.symm)).trans (h4b k h1))
  have o1lt := two.o1.lt
  have o2lt := two.o2.lt
  have c1 : ∀ k, v1.ownBlock = some k → k ≠ mb ∧ k ≠ rb ∧ vT.ownBlock ≠ some k := fun k hk => by
    rcases two.t1 k hk with e | e
    · exact ⟨fun h => neSm (h ▸ e), fun h => neSr (h ▸ e), fun h => neST k e h⟩
    · exact ⟨by omega, by omega, fun h => by have := hlt1 k (.inl (.inr (.inr (.inr (.inr h))))); omega⟩
  have c2 : ∀ k, v2.ownBlock = some k → k ≠ mb ∧ k ≠ rb ∧ vT.ownBlock ≠ some k := fun k hk => by
    rcases two.t2 k hk with e | e
    · exact ⟨fun h => neRm (h ▸ e), fun h => neRr (h ▸ e), fun h => neRT k e h⟩
    · exact ⟨by omega, by omega, fun h => by have := hlt1 k (.inl (.inr (.inr (.inr (.inr h))))); omega⟩
  have c3 : ∀ k, v3.ownBlock = some k → k ≠ rb := fun k hk => by
    rcases t5 with e | e
    · rw [e] at hk; exact fun h => neTr (h ▸ hk)
    · rw [e] at hk; injection hk with hk; omega
  refine ⟨⟨?_, h6r, ?_, ?_, ?_, ?_, two.ap, ?_, ?_, ?_, hrun0.wl, ?_, ?_⟩, ⟨?_, ?_, ?_, ?_, ?_⟩, ?_⟩
  · rw [h6b mb nemr, g5.block mb (by omega) (fun e => neTm e.symm)]; exact h4m
  · have := owns_kept two.o1 (w' := w6) fun k hk => late k (o1lt k hk).2 (c1 k hk).1 (c1 k hk).2.1 (c1 k hk).2.2
    simpa [List.map_take] using this
  · have := owns_kept two.o2 (w' := w6) fun k hk => late k (o2lt k hk).2 (c2 k hk).1 (c2 k hk).2.1 (c2 k hk).2.2
    simpa [List.map_take] using this
  · have := owns_kept o5 (w' := w6) fun k hk => h6b k (c3 k hk)
    simpa using this
  · refine owns_kept hrun1.wd fun k hk => ?_
    have hk1 := hlt1 k (.inr hk)
    rw [late k (by omega) (fun h => neWm (h ▸ hk)) (fun h => neWr (h ▸ hk)) (fun h => neTW k h hk), two.block k hk1 (fun e => neSW k e.symm hk) (fun e => neRW k e.symm hk)]
  · simp only [List.length_append, List.length_take]; omega
  · simp only [List.length_append, List.length_take]; omega
  · simp only [List.length_append]; omega
  · intro x hx
    rcases List.mem_append.1 hx with h | h
    · exact hrun0.si x (List.mem_of_mem_take h)
    · exact hi1 x h
  · intro x hx
    rcases List.mem_append.1 hx with h | h
    · exact hrun0.ri x (List.mem_of_mem_take h)
    · exact hi2 x h
  · rw [h6o, g5.os, h4o, two.os, hbel.os]
  · rw [h6t, g5.tape, h4t, two.tape, hbel.tape]
  · rw [h6p, g5.output, h4p, two.output, hbel.output]
  · have := g5.size; omega
  · intro k hk hn
    have n1 : k ≠ mb := fun h => hn (.inl h)
    have n2 : k ≠ rb := fun h => hn (.inr (.inl h))
    have n3 : some k ≠ vS.ownBlock := fun h => hn (.inr (.inr (.inl h.symm)))
    have n4 : some k ≠ vR.ownBlock := fun h => hn (.inr (.inr (.inr (.inl h.symm))))
    have n5 : vT.ownBlock ≠ some k := fun h => hn (.inr (.inr (.inr (.inr h))))
    rw [late k (by omega) n1 n2 n5, two.block k (by omega) n3 n4, hbel.block k hk]
  · rintro k (rfl | rfl | e | e | e)
    · exact .inl (.inl rfl)
    · exact .inl (.inr (.inl rfl))
    · rcases two.t1 k e with h | h
      · exact .inl (.inr (.inr (.inl h)))
      · exact .inr (by omega)
    · rcases two.t2 k e with h | h
      · exact .inl (.inr (.inr (.inr (.inl h))))
      · exact .inr (by omega)
    · rcases t5 with h | h
      · exact .inl (.inr (.inr (.inr (.inr (h ▸ e)))))
      · rw [h] at e; injection e with e; exact .inr (by omega)
end Go.Proofs.YtgnlokmeohffaaaGreatDoor
/- commit lets an effect happen, if there is room for it. -/
namespace Go.Proofs.YtgnlokmeohffaaaGreatDoor
open Go.RowKit
attribute [local go_sem ↓] Go.wp_at_zero Go.wp_at_succ

set_option maxRecDepth 100000 in
set_option maxHeartbeats 800000 in
/-- There is no room: nothing happens. -/
theorem commit_none (w : World) (mb rb : Nat) (n m q t a p1 p2 capS capR capT c1 c2 : Nat) (aS aR aT l1 l2 : Option Addr) (tells : ByteArray) (err : Int)
    (hr0 : ∀ o, (w.alloc o).cell? ⟨rb, 0, none⟩ = some (.pointer (some ⟨mb, 0, none⟩))) (hr5 : ∀ o, (w.alloc o).cell? ⟨rb, 5, none⟩ = some (.slice aT q capT))
    (hm0 : ∀ o, (w.alloc o).cell? ⟨mb, 0, none⟩ = some (.slice aS n capS)) (hm1 : ∀ o, (w.alloc o).cell? ⟨mb, 1, none⟩ = some (.slice aR m capR))
    (hn : n ≤ 16) (hm : m ≤ 16) (hq : q ≤ 300) (ht : t ≤ n) (ha : a ≤ m) (hcS : n ≤ capS) (hcR : m ≤ capR) (hp1 : p1 ≤ 3) (hp2 : p2 ≤ 3) (hts : tells.size ≤ 100)
    (H : Hid (((16 < n - t + p1 ∨ 16 < m - a + p2) → err = 7) ∧ ((n - t + p1 ≤ 16 ∧ m - a + p2 ≤ 16) → err = 12 ∧ 300 < q + tells.size))) :
    Calls Tryz.prog 83 #[.pointer (some ⟨rb, 0, none⟩), .int .i64 t, .int .i64 a, .agg #[.slice l1 p1 c1, .slice l2 p2 c2, .string tells]] w fun e w' => e = .returned (.int .i64 err) ∧ Below w.heap.size w w' := by
  have i0 : IntKind.i64.wrap ((n : Int) - (t : Int)) = (n : Int) - (t : Int) := by rw [IntKind.wrap_i64]; omega
  have i9 : IntKind.i64.wrap ((m : Int) - (a : Int)) = (m : Int) - (a : Int) := by rw [IntKind.wrap_i64]; omega
  have i8 : IntKind.i64.wrap ((q : Int) + (tells.size : Int)) = (q : Int) + (tells.size : Int) := by rw [IntKind.wrap_i64]; omega
  have i1 : (0 : Int) ≤ (n : Int) - (t : Int) := by omega
  have i2 : (n : Int) - (t : Int) ≤ (capS : Int) := by omega
  have i3 : (0 : Int) ≤ (m : Int) - (a : Int) := by omega
  have i4 : (m : Int) - (a : Int) ≤ (capR : Int) := by omega
  go_enter Tryz.func83, Tryz.ntmps83
  go_wp2
  go_region_held3 (fun w' => w'.cell? ⟨mb, 0, none⟩ = some (.slice aS n capS) ∧ w'.cell? ⟨mb, 1, none⟩ = some (.slice aR m capR)) (go_keep) (fail)
  all_goals go_wp2
  all_goals first
    | (go_ret; exact ⟨ret_int ((unhide H).1 (by omega)).symm, (((Below.refl _ _).alloc (Nat.le_refl _) _).drew)⟩)
    | (go_region_held3 (fun w' => w'.cell? ⟨rb, 5, none⟩ = some (.slice aT q capT) ∧ w'.cell? ⟨w.heap.size, 2, none⟩ = some (.string tells)) (go_keep) (fail)
       have hb := (unhide H).2 (by omega)
       have hb2 := hb.2
       have hb1 := hide hb.1
       clear hb
       go_wp2
       go_ret
       exact ⟨ret_int (unhide hb1).symm, (((Below.refl _ _).alloc (Nat.le_refl _) _).drew).drew⟩)

theorem info_of {t : TypeId} {z : Value} {n b : Nat} (h : ((Tryz.prog).info? t).map (fun i => (i.zero, i.size, i.bytes)) = some (some z, n, b)) : ∃ i, (Tryz.prog).info? t = some i ∧ i.zero = some z ∧ i.size = n ∧ i.bytes = b := by
  cases hi : (Tryz.prog).info? t with
  | none => rw [hi] at h; cases h
  | some i =>
    rw [hi] at h
    simp only [Option.map_some, Option.some.injEq, Prod.mk.injEq] at h
    exact ⟨i, rfl, h.1, h.2.1, h.2.2⟩
theorem info3 : ∃ i, (Tryz.prog).info? 3 = some i ∧ i.zero = some (.int .i64 0) ∧ i.size = 1 ∧ i.bytes = 8 := info_of (by kernel_rfl)
theorem info5 : ∃ i, (Tryz.prog).info? 5 = some i ∧ i.zero = some (.int .u8 0) ∧ i.size = 1 ∧ i.bytes = 1 := info_of (by kernel_rfl)

theorem one_ints (l : List Int) : ∀ u ∈ l.map (Value.int .i64), u.oneCell' = true := by
  intro u hu
  simp only [List.mem_map] at hu
  obtain ⟨x, _, rfl⟩ := hu
  rfl

theorem grown_fz {w w' : World} {row : Option Nat} {b j : Nat} {v : Value} (hg : w.grownBy w' row) (hc : w.cell? ⟨b, j, none⟩ = some v) (hf : w.frozen? ⟨b, j, none⟩ = false) (hne : some b ≠ row) : w'.frozen? ⟨b, j, none⟩ = false :=
  (hg.frozen_far ⟨b, j, none⟩ (block_lt hc) hne).trans hf

theorem cell_set_far {w : World} {b j b' j' : Nat} {u v : Value} (h : w.cell? ⟨b', j', none⟩ = some v) (hne : b' ≠ b) : (w.setCell ⟨b, j, none⟩ u).cell? ⟨b', j', none⟩ = some v := by
  rw [World.cell?_of_block (w := w) (Below.heap_setCell _ _ _ _ hne)]
  exact h

theorem src_grown {w w' : World} {row : Option Nat} {v : Value} {xs : List Value} (h : Src w v xs) (hg : w.grownBy w' row) (hne : ∀ k, v.ownBlock = some k → some k ≠ row) : Src w' v xs :=
  h.kept hg.size fun b e => hg.block b (h.lt b e) (hne b e)
theorem owns_grown {w w' : World} {row : Option Nat} {base e n : Nat} {v : Value} {xs : List Value} (h : w.ownsRow base e 1 v n xs) (hg : w.grownBy w' row) (hne : ∀ k, v.ownBlock = some k → some k ≠ row) : w'.ownsRow base e 1 v n xs :=
  owns_kept h fun b e => hg.block b (h.lt b e).2 (hne b e)

set_option maxRecDepth 100000 in
set_option maxHeartbeats 1600000 in
theorem commit_some (w : World) (mb rb : Nat) (vO vB vW : Value) (n m q t a p1 p2 capS capR capT c1 c2 : Nat) (aS aR aT l1 l2 : Option Addr) (tells : ByteArray) (s : L.RunS) (lays aside : List Int) (B : Nat)
    (HRun : Hid (RunAt w mb rb vO vB vW (.slice aS n capS) (.slice aR m capR) (.slice aT q capT) s)) (HB : Hid (∀ k, Foot mb rb (.slice aS n capS) (.slice aR m capR) (.slice aT q capT) k → k < B))
    (HL : Hid (Src w (.slice l1 p1 c1) (lays.map (Value.int .i64)) ∧ ∀ k, (Value.slice l1 p1 c1).ownBlock = some k → B ≤ k)) (HA : Hid (Src w (.slice l2 p2 c2) (aside.map (Value.int .i64)) ∧ ∀ k, (Value.slice l2 p2 c2).ownBlock = some k → B ≤ k))
    (Hlen : Hid (s.S.length = n ∧ s.R.length = m ∧ s.out.length = q ∧ lays.length = p1 ∧ aside.length = p2)) (Hin : Hid ((∀ x ∈ lays, inI64 x) ∧ ∀ x ∈ aside, inI64 x))
    (hr0 : ∀ o, (w.alloc o).cell? ⟨rb, 0, none⟩ = some (.pointer (some ⟨mb, 0, none⟩))) (hr5 : ∀ o, (w.alloc o).cell? ⟨rb, 5, none⟩ = some (.slice aT q capT))
    (hm0 : ∀ o, (w.alloc o).cell? ⟨mb, 0, none⟩ = some (.slice aS n capS)) (hm1 : ∀ o, (w.alloc o).cell? ⟨mb, 1, none⟩ = some (.slice aR m capR))
    (hn : n ≤ 16) (hm : m ≤ 16) (hq : q ≤ 300) (ht : t ≤ n) (ha : a ≤ m) (hcS : n ≤ capS) (hcR : m ≤ capR) (hp1 : p1 ≤ 3) (hp2 : p2 ≤ 3) (hts : tells.size ≤ 100)
    (h1 : n - t + p1 ≤ 16) (h2 : m - a + p2 ≤ 16) (h3 : q + tells.size ≤ 300) :
    Calls Tryz.prog 83 #[.pointer (some ⟨rb, 0, none⟩), .int .i64 t, .int .i64 a, .agg #[.slice l1 p1 c1, .slice l2 p2 c2, .string tells]] w fun e w' => e = .returned (.int .i64 0) ∧
      ∃ v1 v2 v3, RunAt w' mb rb vO vB vW v1 v2 v3 { s with S := s.S.take (s.S.length - t) ++ lays, R := s.R.take (s.R.length - a) ++ aside, out := s.out ++ tells.data.toList } ∧ Mv (Foot mb rb (.slice aS n capS) (.slice aR m capR) (.slice aT q capT)) w w' ∧ Fresh w (Foot mb rb (.slice aS n capS) (.slice aR m capR) (.slice aT q capT)) (Foot mb rb v1 v2 v3) := by
  have i0 : IntKind.i64.wrap ((n : Int) - (t : Int)) = (n : Int) - (t : Int) := by rw [IntKind.wrap_i64]; omega
  have i9 : IntKind.i64.wrap ((m : Int) - (a : Int)) = (m : Int) - (a : Int) := by rw [IntKind.wrap_i64]; omega
  have i8 : IntKind.i64.wrap ((q : Int) + (tells.size : Int)) = (q : Int) + (tells.size : Int) := by rw [IntKind.wrap_i64]; omega
  have i1 : (0 : Int) ≤ (n : Int) - (t : Int) := by omega
  have i2 : (n : Int) - (t : Int) ≤ (capS : Int) := by omega
  have i3 : (0 : Int) ≤ (m : Int) - (a : Int) := by omega
  have i4 : (m : Int) - (a : Int) ≤ (capR : Int) := by omega
  go_enter Tryz.func83, Tryz.ntmps83
  go_wp2
  go_region_held3 (fun w' => w'.cell? ⟨mb, 0, none⟩ = some (.slice aS n capS) ∧ w'.cell? ⟨mb, 1, none⟩ = some (.slice aR m capR)) (go_keep) (fail)
  go_wp2
  go_region_held3 (fun w' => w'.cell? ⟨rb, 5, none⟩ = some (.slice aT q capT) ∧ w'.cell? ⟨w.heap.size, 2, none⟩ = some (.string tells)) (go_keep) (fail)
  go_wp2
  obtain ⟨i3t, hi3, hz3, hs3, hb3⟩ := info3
  have hrun := unhide HRun
  obtain ⟨n1, n2, n3, n4, n5⟩ := unhide Hlen
  have hbel : Below w.heap.size w (w.alloc (Obj.cells #[Value.slice l1 p1 c1, Value.slice l2 p2 c2, Value.string tells] 157)).drew.drew := (((Below.refl _ _).alloc (Nat.le_refl _) _).drew).drew
  have hE : (w.alloc (Obj.cells #[Value.slice l1 p1 c1, Value.slice l2 p2 c2, Value.string tells] 157)).drew.drew.heap[w.heap.size]? = some (Obj.cells #[Value.slice l1 p1 c1, Value.slice l2 p2 c2, Value.string tells] 157) := heap_alloc_new w _
  generalize hw1 : (w.alloc (Obj.cells #[Value.slice l1 p1 c1, Value.slice l2 p2 c2, Value.string tells] 157)).drew.drew = w1 at *
  clear hw1
  have hrun1 := hrun.below hbel
  have oS : w1.ownsRow 0 3 1 (.slice aS (n - t) capS) (n - t) ((s.S.map (Value.int .i64)).take (n - t)) := owns_take (n1 ▸ hrun1.st) (n - t) (by omega)
  have oR : w1.ownsRow 0 3 1 (.slice aR (m - a) capR) (m - a) ((s.R.map (Value.int .i64)).take (m - a)) := owns_take (n2 ▸ hrun1.asd) (m - a) (by omega)
  have sL := (unhide HL).1.below hbel
  have sA := (unhide HA).1.below hbel
  have mb0 : w1.cell? ⟨mb, 0, none⟩ = some (.slice aS n capS) := cell_of_block hrun1.m rfl
  have mb1 : w1.cell? ⟨mb, 1, none⟩ = some (.slice aR m capR) := cell_of_block hrun1.m rfl
  have fz0 : w1.frozen? ⟨mb, 0, none⟩ = false := frozen_of_block 0 hrun1.m
  have fz1 : w1.frozen? ⟨mb, 1, none⟩ = false := frozen_of_block 1 hrun1.m
  have e0 : w1.cell? ⟨w.heap.size, 0, none⟩ = some (.slice l1 p1 c1) := cell_of_block hE rfl
  have e1 : w1.cell? ⟨w.heap.size, 1, none⟩ = some (.slice l2 p2 c2) := cell_of_block hE rfl
  have neEM : w.heap.size ≠ mb := by have := heap_lt hrun.m; omega
  have neES : some w.heap.size ≠ (Value.slice aS (n - t) capS).ownBlock := fun e => by have := hrun.lt w.heap.size (.inl (.inr (.inr (.inl (by rw [own_slice] at e ⊢; exact e.symm))))); omega
  have neER : some w.heap.size ≠ (Value.slice aR (m - a) capR).ownBlock := fun e => by have := hrun.lt w.heap.size (.inl (.inr (.inr (.inr (.inl (by rw [own_slice] at e ⊢; exact e.symm)))))); omega
  have neMS : some mb ≠ (Value.slice aS (n - t) capS).ownBlock := fun e => own_ne_of_type oS hrun1.m (by decide) e.symm
  have neMR : some mb ≠ (Value.slice aR (m - a) capR).ownBlock := fun e => own_ne_of_type oR hrun1.m (by decide) e.symm
  have neRS : ∀ k, (Value.slice aR (m - a) capR).ownBlock = some k → some k ≠ (Value.slice aS (n - t) capS).ownBlock := fun k e e' => hrun.ap k (by rw [own_slice] at e' ⊢; exact e'.symm) (by rw [own_slice] at e ⊢; exact e)
  have neSR : ∀ k, (Value.slice aS (n - t) capS).ownBlock = some k → some k ≠ (Value.slice aR (m - a) capR).ownBlock := fun k e e' => neRS k e'.symm e.symm
  have neLR : ∀ k, (Value.slice l1 p1 c1).ownBlock = some k → some k ≠ (Value.slice aR (m - a) capR).ownBlock := fun k e e' => by
    have := (unhide HL).2 k e
    have := unhide HB k (.inr (.inr (.inr (.inl (by rw [own_slice] at e' ⊢; exact e'.symm)))))
    omega
  have neAS : ∀ k, (Value.slice l2 p2 c2).ownBlock = some k → some k ≠ (Value.slice aS (n - t) capS).ownBlock := fun k e e' => by
    have := (unhide HA).2 k e
    have := unhide HB k (.inr (.inr (.inl (by rw [own_slice] at e' ⊢; exact e'.symm))))
    omega
  have mx1 : n - t + (lays.map (Value.int .i64)).length ≤ maxLen := by unfold maxLen; simp; omega
  have mx2 : m - a + (aside.map (Value.int .i64)).length ≤ maxLen := by unfold maxLen; simp; omega
  have by1 : (n - t + (lays.map (Value.int .i64)).length) * 8 ≤ 140737488355328 := by simp; omega
  have by2 : (m - a + (aside.map (Value.int .i64)).length) * 8 ≤ 140737488355328 := by simp; omega
  have HE := hide hE
  have Hbel := hide hbel
  have Hrun1 := hide hrun1
  have N1 := hide n1
  have N2 := hide n2
  have N3 := hide n3
  have N4 := hide n4
  have N5 := hide n5
  clear hE hbel hrun1 hrun n1 n2 n3 n4 n5 hr0 hr5 hm0 hm1
  go_region_held3 (fun w' => w'.cell? ⟨w.heap.size, 0, none⟩ = some (.slice l1 p1 c1) ∧ w'.cell? ⟨w.heap.size, 1, none⟩ = some (.slice l2 p2 c2)) (first | exact ⟨e0, e1⟩ | exact ⟨cell_set_far e0 neEM, cell_set_far e1 neEM⟩ | exact ⟨cell_set_far (cell_set_far e0 neEM) neEM, cell_set_far (cell_set_far e1 neEM) neEM⟩ | go_keep)
    (first
      | (refine step_append_src _ (by rfl) _ _ _ (by rfl) 3 i3t (.int .i64 0) 8 Tryz.underlying26 hi3 hz3 hs3 hb3 rfl (.slice aS (n - t) capS) (n - t) ((s.S.map (Value.int .i64)).take (n - t)) (by rfl) (by exact oS) (.slice l1 p1 c1) (lays.map (Value.int .i64)) (by rfl) (by exact sL) (one_ints lays) mx1 by1 ?_
         intro a1 cap1 w2 o1 g1 t1
         have g1 : w1.grownBy w2 (Value.slice aS (n - t) capS).ownBlock := ⟨g1.os, g1.tape, g1.output, g1.size, g1.block⟩
         have e0 := g1.cell e0 neES
         have e1 := g1.cell e1 neES
         have fz0 := grown_fz g1 mb0 fz0 neMS
         have fz1 := grown_fz g1 mb1 fz1 neMS
         have mb0 := g1.cell mb0 neMS
         have mb1 := g1.cell mb1 neMS
         have oR := owns_grown oR g1 neRS
         have sA := src_grown sA g1 neAS)
      | (refine step_append_src _ (by rfl) _ _ _ (by rfl) 3 i3t (.int .i64 0) 8 Tryz.underlying26 hi3 hz3 hs3 hb3 rfl (.slice aR (m - a) capR) (m - a) ((s.R.map (Value.int .i64)).take (m - a)) (by rfl) (by exact oR) (.slice l2 p2 c2) (aside.map (Value.int .i64)) (by rfl) (by exact sA) (one_ints aside) mx2 by2 ?_
         intro a2 cap2 w3 o2 g2 t2
         have g2 : w2.grownBy w3 (Value.slice aR (m - a) capR).ownBlock := ⟨g2.os, g2.tape, g2.output, g2.size, g2.block⟩
         have e0 := g2.cell e0 neER
         have e1 := g2.cell e1 neER
         have fz0 := grown_fz g2 mb0 fz0 neMR
         have fz1 := grown_fz g2 mb1 fz1 neMR
         have mb0 := g2.cell mb0 neMR
         have mb1 := g2.cell mb1 neMR))
  clear hi3 hz3 hs3 hb3 oS sL
  have bSe : (Value.slice aS (n - t) capS).ownBlock = (Value.slice aS n capS).ownBlock := by rw [own_slice, own_slice]
  have bRe : (Value.slice aR (m - a) capR).ownBlock = (Value.slice aR m capR).ownBlock := by rw [own_slice, own_slice]
  rw [bSe] at g1 t1
  rw [bRe] at g2 t2
  simp only [List.length_map] at o1 o2 t1 t2
  have hrun1 := unhide Hrun1
  have two := two_app g1 g2 o1 o2 t1 t2 (fun k e => hrun1.lt k (.inl (.inr (.inr (.inr (.inl e)))))) hrun1.ap
  have ltm := hrun1.lt mb (.inl (.inl rfl))
  have ltr := hrun1.lt rb (.inl (.inr (.inl rfl)))
  have nemr : rb ≠ mb := ne_of_type hrun1.r hrun1.m (by decide)
  have hm3 : w3.heap[mb]? = _ := (two.block mb ltm (fun e => own_ne_of_type hrun1.st hrun1.m (by decide) e.symm) (fun e => own_ne_of_type hrun1.asd hrun1.m (by decide) e.symm)).trans hrun1.m
  have h4m := set_block (set_block hm3 0 (Value.slice a1 (n - t + lays.length) cap1)) 1 (Value.slice a2 (m - a + aside.length) cap2)
  have h4b : ∀ k, k ≠ mb → ((w3.setCell ⟨mb, 0, none⟩ (Value.slice a1 (n - t + lays.length) cap1)).setCell ⟨mb, 1, none⟩ (Value.slice a2 (m - a + aside.length) cap2)).heap[k]? = w3.heap[k]? := fun k hk => (Below.heap_setCell _ _ _ _ hk).trans (Below.heap_setCell _ _ _ _ hk)
  have h4s : ((w3.setCell ⟨mb, 0, none⟩ (Value.slice a1 (n - t + lays.length) cap1)).setCell ⟨mb, 1, none⟩ (Value.slice a2 (m - a + aside.length) cap2)).heap.size = w3.heap.size := by simp [World.setCell]
  have h4o : ((w3.setCell ⟨mb, 0, none⟩ (Value.slice a1 (n - t + lays.length) cap1)).setCell ⟨mb, 1, none⟩ (Value.slice a2 (m - a + aside.length) cap2)).os = w3.os := rfl
  have h4t : ((w3.setCell ⟨mb, 0, none⟩ (Value.slice a1 (n - t + lays.length) cap1)).setCell ⟨mb, 1, none⟩ (Value.slice a2 (m - a + aside.length) cap2)).tape = w3.tape := rfl
  have h4p : ((w3.setCell ⟨mb, 0, none⟩ (Value.slice a1 (n - t + lays.length) cap1)).setCell ⟨mb, 1, none⟩ (Value.slice a2 (m - a + aside.length) cap2)).output = w3.output := rfl
  generalize ((w3.setCell ⟨mb, 0, none⟩ (Value.slice a1 (n - t + lays.length) cap1)).setCell ⟨mb, 1, none⟩ (Value.slice a2 (m - a + aside.length) cap2)) = w4 at *
  have hr4 : w4.heap[rb]? = _ := (h4b rb nemr).trans ((two.block rb ltr (fun e => own_ne_of_type hrun1.st hrun1.r (by decide) e.symm) (fun e => own_ne_of_type hrun1.asd hrun1.r (by decide) e.symm)).trans hrun1.r)
  have hE4 : w4.heap[w.heap.size]? = _ := (h4b _ neEM).trans ((two.block _ (heap_lt (unhide HE)) (bSe ▸ neES) (bRe ▸ neER)).trans (unhide HE))
  have oT1 : w1.ownsRow 0 5 1 (.slice aT q capT) q (s.out.map byteCell) := by have := hrun1.ot; rw [unhide N3] at this; exact this
  have oT : w4.ownsRow 0 5 1 (.slice aT q capT) q (s.out.map byteCell) := owns_kept oT1 fun k e => (h4b k (fun h => own_ne_of_type hrun1.ot hrun1.m (by decide) (h ▸ e))).trans (two.block k (hrun1.lt k (.inl (.inr (.inr (.inr (.inr e))))))
    (fun e' => by obtain ⟨c1, x1⟩ := owns_block hrun1.st e'.symm; obtain ⟨c2, x2⟩ := owns_block hrun1.ot e; exact ne_of_type x1 x2 (by decide) rfl)
    (fun e' => by obtain ⟨c1, x1⟩ := owns_block hrun1.asd e'.symm; obtain ⟨c2, x2⟩ := owns_block hrun1.ot e; exact ne_of_type x1 x2 (by decide) rfl))
  have rb5 : w4.cell? ⟨rb, 5, none⟩ = some (.slice aT q capT) := cell_of_block hr4 rfl
  have fz5 : w4.frozen? ⟨rb, 5, none⟩ = false := frozen_of_block 5 hr4
  have e2 : w4.cell? ⟨w.heap.size, 2, none⟩ = some (.string tells) := cell_of_block hE4 rfl
  have neER' : w.heap.size ≠ rb := by have := heap_lt (unhide HRun).r; omega
  have neET : some w.heap.size ≠ (Value.slice aT q capT).ownBlock := fun e => by have := (unhide HRun).lt w.heap.size (.inl (.inr (.inr (.inr (.inr e.symm))))); omega
  have neRT : some rb ≠ (Value.slice aT q capT).ownBlock := fun e => own_ne_of_type oT hr4 (by decide) e.symm
  have Htwo := hide two
  have H4m := hide h4m
  have H4b := hide h4b
  have H4s := hide h4s
  have H4 := hide (And.intro h4o (And.intro h4t h4p))
  have Hr4 := hide hr4
  clear two h4m h4b h4s h4o h4t h4p hr4 hE4 hrun1 hm3 oT1 o1 o2 g1 g2 t1 t2 e0 e1 fz0 fz1 mb0 mb1 oR sA
  obtain ⟨i5t, hi5, hz5, hs5, hb5⟩ := info5
  go_wp2
  go_region_law
    ((refine step_append_str _ (by rfl) _ _ _ _ (by rfl) 5 i5t Tryz.underlying65 Tryz.underlying9 hi5 hz5 hs5 hb5 (.slice aT q capT) q (s.out.map byteCell) (by rfl) (by exact oT) tells (by rfl) (by unfold maxLen; omega) (by omega) ?_
      intro a3 cap3 w5 o3 g3 t3
      have g3 : w4.grownBy w5 (Value.slice aT q capT).ownBlock := ⟨g3.os, g3.tape, g3.output, g3.size, g3.block⟩
      have e2 := g3.cell e2 neET
      have fz5 := grown_fz g3 rb5 fz5 neRT
      have rb5 := g3.cell rb5 neRT))
  all_goals
    have hw4 : rb < w4.heap.size := heap_lt (unhide Hr4)
    have hr5 : w5.heap[rb]? = _ := (g3.block rb hw4 neRT).trans (unhide Hr4)
    have h6r := set_block hr5 5 (Value.slice a3 (q + tells.size) cap3)
    have H6r := hide h6r
    have T3 := hide t3
    have G3 := hide g3
    have O3 := hide o3
    clear h6r hr5 t3 g3 o3 e2 fz5 rb5
    go_wp2
    go_ret
    obtain rfl := unhide N1
    obtain rfl := unhide N2
    obtain rfl := unhide N3
    obtain rfl := unhide N4
    obtain rfl := unhide N5
    have hsz := Lib.size_eq tells
    refine ⟨rfl, _, _, _, commit_end (t := t) (a := a) (lays := lays) (aside := aside) (tells := tells.data.toList) (unhide HRun) (unhide Hbel) (unhide Htwo) (unhide H4).1 (unhide H4).2.1 (unhide H4).2.2 (unhide H4s) (unhide H4b) (unhide H4m) (unhide G3) ?_ (unhide T3) rfl rfl rfl (by simp [World.setCell]) (fun k hk => Below.heap_setCell _ _ _ _ hk) (unhide H6r) h1 h2 (by rw [← hsz]; exact h3) (unhide Hin).1 (unhide Hin).2⟩
    rw [← hsz]
    exact unhide O3
end Go.Proofs.YtgnlokmeohffaaaGreatDoor
/- commit, at whatever run in memory and whatever effect: what commit of the plain terms says. -/
namespace Go.Proofs.YtgnlokmeohffaaaGreatDoor
open Go.RowKit

theorem RunAt.slices {w : World} {mb rb : Nat} {vO vB vW vS vR vT : Value} {s : L.RunS} (h : RunAt w mb rb vO vB vW vS vR vT s) :
    ∃ aS capS aR capR aT capT, vS = .slice aS s.S.length capS ∧ vR = .slice aR s.R.length capR ∧ vT = .slice aT s.out.length capT ∧ s.S.length ≤ capS ∧ s.R.length ≤ capR := by
  obtain ⟨aS, capS, e1, l1, _⟩ := owns_slice h.st
  obtain ⟨aR, capR, e2, l2, _⟩ := owns_slice h.asd
  obtain ⟨aT, capT, e3, _, _⟩ := owns_slice h.ot
  exact ⟨aS, capS, aR, capR, aT, capT, e1, e2, e3, l1, l2⟩

/-- commit: the run behind it is the plain terms' one; what isn't the run's is as it was. -/
theorem commit_any (w : World) (mb rb : Nat) (vO vB vW vS vR vT vE : Value) (s : L.RunS) (t a B : Nat) (e : L.Eff)
    (hrun : RunAt w mb rb vO vB vW vS vR vT s) (hB : ∀ k, Foot mb rb vS vR vT k → k < B) (hE : EffAt B w vE e.lays e.aside e.tells)
    (ht : t ≤ s.S.length) (ha : a ≤ s.R.length) (hl1 : e.lays.length ≤ 3) (hl2 : e.aside.length ≤ 3) (hl3 : e.tells.length ≤ 100) (hi1 : ∀ x ∈ e.lays, inI64 x) (hi2 : ∀ x ∈ e.aside, inI64 x) :
    Calls Tryz.prog 83 #[.pointer (some ⟨rb, 0, none⟩), .int .i64 t, .int .i64 a, vE] w fun r w' => r = .returned (.int .i64 (L.commit s t a e).2) ∧
      ∃ v1 v2 v3, RunAt w' mb rb vO vB vW v1 v2 v3 (L.commit s t a e).1 ∧ Mv (Foot mb rb vS vR vT) w w' ∧ Fresh w (Foot mb rb vS vR vT) (Foot mb rb v1 v2 v3) := by
  obtain ⟨vL, vA, rfl, sL, sA, oL, oA⟩ := hE
  obtain ⟨aL, cL, eL⟩ := sL.len
  obtain ⟨aA, cA, eA⟩ := sA.len
  rw [List.length_map] at eL eA
  obtain ⟨aS, capS, aR, capR, aT, capT, rfl, rfl, rfl, lS, lR⟩ := hrun.slices
  subst eL eA
  have hts : (⟨e.tells.toArray⟩ : ByteArray).size = e.tells.length := by simp [ByteArray.size]
  have hr0 : ∀ o, (w.alloc o).cell? ⟨rb, 0, none⟩ = some (.pointer (some ⟨mb, 0, none⟩)) := fun o => cell_alloc (cell_of_block hrun.r rfl) o
  have hr5 : ∀ o, (w.alloc o).cell? ⟨rb, 5, none⟩ = some (.slice aT s.out.length capT) := fun o => cell_alloc (cell_of_block hrun.r rfl) o
  have hm0 : ∀ o, (w.alloc o).cell? ⟨mb, 0, none⟩ = some (.slice aS s.S.length capS) := fun o => cell_alloc (cell_of_block hrun.m rfl) o
  have hm1 : ∀ o, (w.alloc o).cell? ⟨mb, 1, none⟩ = some (.slice aR s.R.length capR) := fun o => cell_alloc (cell_of_block hrun.m rfl) o
  by_cases hover : 16 < s.S.length - t + e.lays.length ∨ 16 < s.R.length - a + e.aside.length
  · have hc : L.commit s t a e = (s, 7) := if_pos hover
    rw [hc]
    refine (commit_none w mb rb _ _ _ t a _ _ capS capR capT cL cA aS aR aT aL aA ⟨e.tells.toArray⟩ 7 hr0 hr5 hm0 hm1 hrun.sl hrun.rl hrun.ol ht ha lS lR hl1 hl2 (by omega) (hide ⟨fun _ => rfl, fun h => by omega⟩)).mono ?_
    rintro r w' ⟨rfl, hb⟩
    exact ⟨rfl, _, _, _, hrun.below hb, Mv.of_below hb _, Fresh.refl _ _⟩
  · by_cases hout : 300 < s.out.length + e.tells.length
    · have hc : L.commit s t a e = (s, 12) := (if_neg hover).trans (if_pos hout)
      rw [hc]
      refine (commit_none w mb rb _ _ _ t a _ _ capS capR capT cL cA aS aR aT aL aA ⟨e.tells.toArray⟩ 12 hr0 hr5 hm0 hm1 hrun.sl hrun.rl hrun.ol ht ha lS lR hl1 hl2 (by omega) (hide ⟨fun h => (hover h).elim, fun _ => ⟨rfl, by omega⟩⟩)).mono ?_
      rintro r w' ⟨rfl, hb⟩
      exact ⟨rfl, _, _, _, hrun.below hb, Mv.of_below hb _, Fresh.refl _ _⟩
    · have hc : L.commit s t a e = ({ s with S := s.S.take (s.S.length - t) ++ e.lays, R := s.R.take (s.R.length - a) ++ e.aside, out := s.out ++ e.tells }, 0) := (if_neg hover).trans (if_neg hout)
      rw [hc]
      refine (commit_some w mb rb vO vB vW _ _ _ t a _ _ capS capR capT cL cA aS aR aT aL aA ⟨e.tells.toArray⟩ s e.lays e.aside B (hide hrun) (hide hB) (hide ⟨sL, oL⟩) (hide ⟨sA, oA⟩) (hide ⟨rfl, rfl, rfl, rfl, rfl⟩) (hide ⟨hi1, hi2⟩) hr0 hr5 hm0 hm1 hrun.sl hrun.rl hrun.ol ht ha lS lR hl1 hl2 (by omega) (by omega) (by omega) (by omega)).mono ?_
      rintro r w' ⟨rfl, v1, v2, v3, h1, h2, h3⟩
      exact ⟨rfl, v1, v2, v3, by simpa using h1, h2, h3⟩
end Go.Proofs.YtgnlokmeohffaaaGreatDoor
/- What the functions truth, divide and reckon of package lexicon answer: the last at each of its names. -/
namespace Go.Proofs.YtgnlokmeohffaaaGreatDoor
open Go.RowKit

theorem ret_ii {a a' b b' : Int} (h : a = a') (h2 : b = b') : Ending.returned (.tuple #[.int .i64 a, .int .i64 b]) = .returned (.tuple #[.int .i64 a', .int .i64 b']) := by rw [h, h2]

theorem truth_any (b : Bool) (w : World) :
    Calls Tryz.prog 120 #[.bool b] w fun e w' => e = .returned (.int .i64 (L.truth b)) ∧ w' = w := by
  cases b
  all_goals
    go_enter Tryz.func120, Tryz.ntmps120
    go_wp2
    go_ret
    exact ⟨rfl, rfl⟩

set_option maxRecDepth 100000 in
theorem divide_mod (x y : Int) (w : World) :
    Calls Tryz.prog 119 #[.string ⟨#[109, 111, 100]⟩, .int .i64 x, .int .i64 y] w fun e w' => e = .returned (.tuple #[.int .i64 (L.divOr y (x.tmod y)), .int .i64 (L.zeroErr y)]) ∧ w' = w := by
  by_cases h : y = 0
  · subst h
    go_enter Tryz.func119, Tryz.ntmps119
    go_wp2
    go_ret2
    exact ⟨rfl, rfl⟩
  · have hb : (y == 0) = false := by rw [beq_eq_false_iff_ne]; exact h
    go_enter Tryz.func119, Tryz.ntmps119
    go_wp2
    go_ret2
    exact ⟨ret_ii (by rw [L.divOr, if_neg h]) (by rw [L.zeroErr, if_neg h]), rfl⟩

set_option maxRecDepth 100000 in
theorem divide_div (x y : Int) (w : World) :
    Calls Tryz.prog 119 #[.string ⟨#[47]⟩, .int .i64 x, .int .i64 y] w fun e w' => e = .returned (.tuple #[.int .i64 (L.divOr y (wrap64 (x.tdiv y))), .int .i64 (L.zeroErr y)]) ∧ w' = w := by
  by_cases h : y = 0
  · subst h
    go_enter Tryz.func119, Tryz.ntmps119
    go_wp2
    go_ret2
    exact ⟨rfl, rfl⟩
  · have hb : (y == 0) = false := by rw [beq_eq_false_iff_ne]; exact h
    go_enter Tryz.func119, Tryz.ntmps119
    go_wp2
    go_ret2
    exact ⟨ret_ii (by rw [L.divOr, if_neg h]) (by rw [L.zeroErr, if_neg h]), rfl⟩

set_option maxRecDepth 100000 in
theorem reckon_add (b o c : Nat) (x y : Int) (w : World) (h0 : w.cell? ⟨b, o, none⟩ = some (.int .i64 x)) (h1 : w.cell? ⟨b, o + 1, none⟩ = some (.int .i64 y)) :
    Calls Tryz.prog 105 #[.string ⟨#[43]⟩, .slice (some ⟨b, o, none⟩) 2 c] w fun e w' => e = .returned (.tuple #[.int .i64 (wrap64 (x + y)), .int .i64 0]) ∧ ∃ n, w' = w.drewN n := by
  go_enter Tryz.func105, Tryz.ntmps105
  go_wp2
  go_quiet (fail)
  go_wp2
  go_ret2
  exact ⟨rfl, _, rfl⟩

set_option maxRecDepth 100000 in
theorem reckon_sub (b o c : Nat) (x y : Int) (w : World) (h0 : w.cell? ⟨b, o, none⟩ = some (.int .i64 x)) (h1 : w.cell? ⟨b, o + 1, none⟩ = some (.int .i64 y)) :
    Calls Tryz.prog 105 #[.string ⟨#[45]⟩, .slice (some ⟨b, o, none⟩) 2 c] w fun e w' => e = .returned (.tuple #[.int .i64 (wrap64 (x - y)), .int .i64 0]) ∧ ∃ n, w' = w.drewN n := by
  go_enter Tryz.func105, Tryz.ntmps105
  go_wp2
  go_quiet (fail)
  go_wp2
  go_ret2
  exact ⟨rfl, _, rfl⟩

set_option maxRecDepth 100000 in
theorem reckon_mul (b o c : Nat) (x y : Int) (w : World) (h0 : w.cell? ⟨b, o, none⟩ = some (.int .i64 x)) (h1 : w.cell? ⟨b, o + 1, none⟩ = some (.int .i64 y)) :
    Calls Tryz.prog 105 #[.string ⟨#[42]⟩, .slice (some ⟨b, o, none⟩) 2 c] w fun e w' => e = .returned (.tuple #[.int .i64 (wrap64 (x * y)), .int .i64 0]) ∧ ∃ n, w' = w.drewN n := by
  go_enter Tryz.func105, Tryz.ntmps105
  go_wp2
  go_quiet (fail)
  go_wp2
  go_ret2
  exact ⟨rfl, _, rfl⟩

set_option maxRecDepth 100000 in
theorem reckon_and (b o c : Nat) (x y : Int) (w : World) (h0 : w.cell? ⟨b, o, none⟩ = some (.int .i64 x)) (h1 : w.cell? ⟨b, o + 1, none⟩ = some (.int .i64 y)) :
    Calls Tryz.prog 105 #[.string ⟨#[97, 110, 100]⟩, .slice (some ⟨b, o, none⟩) 2 c] w fun e w' => e = .returned (.tuple #[.int .i64 (bits .and .i64 x y), .int .i64 0]) ∧ ∃ n, w' = w.drewN n := by
  go_enter Tryz.func105, Tryz.ntmps105
  go_wp2
  go_quiet (fail)
  go_wp2
  go_ret2
  exact ⟨rfl, _, rfl⟩

set_option maxRecDepth 100000 in
theorem reckon_or (b o c : Nat) (x y : Int) (w : World) (h0 : w.cell? ⟨b, o, none⟩ = some (.int .i64 x)) (h1 : w.cell? ⟨b, o + 1, none⟩ = some (.int .i64 y)) :
    Calls Tryz.prog 105 #[.string ⟨#[111, 114]⟩, .slice (some ⟨b, o, none⟩) 2 c] w fun e w' => e = .returned (.tuple #[.int .i64 (bits .or .i64 x y), .int .i64 0]) ∧ ∃ n, w' = w.drewN n := by
  go_enter Tryz.func105, Tryz.ntmps105
  go_wp2
  go_quiet (fail)
  go_wp2
  go_ret2
  exact ⟨rfl, _, rfl⟩

set_option maxRecDepth 100000 in
theorem reckon_xor (b o c : Nat) (x y : Int) (w : World) (h0 : w.cell? ⟨b, o, none⟩ = some (.int .i64 x)) (h1 : w.cell? ⟨b, o + 1, none⟩ = some (.int .i64 y)) :
    Calls Tryz.prog 105 #[.string ⟨#[120, 111, 114]⟩, .slice (some ⟨b, o, none⟩) 2 c] w fun e w' => e = .returned (.tuple #[.int .i64 (bits .xor .i64 x y), .int .i64 0]) ∧ ∃ n, w' = w.drewN n := by
  go_enter Tryz.func105, Tryz.ntmps105
  go_wp2
  go_quiet (fail)
  go_wp2
  go_ret2
  exact ⟨rfl, _, rfl⟩

set_option maxRecDepth 100000 in
theorem reckon_eq (b o c : Nat) (x y : Int) (w : World) (h0 : w.cell? ⟨b, o, none⟩ = some (.int .i64 x)) (h1 : w.cell? ⟨b, o + 1, none⟩ = some (.int .i64 y)) :
    Calls Tryz.prog 105 #[.string ⟨#[61]⟩, .slice (some ⟨b, o, none⟩) 2 c] w fun e w' => e = .returned (.tuple #[.int .i64 (L.truth (x == y)), .int .i64 0]) ∧ ∃ n, w' = w.drewN n := by
  go_enter Tryz.func105, Tryz.ntmps105
  go_wp2
  go_quiet (fail)
  go_wp2_with fail
  refine (truth_any _ _).mono ?_
  rintro e w' ⟨rfl, rfl⟩
  go_wp2
  go_ret2
  exact ⟨rfl, _, rfl⟩

set_option maxRecDepth 100000 in
theorem reckon_lt (b o c : Nat) (x y : Int) (w : World) (h0 : w.cell? ⟨b, o, none⟩ = some (.int .i64 x)) (h1 : w.cell? ⟨b, o + 1, none⟩ = some (.int .i64 y)) :
    Calls Tryz.prog 105 #[.string ⟨#[60]⟩, .slice (some ⟨b, o, none⟩) 2 c] w fun e w' => e = .returned (.tuple #[.int .i64 (L.truth (decide (x < y))), .int .i64 0]) ∧ ∃ n, w' = w.drewN n := by
  go_enter Tryz.func105, Tryz.ntmps105
  go_wp2
  go_quiet (fail)
  go_wp2_with fail
  refine (truth_any _ _).mono ?_
  rintro e w' ⟨rfl, rfl⟩
  go_wp2
  go_ret2
  exact ⟨rfl, _, rfl⟩

set_option maxRecDepth 100000 in
theorem reckon_gt (b o c : Nat) (x y : Int) (w : World) (h0 : w.cell? ⟨b, o, none⟩ = some (.int .i64 x)) (h1 : w.cell? ⟨b, o + 1, none⟩ = some (.int .i64 y)) :
    Calls Tryz.prog 105 #[.string ⟨#[62]⟩, .slice (some ⟨b, o, none⟩) 2 c] w fun e w' => e = .returned (.tuple #[.int .i64 (L.truth (decide (y < x))), .int .i64 0]) ∧ ∃ n, w' = w.drewN n := by
  go_enter Tryz.func105, Tryz.ntmps105
  go_wp2
  go_quiet (fail)
  go_wp2_with fail
  refine (truth_any _ _).mono ?_
  rintro e w' ⟨rfl, rfl⟩
  go_wp2
  go_ret2
  exact ⟨rfl, _, rfl⟩

set_option maxRecDepth 100000 in
theorem reckon_mod (b o c : Nat) (x y : Int) (w : World) (h0 : w.cell? ⟨b, o, none⟩ = some (.int .i64 x)) (h1 : w.cell? ⟨b, o + 1, none⟩ = some (.int .i64 y)) :
    Calls Tryz.prog 105 #[.string ⟨#[109, 111, 100]⟩, .slice (some ⟨b, o, none⟩) 2 c] w fun e w' => e = .returned (.tuple #[.int .i64 (L.divOr y (x.tmod y)), .int .i64 (L.zeroErr y)]) ∧ ∃ n, w' = w.drewN n := by
  go_enter Tryz.func105, Tryz.ntmps105
  go_wp2
  go_quiet (fail)
  go_wp2_with fail
  refine (divide_mod x y _).mono ?_
  rintro e w' ⟨rfl, rfl⟩
  go_wp2
  go_ret2
  exact ⟨rfl, _, rfl⟩

set_option maxRecDepth 100000 in
theorem reckon_div (b o c : Nat) (x y : Int) (w : World) (h0 : w.cell? ⟨b, o, none⟩ = some (.int .i64 x)) (h1 : w.cell? ⟨b, o + 1, none⟩ = some (.int .i64 y)) :
    Calls Tryz.prog 105 #[.string ⟨#[47]⟩, .slice (some ⟨b, o, none⟩) 2 c] w fun e w' => e = .returned (.tuple #[.int .i64 (L.divOr y (wrap64 (x.tdiv y))), .int .i64 (L.zeroErr y)]) ∧ ∃ n, w' = w.drewN n := by
  go_enter Tryz.func105, Tryz.ntmps105
  go_wp2
  go_quiet (fail)
  go_wp2_with fail
  refine (divide_div x y _).mono ?_
  rintro e w' ⟨rfl, rfl⟩
  go_wp2
  go_ret2
  exact ⟨rfl, _, rfl⟩

set_option maxRecDepth 100000 in
theorem reckon_not (b o c : Nat) (x : Int) (w : World) (h0 : w.cell? ⟨b, o, none⟩ = some (.int .i64 x)) :
    Calls Tryz.prog 105 #[.string ⟨#[110, 111, 116]⟩, .slice (some ⟨b, o, none⟩) 1 c] w fun e w' => e = .returned (.tuple #[.int .i64 (L.truth (x == 0)), .int .i64 0]) ∧ ∃ n, w' = w.drewN n := by
  go_enter Tryz.func105, Tryz.ntmps105
  go_wp2
  go_quiet (fail)
  go_wp2_with fail
  refine (truth_any _ _).mono ?_
  rintro e w' ⟨rfl, rfl⟩
  go_wp2
  go_ret2
  exact ⟨rfl, _, rfl⟩
end Go.Proofs.YtgnlokmeohffaaaGreatDoor
