/- Rows of memory, of no program: slices that can be read, what an append leaves, and a record of which blocks may have turned. -/
import Derived.WalkKit
import Derived.Deep.AppendLies
import Derived.Below
namespace Go.Proofs.YthpcapohfjidoaaDoor
open Go.RowKit

theorem add_lit (b o j : Nat) : (⟨b, o, none⟩ : Addr).add j = ⟨b, o + j, none⟩ := by unfold Addr.add; split <;> simp_all

/-- A slice value that can be read, and its elements. -/
def Src (w : World) (v : Value) (xs : List Value) : Prop :=
  (v = .slice none 0 0 ∧ xs = []) ∨ ∃ b o c, v = .slice (some ⟨b, o, none⟩) xs.length c ∧ b < w.heap.size ∧ ∀ j u, xs[j]? = some u → w.cell? ⟨b, o + j, none⟩ = some u

theorem Src.nil (w : World) : Src w (.slice none 0 0) [] := .inl ⟨rfl, rfl⟩

theorem Src.len {w : World} {v : Value} {xs : List Value} (h : Src w v xs) : ∃ a c, v = .slice a xs.length c := by
  rcases h with ⟨rfl, rfl⟩ | ⟨b, o, c, rfl, _⟩
  · exact ⟨_, _, rfl⟩
  · exact ⟨_, _, rfl⟩

/-- What is kept: below the heap's old size all blocks but those of T. -/
structure Mv (T : Nat → Prop) (w w' : World) : Prop where
  os : w'.os = w.os
  tape : w'.tape = w.tape
  output : w'.output = w.output
  size : w.heap.size ≤ w'.heap.size
  block : ∀ k, k < w.heap.size → ¬ T k → w'.heap[k]? = w.heap[k]?

/-- The blocks of T' are those of T or new. -/
def Fresh (w : World) (T T' : Nat → Prop) : Prop := ∀ k, T' k → T k ∨ w.heap.size ≤ k

theorem Mv.refl (T : Nat → Prop) (w : World) : Mv T w w := ⟨rfl, rfl, rfl, Nat.le_refl _, fun _ _ _ => rfl⟩
theorem Fresh.refl (T : Nat → Prop) (w : World) : Fresh w T T := fun _ h => .inl h

theorem Mv.trans {T T' : Nat → Prop} {a b c : World} (h : Mv T a b) (hf : Fresh a T T') (k : Mv T' b c) : Mv T a c :=
  ⟨k.os.trans h.os, k.tape.trans h.tape, k.output.trans h.output, Nat.le_trans h.size k.size, fun i hi ht =>
    (k.block i (Nat.lt_of_lt_of_le hi h.size) (fun ht' => Or.elim (hf i ht') ht (fun x => by omega))).trans (h.block i hi ht)⟩

theorem Fresh.trans {T T' T'' : Nat → Prop} {a b : World} (hs : a.heap.size ≤ b.heap.size) (h : Fresh a T T') (k : Fresh b T' T'') : Fresh a T T'' := fun i hi => by
  rcases k i hi with x | x
  · exact h i x
  · exact .inr (by omega)

theorem Mv.below {T : Nat → Prop} {B : Nat} {w w' : World} (h : Mv T w w') (hT : ∀ k, T k → B ≤ k) (hB : B ≤ w.heap.size) : Below B w w' :=
  ⟨h.os, h.tape, h.output, h.size, fun k hk => h.block k (by omega) (fun ht => by have := hT k ht; omega)⟩

theorem Mv.of_below {w w' : World} (h : Below w.heap.size w w') (T : Nat → Prop) : Mv T w w' := ⟨h.os, h.tape, h.output, h.size, fun k hk _ => h.block k hk⟩

theorem Mv.weaken {T T' : Nat → Prop} {w w' : World} (h : Mv T w w') (ht : ∀ k, T k → T' k) : Mv T' w w' := ⟨h.os, h.tape, h.output, h.size, fun k hk hn => h.block k hk (fun x => hn (ht k x))⟩

theorem Mv.drew {T : Nat → Prop} {w w' : World} (h : Mv T w w') : Mv T w w'.drew := ⟨h.os, h.tape, h.output, h.size, h.block⟩

theorem Mv.alloc {T : Nat → Prop} {w w' : World} (h : Mv T w w') (o : Obj) : Mv T w (w'.alloc o) :=
  ⟨h.os, h.tape, h.output, by have := h.size; simp; omega, fun k hk ht => (Below.heap_alloc _ _ _ (by have := h.size; omega)).trans (h.block k hk ht)⟩

theorem Mv.setCell {T : Nat → Prop} {w w' : World} (h : Mv T w w') {p : Addr} (hp : T p.block ∨ w.heap.size ≤ p.block) (u : Value) : Mv T w (w'.setCell p u) :=
  ⟨h.os, h.tape, h.output, by have := h.size; simpa [World.setCell] using this, fun k hk ht => (Below.heap_setCell _ _ _ _ (by rintro rfl; exact Or.elim hp ht (fun x => by omega))).trans (h.block k hk ht)⟩

theorem Mv.grown {T : Nat → Prop} {w w' w'' : World} {row : Option Nat} (h : Mv T w w') (hg : w'.grownBy w'' row) (hr : ∀ k, row = some k → T k ∨ w.heap.size ≤ k) : Mv T w w'' :=
  ⟨hg.os.trans h.os, hg.tape.trans h.tape, hg.output.trans h.output, Nat.le_trans h.size hg.size, fun k hk ht =>
    (hg.block k (Nat.lt_of_lt_of_le hk h.size) (fun e => Or.elim (hr k e.symm) ht (fun x => by omega))).trans (h.block k hk ht)⟩

/-- A slice in a block that hasn't turned reads as it did. -/
theorem Src.kept {w w' : World} {v : Value} {xs : List Value} (h : Src w v xs) (hs : w.heap.size ≤ w'.heap.size) (hk : ∀ b, v.ownBlock = some b → w'.heap[b]? = w.heap[b]?) : Src w' v xs := by
  rcases h with h | ⟨b, o, c, rfl, hb, hc⟩
  · exact .inl h
  · refine .inr ⟨b, o, c, rfl, by omega, fun j u hu => ?_⟩
    rw [World.cell?_of_block (w := w) (hk b rfl)]
    exact hc j u hu

theorem Src.lt {w : World} {v : Value} {xs : List Value} (h : Src w v xs) : ∀ b, v.ownBlock = some b → b < w.heap.size := by
  rcases h with ⟨rfl, _⟩ | ⟨b, o, c, rfl, hb, hc⟩
  · intro b h; simp [Value.ownBlock] at h
  · intro b' h; simp [Value.ownBlock] at h; omega

theorem Src.below {w w' : World} {v : Value} {xs : List Value} (h : Src w v xs) (hb : Below w.heap.size w w') : Src w' v xs :=
  h.kept hb.size fun b e => hb.block b (h.lt b e)

theorem Src.of_owns {w : World} {base e n : Nat} {v : Value} {xs : List Value} (h : w.ownsRow base e 1 v n xs) : Src w v xs := by
  have hl := h.1
  have hc := @World.ownsRow.cells w base e 1 v n xs h
  have hlt := h.lt
  rcases h.2 with ⟨rfl, rfl⟩ | ⟨g, cap, cur, rfl, _⟩
  · exact .inl ⟨rfl, List.length_eq_zero_iff.1 (by omega)⟩
  · refine .inr ⟨g, 0, cap, by rw [hl, Nat.mul_one], (hlt g rfl).2, fun j u hu => ?_⟩
    have := hc rfl j u hu
    rwa [add_lit] at this

/-- append onto a row of the call's own, of whatever can be read (nothing too). -/
theorem run_append_src {P : Program} (w : World) (t ty e : TypeId) (i : TypeInfo) (z : Value) (bytes : Nat) (ht : P.underlying t = some (.slice e)) (hi : P.info? e = some i) (hz : i.zero = some z)
    (hsize : i.size = 1) (hby : i.bytes = bytes) (hzs : z.cells.size = 1)
    (v : Value) (n : Nat) (xs : List Value) (hown : w.ownsRow 0 e 1 v n xs) (x : Value) (news : List Value) (hx : Src w x news) (h1 : ∀ u ∈ news, u.oneCell' = true)
    (h63 : n + news.length ≤ maxLen) (hbytes : (n + news.length) * bytes ≤ 140737488355328) :
    ∃ v' w', (Builtin.append_ #[t, t] ty #[v, x]).run P w = .ok v' w' ∧ w'.ownsRow 0 e 1 v' (n + news.length) (xs ++ news) ∧ w.grownBy w' v.ownBlock ∧
      (v'.ownBlock = v.ownBlock ∨ v'.ownBlock = some w.heap.size) := by
  rcases hx with ⟨rfl, rfl⟩ | ⟨b, o, c, rfl, _, hc⟩
  · refine ⟨v, w, ?_, by simpa using hown, ⟨rfl, rfl, rfl, Nat.le_refl _, fun _ _ _ => rfl⟩, .inl rfl⟩
    rcases hown.2 with ⟨rfl, rfl⟩ | ⟨g, cap, cur, rfl, _, _, hle, _⟩
    · simp [Builtin.append_, run_underlying ht, sizeOf, typeInfo, hi, Builtin.lenOf, Builtin.firstCells]
    · simp [Builtin.append_, run_underlying ht, sizeOf, typeInfo, hi, Builtin.lenOf, Builtin.firstCells, hle, storeCells]
  · obtain ⟨v', w', hr, h2, h3, _, h5⟩ := run_append_own_at (P := P) w 0 t ty e i z 1 bytes ht hi hz hsize hby hzs (by omega) v n xs hown ⟨b, o, none⟩ news.length c news (by omega) (fun j u hu => by rw [add_lit]; exact hc j u hu) h1 h63 hbytes (Nat.zero_le _)
    exact ⟨v', w', hr, h2, h3, h5⟩

theorem src_at {w : World} {g : Nat} {cs : Array Value} {t : TypeId} {c : Nat} {fr : Nat × Nat} (h : w.heap[g]? = some (.cells cs t fr)) : Src w (.slice (some ⟨g, 0, none⟩) cs.size c) cs.toList := by
  refine .inr ⟨g, 0, c, by simp, (Array.getElem?_eq_some_iff.1 h).1, fun j u hu => ?_⟩
  rw [Nat.zero_add, cell_of_row w g j cs t fr h]
  simpa using hu

theorem src_of {w : World} {g : Nat} (xs : List Value) (t : TypeId) {n c : Nat} (hn : xs.length = n) (h : w.heap[g]? = some (.cells xs.toArray t (0, 0))) : Src w (.slice (some ⟨g, 0, none⟩) n c) xs := by
  have := src_at (c := c) h
  simpa [hn] using this

theorem heap_two (w : World) (a b : Obj) : ((w.alloc a).alloc b).heap[w.heap.size + 1]? = some b := by
  have := heap_alloc_new (w.alloc a) b
  simpa using this
theorem heap_three (w : World) (a b c : Obj) : (((w.alloc a).alloc b).alloc c).heap[w.heap.size + 1 + 1]? = some c := by
  have := heap_alloc_new ((w.alloc a).alloc b) c
  simpa using this
theorem heap_three_mid (w : World) (a b c : Obj) : (((w.alloc a).alloc b).alloc c).heap[w.heap.size + 1]? = some b := by
  rw [Below.heap_alloc _ _ _ (by simp), heap_two]

theorem cell_alloc {w : World} {a : Addr} {v : Value} (h : w.cell? a = some v) (o : Obj) : (w.alloc o).cell? a = some v := (World.grownBy_alloc w o none).cell h (by simp)
theorem block_lt {w : World} {b o : Nat} {v : Value} (h : w.cell? ⟨b, o, none⟩ = some v) : b < w.heap.size := World.block_lt_of_cell? w _ h

/-- An effect (what is laid, what is laid aside, what is told) that lies in blocks from B on. -/
def EffAt (B : Nat) (w : World) (v : Value) (lays aside : List Int) (tells : List UInt8) : Prop :=
  ∃ vL vA, v = .agg #[vL, vA, .string ⟨tells.toArray⟩] ∧ Src w vL (lays.map (Value.int .i64)) ∧ Src w vA (aside.map (Value.int .i64)) ∧ (∀ k, vL.ownBlock = some k → B ≤ k) ∧ (∀ k, vA.ownBlock = some k → B ≤ k)

theorem own_none : ∀ {B : Nat} (k : Nat), Value.ownBlock (.slice none 0 0) = some k → B ≤ k := fun k h => by simp [Value.ownBlock] at h
theorem own_at {B g o n c : Nat} (h : B ≤ g) : ∀ k, Value.ownBlock (.slice (some ⟨g, o, none⟩) n c) = some k → B ≤ k := fun k e => by simp [Value.ownBlock] at e; omega

theorem src_new (w : World) (xs : List Value) (t : TypeId) {n c g : Nat} (hn : xs.length = n) (hg : w.heap.size = g) : Src (w.alloc (.cells xs.toArray t)) (.slice (some ⟨g, 0, none⟩) n c) xs :=
  src_of xs t hn (by subst hg; exact heap_alloc_new w _)

theorem Src.drew {w : World} {v : Value} {xs : List Value} (h : Src w v xs) : Src w.drew v xs := h
theorem Src.setCell {w : World} {v : Value} {xs : List Value} (h : Src w v xs) {B : Nat} (hB : ∀ k, v.ownBlock = some k → B ≤ k) {p : Addr} (hp : p.block < B) (u : Value) : Src (w.setCell p u) v xs :=
  h.kept (by simp [World.setCell]) fun b e => Below.heap_setCell _ _ _ _ (by have := hB b e; omega)
theorem Src.alloc {w : World} {v : Value} {xs : List Value} (h : Src w v xs) (o : Obj) : Src (w.alloc o) v xs :=
  h.kept (by simp) fun b e => Below.heap_alloc _ _ _ (h.lt b e)

theorem bcell {W w1 : World} (hb : Below W.heap.size W w1) : (∀ b o, b < W.heap.size → w1.cell? ⟨b, o, none⟩ = W.cell? ⟨b, o, none⟩) ∧ (∀ b o, b < W.heap.size → w1.frozen? ⟨b, o, none⟩ = W.frozen? ⟨b, o, none⟩) :=
  ⟨fun b o h => hb.cell (p := ⟨b, o, none⟩) h, fun b o h => hb.frozen (p := ⟨b, o, none⟩) h⟩
end Go.Proofs.YthpcapohfjidoaaDoor
