/- A line while it is done, in plain terms, and how it lies in memory: the machine's block, the run's block, the rows of the stacks, of what was told, of the words. -/
import Derived.Test.YthpcapohfjidoaaDoorM1
import Derived.Test.YthpcapohfjidoaaDoorL4
namespace Go.Proofs.YthpcapohfjidoaaDoor
open Go.RowKit

def inI64 (x : Int) : Prop := -9223372036854775808 ≤ x ∧ x ≤ 9223372036854775807

namespace L
structure RunS where
  S : List Int
  R : List Int
  words : List (List UInt8)
  pos : Nat
  steps : Nat
  depth : Nat
  out : List UInt8

/-- An effect happens in place of what is taken, if there is room for it. -/
def commit (s : RunS) (t a : Nat) (e : Eff) : RunS × Int :=
  if 16 < s.S.length - t + e.lays.length ∨ 16 < s.R.length - a + e.aside.length then (s, 7)
  else if 300 < s.out.length + e.tells.length then (s, 12)
  else ({ s with S := s.S.take (s.S.length - t) ++ e.lays, R := s.R.take (s.R.length - a) ++ e.aside, out := s.out ++ e.tells }, 0)
end L

def byteCell (c : UInt8) : Value := .int .u8 c.toNat
def wordCell (l : List UInt8) : Value := .string ⟨l.toArray⟩

/-- A run in memory. vO, vB: the machine's words of one's own and their count; vW: the line's words; vS, vR, vT: the stacks, and what was told. -/
structure RunAt (w : World) (mb rb : Nat) (vO vB vW vS vR vT : Value) (s : L.RunS) : Prop where
  m : w.heap[mb]? = some (.cells #[vS, vR, vO, vB] 33)
  r : w.heap[rb]? = some (.cells #[.pointer (some ⟨mb, 0, none⟩), vW, .int .i64 s.pos, .int .i64 s.steps, .int .i64 s.depth, vT] 43)
  st : w.ownsRow 0 3 1 vS s.S.length (s.S.map (Value.int .i64))
  as : w.ownsRow 0 3 1 vR s.R.length (s.R.map (Value.int .i64))
  ot : w.ownsRow 0 5 1 vT s.out.length (s.out.map byteCell)
  wd : w.ownsRow 0 9 1 vW s.words.length (s.words.map wordCell)
  ap : ∀ k, vS.ownBlock = some k → vR.ownBlock = some k → False
  sl : s.S.length ≤ 16
  rl : s.R.length ≤ 16
  ol : s.out.length ≤ 300
  wl : s.words.length ≤ 500
  si : ∀ x ∈ s.S, inI64 x
  ri : ∀ x ∈ s.R, inI64 x

/-- The blocks of a run that may turn. -/
def Foot (mb rb : Nat) (vS vR vT : Value) : Nat → Prop := fun k => k = mb ∨ k = rb ∨ vS.ownBlock = some k ∨ vR.ownBlock = some k ∨ vT.ownBlock = some k

/-- A row's block has the row's type. -/
theorem owns_block {w : World} {base e n k : Nat} {v : Value} {xs : List Value} (h : w.ownsRow base e 1 v n xs) (hk : v.ownBlock = some k) : ∃ cur, w.heap[k]? = some (.cells cur e) := by
  rcases h.2 with ⟨rfl, _⟩ | ⟨g, cap, cur, rfl, _, hg, _⟩
  · simp [Value.ownBlock] at hk
  · simp [Value.ownBlock] at hk
    subst hk
    exact ⟨cur, hg⟩

/-- Blocks of different types are different. -/
theorem ne_of_type {w : World} {k g : Nat} {c c' : Array Value} {t t' : TypeId} {f f' : Nat × Nat} (h : w.heap[k]? = some (.cells c t f)) (h' : w.heap[g]? = some (.cells c' t' f')) (ht : t ≠ t') : k ≠ g := by
  rintro rfl
  rw [h] at h'
  injection h' with h1
  injection h1 with _ h2
  exact ht h2

theorem owns_kept {w w' : World} {base e n : Nat} {v : Value} {xs : List Value} (h : w.ownsRow base e 1 v n xs) (hk : ∀ k, v.ownBlock = some k → w'.heap[k]? = w.heap[k]?) : w'.ownsRow base e 1 v n xs := by
  refine ⟨h.1, ?_⟩
  rcases h.2 with h1 | ⟨g, cap, cur, rfl, hb, hg, hr⟩
  · exact .inl h1
  · exact .inr ⟨g, cap, cur, rfl, hb, by rw [hk g rfl]; exact hg, hr⟩

/-- A run whose blocks have not turned is as it was. -/
theorem RunAt.kept {w w' : World} {mb rb : Nat} {vO vB vW vS vR vT : Value} {s : L.RunS} (h : RunAt w mb rb vO vB vW vS vR vT s) (hk : ∀ k, Foot mb rb vS vR vT k ∨ vW.ownBlock = some k → w'.heap[k]? = w.heap[k]?) : RunAt w' mb rb vO vB vW vS vR vT s where
  m := by rw [hk mb (.inl (.inl rfl))]; exact h.m
  r := by rw [hk rb (.inl (.inr (.inl rfl)))]; exact h.r
  st := owns_kept h.st fun k e => hk k (.inl (.inr (.inr (.inl e))))
  as := owns_kept h.as fun k e => hk k (.inl (.inr (.inr (.inr (.inl e)))))
  ot := owns_kept h.ot fun k e => hk k (.inl (.inr (.inr (.inr (.inr e)))))
  wd := owns_kept h.wd fun k e => hk k (.inr e)
  ap := h.ap
  sl := h.sl
  rl := h.rl
  ol := h.ol
  wl := h.wl
  si := h.si
  ri := h.ri

theorem heap_lt {w : World} {k : Nat} {o : Obj} (h : w.heap[k]? = some o) : k < w.heap.size := (Array.getElem?_eq_some_iff.1 h).1

theorem RunAt.lt {w : World} {mb rb : Nat} {vO vB vW vS vR vT : Value} {s : L.RunS} (h : RunAt w mb rb vO vB vW vS vR vT s) : ∀ k, Foot mb rb vS vR vT k ∨ vW.ownBlock = some k → k < w.heap.size := by
  rintro k ((rfl | rfl | e | e | e) | e)
  · exact heap_lt h.m
  · exact heap_lt h.r
  · exact (h.st.lt k e).2
  · exact (h.as.lt k e).2
  · exact (h.ot.lt k e).2
  · exact (h.wd.lt k e).2

theorem RunAt.below {w w' : World} {mb rb : Nat} {vO vB vW vS vR vT : Value} {s : L.RunS} (h : RunAt w mb rb vO vB vW vS vR vT s) (hb : Below w.heap.size w w') : RunAt w' mb rb vO vB vW vS vR vT s :=
  h.kept fun k hk => hb.block k (h.lt k hk)

theorem cell_of_block {w : World} {b j : Nat} {cs : Array Value} {t : TypeId} {v : Value} (h : w.heap[b]? = some (.cells cs t)) (hv : cs[j]? = some v) : w.cell? ⟨b, j, none⟩ = some v := by
  rw [cell_of_row w b j cs t (0, 0) h]; exact hv
theorem frozen_of_block {w : World} {b : Nat} (j : Nat) {cs : Array Value} {t : TypeId} (h : w.heap[b]? = some (.cells cs t)) : w.frozen? ⟨b, j, none⟩ = false := by
  simp [World.frozen?, h]
end Go.Proofs.YthpcapohfjidoaaDoor
