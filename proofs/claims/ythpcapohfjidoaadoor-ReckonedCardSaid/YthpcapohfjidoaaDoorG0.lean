/- A run that goes on to another one; and what doing a word of a line comes to, in plain terms. -/
import Derived.Test.YthpcapohfjidoaaDoorR3
import Derived.Test.YthpcapohfjidoaaDoorL0
import Derived.Test.YthpcapohfjidoaaDoorL2
namespace Go.Proofs.YthpcapohfjidoaaDoor
open Go.RowKit

theorem tail_src {w : World} {e g n t cap : Nat} {xs : List Value} (h : w.ownsRow 0 e 1 (.slice (some ⟨g, 0, none⟩) n cap) n xs) (hn : n ≤ cap) :
    Src w (.slice (if cap = n - t then (some ⟨g, 0, none⟩ : Option Addr) else some ⟨g, n - t, none⟩) (n - (n - t)) (cap - (n - t))) (xs.drop (n - t)) := by
  have hl : xs.length = n := by simpa using h.1
  have hc := h.cells (g := g) rfl
  have hlt := (h.lt g rfl).2
  by_cases he : cap = n - t
  · have h0 : xs.drop (n - t) = [] := List.drop_eq_nil_of_le (by omega)
    rw [if_pos he, h0]
    exact .inr ⟨g, 0, _, by rw [show n - (n - t) = 0 by omega]; rfl, hlt, fun j u hu => by simp at hu⟩
  · rw [if_neg he]
    refine .inr ⟨g, n - t, _, by rw [List.length_drop, hl], hlt, fun j u hu => ?_⟩
    rw [List.getElem?_drop] at hu
    have := hc _ u hu
    rwa [add_lit, Nat.zero_add] at this

/-- A run goes on to another one. -/
def Goes (mb rb : Nat) (vO vB vW vS vR vT : Value) (s' : L.RunS) (w w' : World) : Prop :=
  ∃ v1 v2 v3, RunAt w' mb rb vO vB vW v1 v2 v3 s' ∧ Mv (Foot mb rb vS vR vT) w w' ∧ Fresh w (Foot mb rb vS vR vT) (Foot mb rb v1 v2 v3)

theorem Goes.stay {w w' : World} {mb rb : Nat} {vO vB vW vS vR vT : Value} {s : L.RunS} (h : RunAt w mb rb vO vB vW vS vR vT s) (hb : Below w.heap.size w w') : Goes mb rb vO vB vW vS vR vT s w w' :=
  ⟨_, _, _, h.below hb, Mv.of_below hb _, Fresh.refl _ _⟩

theorem Goes.after {w W w' : World} {mb rb : Nat} {vO vB vW vS vR vT : Value} {s' : L.RunS} (hb : Below w.heap.size w W) (h : Goes mb rb vO vB vW vS vR vT s' W w') : Goes mb rb vO vB vW vS vR vT s' w w' := by
  obtain ⟨v1, v2, v3, h1, h2, h3⟩ := h
  exact ⟨v1, v2, v3, h1, (Mv.of_below hb _).trans (Fresh.refl _ _) h2, (Fresh.refl _ _).trans hb.size h3⟩

theorem owns_cases {w : World} {e n : Nat} {v : Value} {xs : List Value} (h : w.ownsRow 0 e 1 v n xs) : (v = .slice none 0 0 ∧ n = 0 ∧ xs = []) ∨ ∃ g cap, v = .slice (some ⟨g, 0, none⟩) n cap ∧ n ≤ cap := by
  have hl := h.1
  rcases h.2 with ⟨h1, h2⟩ | ⟨g, cap, _, h1, _, _, h2, _⟩
  · exact .inl ⟨h1, h2, List.length_eq_zero_iff.1 (by omega)⟩
  · exact .inr ⟨g, cap, h1, h2⟩

theorem mem_getD {T : List Int} (h : ∀ x ∈ T, inI64 x) (k : Nat) : inI64 (T.getD k 0) := by
  rw [List.getD_eq_getElem?_getD]
  cases hk : T[k]? with
  | none => exact ⟨by simp, by simp⟩
  | some x => exact h x (List.mem_of_getElem? hk)

namespace L
def doWord (s : RunS) (l : List UInt8) : RunS × Int :=
  match find l with
  | some p => doPrim s p
  | none => match number l with
    | some n => commit s 0 0 ⟨[n], [], [], 0⟩
    | none => (s, 2)
def stepPlain (s : RunS) (l : List UInt8) : RunS × Int := if (countStep s).2 ≠ 0 then countStep s else doWord (countStep s).1 l

/-- What doing a word leaves alone. -/
def Same (s s' : RunS) : Prop := s'.words = s.words ∧ s'.pos = s.pos ∧ s'.steps = s.steps ∧ s'.depth = s.depth
theorem commit_same (s : RunS) (t a : Nat) (e : Eff) : Same s (commit s t a e).1 := by
  unfold commit
  split
  · exact ⟨rfl, rfl, rfl, rfl⟩
  · split <;> exact ⟨rfl, rfl, rfl, rfl⟩
theorem doPrim_same (s : RunS) (p : Prim) : Same s (doPrim s p).1 := by
  unfold doPrim
  split
  · exact ⟨rfl, rfl, rfl, rfl⟩
  · split
    · exact ⟨rfl, rfl, rfl, rfl⟩
    · exact commit_same _ _ _ _
theorem doWord_same (s : RunS) (l : List UInt8) : Same s (doWord s l).1 := by
  unfold doWord
  split
  · exact doPrim_same _ _
  · split
    · exact commit_same _ _ _ _
    · exact ⟨rfl, rfl, rfl, rfl⟩
theorem number_in {l : List UInt8} {n : Int} (h : number l = some n) : inI64 n := by
  unfold number at h
  split at h
  · cases h
  · rename_i hc
    have hd : (Lib.trimPrefix l [45]).all isDigit = true := by
      cases hh : (Lib.trimPrefix l [45]).all isDigit with
      | true => rfl
      | false => exact (hc (.inr (.inr hh))).elim
    have h1 := digVal_lt _ hd
    have h2 := pow_le (Lib.trimPrefix l [45]).length (by omega)
    injection h with h
    unfold inI64
    split at h <;> omega
end L

theorem tab_next {F : Nat → Prop} {w w' : World} (h : TabOk w) (hF : ¬ F 0) (hm : Mv F w w') : TabOk w' := tabIs_of_block h (hm.block _ (tab_lt h) hF)
theorem foot_next {F F' : Nat → Prop} {w : World} (h : TabOk w) (hF : ¬ F 0) (hf : Fresh w F F') : ¬ F' 0 := fun h' => by
  rcases hf _ h' with x | x
  · exact hF x
  · have := tab_lt h
    omega

theorem Goes.from {w W w' : World} {mb rb : Nat} {vO vB vW vS vR vT : Value} {s' : L.RunS} (hm : Mv (Foot mb rb vS vR vT) w W) (h : Goes mb rb vO vB vW vS vR vT s' W w') : Goes mb rb vO vB vW vS vR vT s' w w' := by
  obtain ⟨v1, v2, v3, h1, h2, h3⟩ := h
  exact ⟨v1, v2, v3, h1, hm.trans (Fresh.refl _ _) h2, (Fresh.refl _ _).trans hm.size h3⟩

/-- The cells of a run that step reads. -/
theorem RunAt.reads {w : World} {mb rb gW capW : Nat} {vO vB vS vR vT : Value} {s : L.RunS} {l : List UInt8} (h : RunAt w mb rb vO vB (.slice (some ⟨gW, 0, none⟩) s.words.length capW) vS vR vT s) (hl : s.words[s.pos]? = some l) :
    w.cell? ⟨rb, 0, none⟩ = some (.pointer (some ⟨mb, 0, none⟩)) ∧ w.cell? ⟨rb, 1, none⟩ = some (.slice (some ⟨gW, 0, none⟩) s.words.length capW) ∧ w.cell? ⟨rb, 2, none⟩ = some (.int .i64 s.pos) ∧ w.cell? ⟨gW, s.pos, none⟩ = some (.string ⟨l.toArray⟩) := by
  refine ⟨cell_of_block h.r rfl, cell_of_block h.r rfl, cell_of_block h.r rfl, ?_⟩
  have hc := h.wd.cells (g := gW) rfl s.pos (wordCell l) (by rw [List.getElem?_map, hl]; rfl)
  rwa [add_lit, Nat.zero_add] at hc

end Go.Proofs.YthpcapohfjidoaaDoor
