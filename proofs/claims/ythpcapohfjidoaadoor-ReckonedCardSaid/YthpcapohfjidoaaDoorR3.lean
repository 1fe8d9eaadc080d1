/- doPrimitive: a word of the language is done: the walks, over what Plan and commit answer. -/
import Derived.Test.YthpcapohfjidoaaDoorR2
namespace Go.Proofs.YthpcapohfjidoaaDoor
open Go.RowKit
attribute [local go_sem ↓] Go.wp_at_zero Go.wp_at_succ

namespace L
def doPrim (s : RunS) (p : Prim) : RunS × Int :=
  if s.S.length < p.takes ∨ s.R.length < p.aside then (s, 6)
  else if (plan p.name (s.S.drop (s.S.length - p.takes)) (s.R.drop (s.R.length - p.aside)) s.S.length).err ≠ 0 then (s, (plan p.name (s.S.drop (s.S.length - p.takes)) (s.R.drop (s.R.length - p.aside)) s.S.length).err)
  else commit s p.takes p.aside (plan p.name (s.S.drop (s.S.length - p.takes)) (s.R.drop (s.R.length - p.aside)) s.S.length)
end L

theorem cell_set3 {w : World} {b b' j' : Nat} {u0 u1 u2 v : Value} (h : w.cell? ⟨b', j', none⟩ = some v) (hne : b' ≠ b) : (((w.setCell ⟨b, 0, none⟩ u0).setCell ⟨b, 1, none⟩ u1).setCell ⟨b, 2, none⟩ u2).cell? ⟨b', j', none⟩ = some v :=
  cell_set_far (cell_set_far (cell_set_far h hne) hne) hne

/-- The last t of a row of n. -/
def tailOf (g : Option Nat) (n t cap : Nat) : Value :=
  match g with
  | none => .slice none 0 0
  | some b => .slice (if cap = n - t then some ⟨b, 0, none⟩ else some ⟨b, n - t, none⟩) (n - (n - t)) (cap - (n - t))

set_option maxRecDepth 100000 in
theorem doPrim_under (w : World) (mb rb n m t a capS capR : Nat) (aS aR : Option Addr) (nm : ByteArray) (g : Int)
    (hr0 : ∀ o, (w.alloc o).cell? ⟨rb, 0, none⟩ = some (.pointer (some ⟨mb, 0, none⟩)))
    (hm0 : ∀ o, (w.alloc o).cell? ⟨mb, 0, none⟩ = some (.slice aS n capS)) (hm1 : ∀ o, (w.alloc o).cell? ⟨mb, 1, none⟩ = some (.slice aR m capR))
    (h : n < t ∨ m < a) :
    Calls Tryd.prog 22 #[.pointer (some ⟨rb, 0, none⟩), .agg #[.string nm, .int .i64 t, .int .i64 a, .int .i64 g]] w fun r w' => r = .returned (.int .i64 6) ∧ Below w.heap.size w w' := by
  go_enter Tryd.func22, Tryd.ntmps22
  go_wp2
  go_region_held3 (fun w' => w'.cell? ⟨rb, 0, none⟩ = some (.pointer (some ⟨mb, 0, none⟩)) ∧ w'.cell? ⟨mb, 0, none⟩ = some (.slice aS n capS) ∧ w'.cell? ⟨mb, 1, none⟩ = some (.slice aR m capR)) (first | exact ⟨hr0 _, hm0 _, hm1 _⟩ | go_keep) (fail)
  go_wp2
  all_goals first
    | (exfalso; omega)
    | (go_ret; exact ⟨rfl, ((Below.refl _ _).alloc (Nat.le_refl _) _).drew⟩)

end Go.Proofs.YthpcapohfjidoaaDoor
