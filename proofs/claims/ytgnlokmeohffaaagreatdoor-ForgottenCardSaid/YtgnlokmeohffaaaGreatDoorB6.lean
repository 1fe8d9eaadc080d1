/- Parts of the proof: see the last text. -/
import Derived.Lib.SliceRun
import Derived.Handy
import Derived.Test.YtgnlokmeohffaaaGreatDoorB5
/- countLoop: the walks. (Written by tools/mkcount.py.) -/
namespace Go.Proofs.YtgnlokmeohffaaaGreatDoor
open Go.RowKit
attribute [local go_sem ↓] Go.wp_at_zero Go.wp_at_succ

set_option maxRecDepth 100000 in
set_option maxHeartbeats 1600000 in
theorem count_on (w : World) (cb g m n cap : Nat) (cur : Array Value) (lim cnt goal pos c' : Int) (hn : n = m + 1) (hm : m ≤ 1000) (hcap : n ≤ cap) (c3 : w.cell? ⟨cb, 3, none⟩ = some (.slice (some ⟨g, 0, none⟩) n cap)) (c2 : w.cell? ⟨cb, 2, none⟩ = some (.int .i64 pos)) (f2 : w.frozen? ⟨cb, 2, none⟩ = false) (f3 : w.frozen? ⟨cb, 3, none⟩ = false)
    (hg : w.heap[g]? = some (.cells cur 206)) (q0 : cur[m * 2]? = some (.int .i64 cnt)) (q1 : cur[m * 2 + 1]? = some (.int .i64 lim)) (hne : cb ≠ g) (hc : IntKind.i64.wrap (cnt + 1) = c') (hlt : c' < lim) :
    Calls Tryz.prog 131 #[.pointer (some ⟨cb, 0, none⟩), .int .i64 goal] w fun r w1 => r = .returned (.tuple #[]) ∧ ∃ w', w' = w.setCell ⟨g, m * 2, none⟩ (.int .i64 c') ∧ w1 = (w'.drew.setCell ⟨cb, 2, none⟩ (.int .i64 goal)) := by
  have g0 : w.cell? ⟨g, m * 2, none⟩ = some (.int .i64 cnt) := cell_of_block hg q0
  have f0 : w.frozen? ⟨g, m * 2, none⟩ = false := frozen_of_block _ hg
  have i0 : IntKind.i64.wrap ((n : Int) - 1) = (m : Int) := by rw [IntKind.wrap_i64]; omega
  have i1 : (0 : Int) ≤ (m : Int) := by omega
  have i2 : (m : Int) < (n : Int) := by omega
  have i3 : (n : Int) ≤ (cap : Int) := by omega
  have i4 : (m : Int) ≤ (cap : Int) := by omega
  have hg2 := set_block hg (m * 2) (.int .i64 c')
  have hlt0 : m * 2 < cur.size := (Array.getElem?_eq_some_iff.1 q0).1
  have d0 : (w.setCell ⟨g, m * 2, none⟩ (.int .i64 c')).cell? ⟨g, m * 2, none⟩ = some (.int .i64 c') := cell_of_block hg2 (by simp [hlt0])
  have d1 : (w.setCell ⟨g, m * 2, none⟩ (.int .i64 c')).cell? ⟨g, m * 2 + 1, none⟩ = some (.int .i64 lim) := cell_of_block hg2 (by rw [Array.getElem?_setIfInBounds_ne (by omega)]; exact q1)
  have d3 := cell_set_far (j := m * 2) (u := .int .i64 c') c3 hne
  have d2 := cell_set_far (j := m * 2) (u := .int .i64 c') c2 hne
  have e2 : (w.setCell ⟨g, m * 2, none⟩ (.int .i64 c')).frozen? ⟨cb, 2, none⟩ = false := by rw [World.frozen?_of_block (w := w) (Below.heap_setCell _ _ _ _ hne)]; exact f2
  have e3 : (w.setCell ⟨g, m * 2, none⟩ (.int .i64 c')).frozen? ⟨cb, 3, none⟩ = false := by rw [World.frozen?_of_block (w := w) (Below.heap_setCell _ _ _ _ hne)]; exact f3
  have Hn := hide (And.intro hn (And.intro hm hcap))
  clear hn hm hcap hg hg2 q0 q1 hlt0 hne f2 f3
  go_enter Tryz.func131, Tryz.ntmps131
  go_wp2
  generalize hw2 : w.setCell ⟨g, m * 2, none⟩ (.int .i64 c') = w2 at *
  have Hw2 := hide hw2
  clear hw2 c3 c2 g0 f0
  go_region_held3 (fun w' => w'.cell? ⟨cb, 3, none⟩ = some (.slice (some ⟨g, 0, none⟩) n cap) ∧ w'.cell? ⟨g, m * 2, none⟩ = some (.int .i64 c') ∧ w'.cell? ⟨g, m * 2 + 1, none⟩ = some (.int .i64 lim)) (first | exact ⟨d3, d0, d1⟩ | go_keep) (fail)
  go_wp2
  go_end0
  exact ⟨rfl, w2, (unhide Hw2).symm, rfl⟩

set_option maxRecDepth 100000 in
set_option maxHeartbeats 1600000 in
theorem count_off (w : World) (cb g m n cap : Nat) (cur : Array Value) (lim cnt goal pos c' : Int) (hn : n = m + 1) (hm : m ≤ 1000) (hcap : n ≤ cap) (c3 : w.cell? ⟨cb, 3, none⟩ = some (.slice (some ⟨g, 0, none⟩) n cap)) (c2 : w.cell? ⟨cb, 2, none⟩ = some (.int .i64 pos)) (f2 : w.frozen? ⟨cb, 2, none⟩ = false) (f3 : w.frozen? ⟨cb, 3, none⟩ = false)
    (hg : w.heap[g]? = some (.cells cur 206)) (q0 : cur[m * 2]? = some (.int .i64 cnt)) (q1 : cur[m * 2 + 1]? = some (.int .i64 lim)) (hne : cb ≠ g) (hc : IntKind.i64.wrap (cnt + 1) = c') (hlt : ¬ c' < lim) :
    Calls Tryz.prog 131 #[.pointer (some ⟨cb, 0, none⟩), .int .i64 goal] w fun r w1 => r = .returned (.tuple #[]) ∧ ∃ w', w' = w.setCell ⟨g, m * 2, none⟩ (.int .i64 c') ∧ w1 = (w'.drew.setCell ⟨cb, 3, none⟩ (.slice (some ⟨g, 0, none⟩) m cap)) := by
  have g0 : w.cell? ⟨g, m * 2, none⟩ = some (.int .i64 cnt) := cell_of_block hg q0
  have f0 : w.frozen? ⟨g, m * 2, none⟩ = false := frozen_of_block _ hg
  have i0 : IntKind.i64.wrap ((n : Int) - 1) = (m : Int) := by rw [IntKind.wrap_i64]; omega
  have i1 : (0 : Int) ≤ (m : Int) := by omega
  have i2 : (m : Int) < (n : Int) := by omega
  have i3 : (n : Int) ≤ (cap : Int) := by omega
  have i4 : (m : Int) ≤ (cap : Int) := by omega
  have hg2 := set_block hg (m * 2) (.int .i64 c')
  have hlt0 : m * 2 < cur.size := (Array.getElem?_eq_some_iff.1 q0).1
  have d0 : (w.setCell ⟨g, m * 2, none⟩ (.int .i64 c')).cell? ⟨g, m * 2, none⟩ = some (.int .i64 c') := cell_of_block hg2 (by simp [hlt0])
  have d1 : (w.setCell ⟨g, m * 2, none⟩ (.int .i64 c')).cell? ⟨g, m * 2 + 1, none⟩ = some (.int .i64 lim) := cell_of_block hg2 (by rw [Array.getElem?_setIfInBounds_ne (by omega)]; exact q1)
  have d3 := cell_set_far (j := m * 2) (u := .int .i64 c') c3 hne
  have d2 := cell_set_far (j := m * 2) (u := .int .i64 c') c2 hne
  have e2 : (w.setCell ⟨g, m * 2, none⟩ (.int .i64 c')).frozen? ⟨cb, 2, none⟩ = false := by rw [World.frozen?_of_block (w := w) (Below.heap_setCell _ _ _ _ hne)]; exact f2
  have e3 : (w.setCell ⟨g, m * 2, none⟩ (.int .i64 c')).frozen? ⟨cb, 3, none⟩ = false := by rw [World.frozen?_of_block (w := w) (Below.heap_setCell _ _ _ _ hne)]; exact f3
  have Hn := hide (And.intro hn (And.intro hm hcap))
  clear hn hm hcap hg hg2 q0 q1 hlt0 hne f2 f3
  go_enter Tryz.func131, Tryz.ntmps131
  go_wp2
  generalize hw2 : w.setCell ⟨g, m * 2, none⟩ (.int .i64 c') = w2 at *
  have Hw2 := hide hw2
  clear hw2 c3 c2 g0 f0
  go_region_held3 (fun w' => w'.cell? ⟨cb, 3, none⟩ = some (.slice (some ⟨g, 0, none⟩) n cap) ∧ w'.cell? ⟨g, m * 2, none⟩ = some (.int .i64 c') ∧ w'.cell? ⟨g, m * 2 + 1, none⟩ = some (.int .i64 lim)) (first | exact ⟨d3, d0, d1⟩ | go_keep) (fail)
  go_wp2
  go_end0
  exact ⟨rfl, w2, (unhide Hw2).symm, rfl⟩

end Go.Proofs.YtgnlokmeohffaaaGreatDoor
/- control: what a bold word within a body does, a walk a word. (Written by tools/mkctl.py.) -/
namespace Go.Proofs.YtgnlokmeohffaaaGreatDoor
open Go.RowKit
attribute [local go_sem ↓] Go.wp_at_zero Go.wp_at_succ

set_option maxRecDepth 100000 in
set_option maxHeartbeats 800000 in
theorem ctl_if (w : World) (cb : Nat) (goal code : Int) (P : World → World → Prop)
    (H : Hid (∀ W, Below w.heap.size w W → Calls Tryz.prog 129 #[.pointer (some ⟨cb, 0, none⟩), .int .i64 goal] W fun r w' => r = .returned (.int .i64 code) ∧ P W w')) :
    Calls Tryz.prog 122 #[.pointer (some ⟨cb, 0, none⟩), .agg #[.string ⟨#[105, 102]⟩, .int .i64 goal]] w fun r w' => r = .returned (.int .i64 code) ∧ ∃ W, Below w.heap.size w W ∧ P W w' := by
  go_enter Tryz.func122, Tryz.ntmps122
  go_wp2_with fail
  refine (unhide H _ ((Below.refl _ _).alloc (Nat.le_refl _) _)).mono ?_
  rintro e w' ⟨rfl, hP⟩
  have HP := hide hP
  clear hP
  go_wp2
  go_ret
  exact ⟨rfl, _, (Below.refl _ _).alloc (Nat.le_refl _) _, unhide HP⟩

set_option maxRecDepth 100000 in
set_option maxHeartbeats 800000 in
theorem ctl_until (w : World) (cb : Nat) (goal code : Int) (P : World → World → Prop)
    (H : Hid (∀ W, Below w.heap.size w W → Calls Tryz.prog 129 #[.pointer (some ⟨cb, 0, none⟩), .int .i64 goal] W fun r w' => r = .returned (.int .i64 code) ∧ P W w')) :
    Calls Tryz.prog 122 #[.pointer (some ⟨cb, 0, none⟩), .agg #[.string ⟨#[117, 110, 116, 105, 108]⟩, .int .i64 goal]] w fun r w' => r = .returned (.int .i64 code) ∧ ∃ W, Below w.heap.size w W ∧ P W w' := by
  go_enter Tryz.func122, Tryz.ntmps122
  go_wp2_with fail
  refine (unhide H _ ((Below.refl _ _).alloc (Nat.le_refl _) _)).mono ?_
  rintro e w' ⟨rfl, hP⟩
  have HP := hide hP
  clear hP
  go_wp2
  go_ret
  exact ⟨rfl, _, (Below.refl _ _).alloc (Nat.le_refl _) _, unhide HP⟩

set_option maxRecDepth 100000 in
set_option maxHeartbeats 800000 in
theorem ctl_while (w : World) (cb : Nat) (goal code : Int) (P : World → World → Prop)
    (H : Hid (∀ W, Below w.heap.size w W → Calls Tryz.prog 129 #[.pointer (some ⟨cb, 0, none⟩), .int .i64 goal] W fun r w' => r = .returned (.int .i64 code) ∧ P W w')) :
    Calls Tryz.prog 122 #[.pointer (some ⟨cb, 0, none⟩), .agg #[.string ⟨#[119, 104, 105, 108, 101]⟩, .int .i64 goal]] w fun r w' => r = .returned (.int .i64 code) ∧ ∃ W, Below w.heap.size w W ∧ P W w' := by
  go_enter Tryz.func122, Tryz.ntmps122
  go_wp2_with fail
  refine (unhide H _ ((Below.refl _ _).alloc (Nat.le_refl _) _)).mono ?_
  rintro e w' ⟨rfl, hP⟩
  have HP := hide hP
  clear hP
  go_wp2
  go_ret
  exact ⟨rfl, _, (Below.refl _ _).alloc (Nat.le_refl _) _, unhide HP⟩

set_option maxRecDepth 100000 in
set_option maxHeartbeats 800000 in
theorem ctl_do (w : World) (cb : Nat) (goal code : Int) (P : World → World → Prop)
    (H : Hid (∀ W, Below w.heap.size w W → Calls Tryz.prog 130 #[.pointer (some ⟨cb, 0, none⟩), .int .i64 goal] W fun r w' => r = .returned (.int .i64 code) ∧ P W w')) :
    Calls Tryz.prog 122 #[.pointer (some ⟨cb, 0, none⟩), .agg #[.string ⟨#[100, 111]⟩, .int .i64 goal]] w fun r w' => r = .returned (.int .i64 code) ∧ ∃ W, Below w.heap.size w W ∧ P W w' := by
  go_enter Tryz.func122, Tryz.ntmps122
  go_wp2_with fail
  refine (unhide H _ ((Below.refl _ _).alloc (Nat.le_refl _) _)).mono ?_
  rintro e w' ⟨rfl, hP⟩
  have HP := hide hP
  clear hP
  go_wp2
  go_ret
  exact ⟨rfl, _, (Below.refl _ _).alloc (Nat.le_refl _) _, unhide HP⟩

set_option maxRecDepth 100000 in
set_option maxHeartbeats 800000 in
theorem ctl_else (w : World) (cb : Nat) (goal pos : Int) (c2 : w.cell? ⟨cb, 2, none⟩ = some (.int .i64 pos)) (f2 : w.frozen? ⟨cb, 2, none⟩ = false) :
    Calls Tryz.prog 122 #[.pointer (some ⟨cb, 0, none⟩), .agg #[.string ⟨#[101, 108, 115, 101]⟩, .int .i64 goal]] w fun r w' => r = .returned (.int .i64 0) ∧ ∃ W, Below w.heap.size w W ∧ w' = W.setCell ⟨cb, 2, none⟩ (.int .i64 goal) := by
  have d2 := fun o => cell_alloc c2 o
  have e2 : ∀ o, (w.alloc o).frozen? ⟨cb, 2, none⟩ = false := fun o => grown_fz (World.grownBy_alloc w o none) c2 f2 (by simp)
  go_enter Tryz.func122, Tryz.ntmps122
  go_wp2
  go_ret
  exact ⟨rfl, _, (Below.refl _ _).alloc (Nat.le_refl _) _, rfl⟩

set_option maxRecDepth 100000 in
set_option maxHeartbeats 800000 in
theorem ctl_again (w : World) (cb : Nat) (goal pos : Int) (c2 : w.cell? ⟨cb, 2, none⟩ = some (.int .i64 pos)) (f2 : w.frozen? ⟨cb, 2, none⟩ = false) :
    Calls Tryz.prog 122 #[.pointer (some ⟨cb, 0, none⟩), .agg #[.string ⟨#[97, 103, 97, 105, 110]⟩, .int .i64 goal]] w fun r w' => r = .returned (.int .i64 0) ∧ ∃ W, Below w.heap.size w W ∧ w' = W.setCell ⟨cb, 2, none⟩ (.int .i64 goal) := by
  have d2 := fun o => cell_alloc c2 o
  have e2 : ∀ o, (w.alloc o).frozen? ⟨cb, 2, none⟩ = false := fun o => grown_fz (World.grownBy_alloc w o none) c2 f2 (by simp)
  go_enter Tryz.func122, Tryz.ntmps122
  go_wp2
  go_ret
  exact ⟨rfl, _, (Below.refl _ _).alloc (Nat.le_refl _) _, rfl⟩

set_option maxRecDepth 100000 in
set_option maxHeartbeats 800000 in
theorem ctl_repeat (w : World) (cb : Nat) (goal pos : Int) (c2 : w.cell? ⟨cb, 2, none⟩ = some (.int .i64 pos)) (f2 : w.frozen? ⟨cb, 2, none⟩ = false) :
    Calls Tryz.prog 122 #[.pointer (some ⟨cb, 0, none⟩), .agg #[.string ⟨#[114, 101, 112, 101, 97, 116]⟩, .int .i64 goal]] w fun r w' => r = .returned (.int .i64 0) ∧ ∃ W, Below w.heap.size w W ∧ w' = W.setCell ⟨cb, 2, none⟩ (.int .i64 goal) := by
  have d2 := fun o => cell_alloc c2 o
  have e2 : ∀ o, (w.alloc o).frozen? ⟨cb, 2, none⟩ = false := fun o => grown_fz (World.grownBy_alloc w o none) c2 f2 (by simp)
  go_enter Tryz.func122, Tryz.ntmps122
  go_wp2
  go_ret
  exact ⟨rfl, _, (Below.refl _ _).alloc (Nat.le_refl _) _, rfl⟩

set_option maxRecDepth 100000 in
set_option maxHeartbeats 800000 in
theorem ctl_then (w : World) (cb : Nat) (goal : Int) :
    Calls Tryz.prog 122 #[.pointer (some ⟨cb, 0, none⟩), .agg #[.string ⟨#[116, 104, 101, 110]⟩, .int .i64 goal]] w fun r w' => r = .returned (.int .i64 0) ∧ Below w.heap.size w w' := by
  go_enter Tryz.func122, Tryz.ntmps122
  go_wp2
  go_ret
  exact ⟨rfl, (Below.refl _ _).alloc (Nat.le_refl _) _⟩

set_option maxRecDepth 100000 in
set_option maxHeartbeats 800000 in
theorem ctl_begin (w : World) (cb : Nat) (goal : Int) :
    Calls Tryz.prog 122 #[.pointer (some ⟨cb, 0, none⟩), .agg #[.string ⟨#[98, 101, 103, 105, 110]⟩, .int .i64 goal]] w fun r w' => r = .returned (.int .i64 0) ∧ Below w.heap.size w w' := by
  go_enter Tryz.func122, Tryz.ntmps122
  go_wp2
  go_ret
  exact ⟨rfl, (Below.refl _ _).alloc (Nat.le_refl _) _⟩

set_option maxRecDepth 100000 in
set_option maxHeartbeats 800000 in
theorem ctl_loop (w : World) (cb : Nat) (goal : Int) (P : World → World → Prop)
    (H : Hid (∀ W, Below w.heap.size w W → Calls Tryz.prog 131 #[.pointer (some ⟨cb, 0, none⟩), .int .i64 goal] W fun r w' => r = .returned (.tuple #[]) ∧ P W w')) :
    Calls Tryz.prog 122 #[.pointer (some ⟨cb, 0, none⟩), .agg #[.string ⟨#[108, 111, 111, 112]⟩, .int .i64 goal]] w fun r w' => r = .returned (.int .i64 0) ∧ ∃ W, Below w.heap.size w W ∧ P W w' := by
  go_enter Tryz.func122, Tryz.ntmps122
  go_wp2_with fail
  refine (unhide H _ ((Below.refl _ _).alloc (Nat.le_refl _) _)).mono ?_
  rintro e w' ⟨rfl, hP⟩
  have HP := hide hP
  clear hP
  go_wp2
  go_ret
  exact ⟨rfl, _, (Below.refl _ _).alloc (Nat.le_refl _) _, unhide HP⟩

set_option maxRecDepth 100000 in
set_option maxHeartbeats 800000 in
theorem ctl_leave (w : World) (cb g m n cap : Nat) (goal pos : Int) (hn : n = m + 1) (hm : m ≤ 1000) (hcap : n ≤ cap) (c2 : w.cell? ⟨cb, 2, none⟩ = some (.int .i64 pos)) (f2 : w.frozen? ⟨cb, 2, none⟩ = false) (c3 : w.cell? ⟨cb, 3, none⟩ = some (.slice (some ⟨g, 0, none⟩) n cap)) (f3 : w.frozen? ⟨cb, 3, none⟩ = false) :
    Calls Tryz.prog 122 #[.pointer (some ⟨cb, 0, none⟩), .agg #[.string ⟨#[108, 101, 97, 118, 101]⟩, .int .i64 goal]] w fun r w' => r = .returned (.int .i64 0) ∧ ∃ W, Below w.heap.size w W ∧ w' = (W.setCell ⟨cb, 3, none⟩ (.slice (some ⟨g, 0, none⟩) m cap)).setCell ⟨cb, 2, none⟩ (.int .i64 goal) := by
  have i0 : IntKind.i64.wrap ((n : Int) - 1) = (m : Int) := by rw [IntKind.wrap_i64]; omega
  have i1 : (0 : Int) ≤ (m : Int) := by omega
  have i4 : (m : Int) ≤ (cap : Int) := by omega
  have i5 : (m : Int) ≤ (n : Int) := by omega
  have d2 := fun o => cell_alloc c2 o
  have d3 := fun o => cell_alloc c3 o
  have e2 : ∀ o, (w.alloc o).frozen? ⟨cb, 2, none⟩ = false := fun o => grown_fz (World.grownBy_alloc w o none) c2 f2 (by simp)
  have e3 : ∀ o, (w.alloc o).frozen? ⟨cb, 3, none⟩ = false := fun o => grown_fz (World.grownBy_alloc w o none) c3 f3 (by simp)
  clear hn hm hcap
  go_enter Tryz.func122, Tryz.ntmps122
  go_wp2
  go_region_law (fail)
  all_goals (go_wp2; go_ret; exact ⟨rfl, (w.alloc (Obj.cells #[Value.string ⟨#[108, 101, 97, 118, 101]⟩, Value.int .i64 goal] 196)).drew, ((Below.refl _ _).alloc (Nat.le_refl _) _).drew, rfl⟩)

set_option maxRecDepth 100000 in
set_option maxHeartbeats 800000 in
theorem ctl_i (w : World) (cb rb g m n cap : Nat) (goal cnt code : Int) (P : World → World → Prop) (hn : n = m + 1) (hm : m ≤ 1000) (c0 : w.cell? ⟨cb, 0, none⟩ = some (.pointer (some ⟨rb, 0, none⟩))) (c3 : w.cell? ⟨cb, 3, none⟩ = some (.slice (some ⟨g, 0, none⟩) n cap)) (g0 : w.cell? ⟨g, m * 2, none⟩ = some (.int .i64 cnt))
    (H : Hid (∀ W, Below w.heap.size w W → Calls Tryz.prog 62 #[.pointer (some ⟨rb, 0, none⟩), .int .i64 cnt] W fun r w' => r = .returned (.int .i64 code) ∧ (w'.cell? ⟨cb, 0, none⟩ = some (.pointer (some ⟨rb, 0, none⟩)) ∧ w'.cell? ⟨cb, 3, none⟩ = some (.slice (some ⟨g, 0, none⟩) n cap) ∧ w'.cell? ⟨g, m * 2, none⟩ = some (.int .i64 cnt)) ∧ P W w')) :
    Calls Tryz.prog 122 #[.pointer (some ⟨cb, 0, none⟩), .agg #[.string ⟨#[105]⟩, .int .i64 goal]] w fun r w' => r = .returned (.int .i64 code) ∧ ∃ W, Below w.heap.size w W ∧ P W w' := by
  have i0 : IntKind.i64.wrap ((n : Int) - 1) = (m : Int) := by rw [IntKind.wrap_i64]; omega
  have i1 : (0 : Int) ≤ (m : Int) := by omega
  have i2 : (m : Int) < (n : Int) := by omega
  have d0 := cell_alloc c0 (Obj.cells #[Value.string ⟨#[105]⟩, Value.int .i64 goal] 196)
  have d3 := cell_alloc c3 (Obj.cells #[Value.string ⟨#[105]⟩, Value.int .i64 goal] 196)
  have dg := cell_alloc g0 (Obj.cells #[Value.string ⟨#[105]⟩, Value.int .i64 goal] 196)
  have hb1 : Below w.heap.size w (w.alloc (Obj.cells #[Value.string ⟨#[105]⟩, Value.int .i64 goal] 196)) := (Below.refl _ _).alloc (Nat.le_refl _) _
  clear hn hm c0 c3 g0
  go_enter Tryz.func122, Tryz.ntmps122
  go_wp2
  generalize (w.alloc (Obj.cells #[Value.string ⟨#[105]⟩, Value.int .i64 goal] 196)) = w1 at *
  go_region_held3 (fun w' => w'.cell? ⟨cb, 0, none⟩ = some (.pointer (some ⟨rb, 0, none⟩)) ∧ w'.cell? ⟨cb, 3, none⟩ = some (.slice (some ⟨g, 0, none⟩) n cap) ∧ w'.cell? ⟨g, m * 2, none⟩ = some (.int .i64 cnt)) (first | exact ⟨d0, d3, dg⟩ | exact (by assumption) | go_keep)
    ((go_at_call 62; refine (unhide H _ hb1.drew).mono ?_
      rintro e w2 ⟨rfl, ⟨d0, d3, dg⟩, hP⟩
      have HP := hide hP
      clear hP))
  go_wp2
  go_ret
  exact ⟨rfl, _, hb1.drew, unhide HP⟩

set_option maxRecDepth 100000 in
set_option maxHeartbeats 800000 in
theorem ctl_exit (w : World) (cb db n cap : Nat) (a : Option Addr) (goal pos : Int) (c1 : w.cell? ⟨cb, 1, none⟩ = some (.pointer (some ⟨db, 0, none⟩))) (c2 : w.cell? ⟨cb, 2, none⟩ = some (.int .i64 pos)) (f2 : w.frozen? ⟨cb, 2, none⟩ = false) (e2 : w.cell? ⟨db, 2, none⟩ = some (.slice a n cap)) :
    Calls Tryz.prog 122 #[.pointer (some ⟨cb, 0, none⟩), .agg #[.string ⟨#[101, 120, 105, 116]⟩, .int .i64 goal]] w fun r w' => r = .returned (.int .i64 0) ∧ ∃ W, Below w.heap.size w W ∧ w' = W.setCell ⟨cb, 2, none⟩ (.int .i64 n) := by
  have d1 := fun o => cell_alloc c1 o
  have d2 := fun o => cell_alloc c2 o
  have dd := fun o => cell_alloc e2 o
  have e2 : ∀ o, (w.alloc o).frozen? ⟨cb, 2, none⟩ = false := fun o => grown_fz (World.grownBy_alloc w o none) c2 f2 (by simp)
  go_enter Tryz.func122, Tryz.ntmps122
  go_wp2
  go_ret
  exact ⟨rfl, _, (Below.refl _ _).alloc (Nat.le_refl _) _, rfl⟩

set_option maxRecDepth 100000 in
set_option maxHeartbeats 800000 in
theorem ctl_recurse (w : World) (cb rb db : Nat) (goal code : Int) (P : World → World → Prop) (c0 : w.cell? ⟨cb, 0, none⟩ = some (.pointer (some ⟨rb, 0, none⟩))) (c1 : w.cell? ⟨cb, 1, none⟩ = some (.pointer (some ⟨db, 0, none⟩)))
    (H : Hid (∀ W, Below w.heap.size w W → Calls Tryz.prog 64 #[.pointer (some ⟨rb, 0, none⟩), .pointer (some ⟨db, 0, none⟩)] W fun r w' => r = .returned (.int .i64 code) ∧ (w'.cell? ⟨cb, 0, none⟩ = some (.pointer (some ⟨rb, 0, none⟩)) ∧ w'.cell? ⟨cb, 1, none⟩ = some (.pointer (some ⟨db, 0, none⟩))) ∧ P W w')) :
    Calls Tryz.prog 122 #[.pointer (some ⟨cb, 0, none⟩), .agg #[.string ⟨#[114, 101, 99, 117, 114, 115, 101]⟩, .int .i64 goal]] w fun r w' => r = .returned (.int .i64 code) ∧ ∃ W, Below w.heap.size w W ∧ P W w' := by
  have d0 := cell_alloc c0 (Obj.cells #[Value.string ⟨#[114, 101, 99, 117, 114, 115, 101]⟩, Value.int .i64 goal] 196)
  have d1 := cell_alloc c1 (Obj.cells #[Value.string ⟨#[114, 101, 99, 117, 114, 115, 101]⟩, Value.int .i64 goal] 196)
  have hb1 : Below w.heap.size w (w.alloc (Obj.cells #[Value.string ⟨#[114, 101, 99, 117, 114, 115, 101]⟩, Value.int .i64 goal] 196)) := (Below.refl _ _).alloc (Nat.le_refl _) _
  clear c0 c1
  go_enter Tryz.func122, Tryz.ntmps122
  go_wp2
  generalize (w.alloc (Obj.cells #[Value.string ⟨#[114, 101, 99, 117, 114, 115, 101]⟩, Value.int .i64 goal] 196)) = w1 at *
  go_region_held3 (fun w' => w'.cell? ⟨cb, 0, none⟩ = some (.pointer (some ⟨rb, 0, none⟩)) ∧ w'.cell? ⟨cb, 1, none⟩ = some (.pointer (some ⟨db, 0, none⟩))) (first | exact ⟨d0, d1⟩ | exact (by assumption) | go_keep)
    ((go_at_call 64; refine (unhide H _ hb1.drew).mono ?_
      rintro e w2 ⟨rfl, ⟨d0, d1⟩, hP⟩
      have HP := hide hP
      clear hP))
  go_wp2
  go_ret
  exact ⟨rfl, _, hb1.drew, unhide HP⟩
end Go.Proofs.YtgnlokmeohffaaaGreatDoor
/- A step of a definition; a definition is done: the walks. (Written by tools/mkcstep.py.) -/
namespace Go.Proofs.YtgnlokmeohffaaaGreatDoor
open Go.RowKit
attribute [local go_sem ↓] Go.wp_at_zero Go.wp_at_succ

theorem asc_number (v : Value) (W : World) : (Instr.typeAssert (.iface 117 v) 107 196 true).run Tryz.prog W = .ok (.tuple #[.agg #[.string ⟨#[]⟩, .int .i64 0], .bool false]) W := by kernel_rfl
theorem asc_prim (v : Value) (W : World) : (Instr.typeAssert (.iface 120 v) 107 196 true).run Tryz.prog W = .ok (.tuple #[.agg #[.string ⟨#[]⟩, .int .i64 0], .bool false]) W := by kernel_rfl
theorem asc_defn (v : Value) (W : World) : (Instr.typeAssert (.iface 122 v) 107 196 true).run Tryz.prog W = .ok (.tuple #[.agg #[.string ⟨#[]⟩, .int .i64 0], .bool false]) W := by kernel_rfl
theorem asc_vari (v : Value) (W : World) : (Instr.typeAssert (.iface 124 v) 107 196 true).run Tryz.prog W = .ok (.tuple #[.agg #[.string ⟨#[]⟩, .int .i64 0], .bool false]) W := by kernel_rfl
theorem asc_cons (v : Value) (W : World) : (Instr.typeAssert (.iface 130 v) 107 196 true).run Tryz.prog W = .ok (.tuple #[.agg #[.string ⟨#[]⟩, .int .i64 0], .bool false]) W := by kernel_rfl
theorem asc_mark (v : Value) (W : World) : (Instr.typeAssert (.iface 132 v) 107 196 true).run Tryz.prog W = .ok (.tuple #[.agg #[.string ⟨#[]⟩, .int .i64 0], .bool false]) W := by kernel_rfl
theorem asc_ctl (v : Value) (W : World) : (Instr.typeAssert (.iface 196 v) 107 196 true).run Tryz.prog W = .ok (.tuple #[v, .bool true]) W := by kernel_rfl
set_option maxRecDepth 100000 in
set_option maxHeartbeats 1600000 in
theorem cstep_stop (w : World) (cb rb : Nat) (code : Int) (hc : (code != 0) = true) (P : World → Prop) (c0 : w.cell? ⟨cb, 0, none⟩ = some (.pointer (some ⟨rb, 0, none⟩)))
    (H : Hid (Calls Tryz.prog 51 #[.pointer (some ⟨rb, 0, none⟩)] w fun r w' => r = .returned (.int .i64 code) ∧ P w')) :
    Calls Tryz.prog 108 #[.pointer (some ⟨cb, 0, none⟩)] w fun r w' => r = .returned (.int .i64 code) ∧ P w' := by
  go_enter Tryz.func108, Tryz.ntmps108
  go_wp2_with fail
  refine (unhide H).mono ?_
  rintro e w' ⟨rfl, hP⟩
  have HP := hide hP
  clear hP
  go_wp2
  go_ret
  exact ⟨rfl, unhide HP⟩

set_option maxRecDepth 100000 in
set_option maxHeartbeats 1600000 in
theorem cstep_ctl (w : World) (cb rb db g n cap pos : Nat) (nm : ByteArray) (goal : Int) (Q : World → Prop) (P : World → Int → World → Prop) (hpos : pos < n) (hn : n ≤ 60) (c0 : w.cell? ⟨cb, 0, none⟩ = some (.pointer (some ⟨rb, 0, none⟩)))
    (H : Hid (Calls Tryz.prog 51 #[.pointer (some ⟨rb, 0, none⟩)] w fun r w' => r = .returned (.int .i64 0) ∧ (w'.cell? ⟨cb, 0, none⟩ = some (.pointer (some ⟨rb, 0, none⟩)) ∧ w'.cell? ⟨cb, 1, none⟩ = some (.pointer (some ⟨db, 0, none⟩)) ∧ w'.cell? ⟨cb, 2, none⟩ = some (.int .i64 pos) ∧ w'.frozen? ⟨cb, 2, none⟩ = false ∧ w'.cell? ⟨db, 2, none⟩ = some (.slice (some ⟨g, 0, none⟩) n cap) ∧ w'.cell? ⟨g, pos, none⟩ = some (.iface 196 (.agg #[.string nm, .int .i64 goal]))) ∧ Q w'))
    (HD : Hid (∀ w1 W, Q w1 → Below w1.heap.size (w1.setCell ⟨cb, 2, none⟩ (.int .i64 ((pos : Int) + 1))) W → Calls Tryz.prog 122 #[.pointer (some ⟨cb, 0, none⟩), .agg #[.string nm, .int .i64 goal]] W fun r w' => ∃ code, r = .returned (.int .i64 code) ∧ P w1 code w')) :
    Calls Tryz.prog 108 #[.pointer (some ⟨cb, 0, none⟩)] w fun r w' => ∃ code, r = .returned (.int .i64 code) ∧ ∃ w1, Q w1 ∧ P w1 code w' := by
  have k0 : (0 : Int) ≤ (pos : Int) := by omega
  have k1 : (pos : Int) < (n : Int) := by omega
  have k2 : IntKind.i64.wrap ((pos : Int) + 1) = (pos : Int) + 1 := by rw [IntKind.wrap_i64]; omega
  have hta := asc_ctl (.agg #[.string nm, .int .i64 goal])
  go_enter Tryz.func108, Tryz.ntmps108
  go_wp2_with fail
  refine (unhide H).mono ?_
  rintro e w1 ⟨rfl, ⟨c0, c1, c2, f2, e2, eg⟩, hQ⟩
  have HQ := hide hQ
  clear hQ
  go_wp2
  go_region_held3 (fun w' => w'.cell? ⟨cb, 1, none⟩ = some (.pointer (some ⟨db, 0, none⟩)) ∧ w'.cell? ⟨cb, 2, none⟩ = some (.int .i64 pos) ∧ w'.cell? ⟨db, 2, none⟩ = some (.slice (some ⟨g, 0, none⟩) n cap) ∧ w'.cell? ⟨g, pos, none⟩ = some (.iface 196 (.agg #[.string nm, .int .i64 goal]))) (first | exact ⟨c1, c2, e2, eg⟩ | go_keep) (fail)
  go_wp2_with fail
  refine (unhide HD w1 _ (unhide HQ) ?_).mono ?_
  · first
      | exact (Below.refl _ (w1.setCell ⟨cb, 2, none⟩ (.int .i64 ((pos : Int) + 1)))).drew
      | exact ((Below.refl w1.heap.size (w1.setCell ⟨cb, 2, none⟩ (.int .i64 ((pos : Int) + 1)))).alloc (by simp [World.setCell]) _).drew
      | exact ((Below.refl w1.heap.size (w1.setCell ⟨cb, 2, none⟩ (.int .i64 ((pos : Int) + 1)))).drew.alloc (by simp [World.setCell]) _)
  rintro e w' ⟨code, rfl, hP⟩
  have HP := hide hP
  clear hP
  go_wp2
  go_ret
  exact ⟨code, rfl, w1, unhide HQ, unhide HP⟩

set_option maxRecDepth 100000 in
set_option maxHeartbeats 1600000 in
theorem cstep_do (w : World) (cb rb db g n cap pos : Nat) (T : TypeId) (v : Value) (hta : ∀ W, (Instr.typeAssert (.iface T v) 107 196 true).run Tryz.prog W = .ok (.tuple #[.agg #[.string ⟨#[]⟩, .int .i64 0], .bool false]) W) (Q : World → Prop) (P : World → Int → World → Prop) (hpos : pos < n) (hn : n ≤ 60) (c0 : w.cell? ⟨cb, 0, none⟩ = some (.pointer (some ⟨rb, 0, none⟩)))
    (H : Hid (Calls Tryz.prog 51 #[.pointer (some ⟨rb, 0, none⟩)] w fun r w' => r = .returned (.int .i64 0) ∧ (w'.cell? ⟨cb, 0, none⟩ = some (.pointer (some ⟨rb, 0, none⟩)) ∧ w'.cell? ⟨cb, 1, none⟩ = some (.pointer (some ⟨db, 0, none⟩)) ∧ w'.cell? ⟨cb, 2, none⟩ = some (.int .i64 pos) ∧ w'.frozen? ⟨cb, 2, none⟩ = false ∧ w'.cell? ⟨db, 2, none⟩ = some (.slice (some ⟨g, 0, none⟩) n cap) ∧ w'.cell? ⟨g, pos, none⟩ = some (.iface T v)) ∧ Q w'))
    (HD : Hid (∀ w1 W, Q w1 → Below w1.heap.size (w1.setCell ⟨cb, 2, none⟩ (.int .i64 ((pos : Int) + 1))) W → Calls Tryz.prog 52 #[.pointer (some ⟨rb, 0, none⟩), .iface T v] W fun r w' => ∃ code, r = .returned (.int .i64 code) ∧ P w1 code w')) :
    Calls Tryz.prog 108 #[.pointer (some ⟨cb, 0, none⟩)] w fun r w' => ∃ code, r = .returned (.int .i64 code) ∧ ∃ w1, Q w1 ∧ P w1 code w' := by
  have k0 : (0 : Int) ≤ (pos : Int) := by omega
  have k1 : (pos : Int) < (n : Int) := by omega
  have k2 : IntKind.i64.wrap ((pos : Int) + 1) = (pos : Int) + 1 := by rw [IntKind.wrap_i64]; omega
  skip
  go_enter Tryz.func108, Tryz.ntmps108
  go_wp2_with fail
  refine (unhide H).mono ?_
  rintro e w1 ⟨rfl, ⟨c0, c1, c2, f2, e2, eg⟩, hQ⟩
  have HQ := hide hQ
  clear hQ
  go_wp2
  go_region_held3 (fun w' => w'.cell? ⟨cb, 1, none⟩ = some (.pointer (some ⟨db, 0, none⟩)) ∧ w'.cell? ⟨cb, 2, none⟩ = some (.int .i64 pos) ∧ w'.cell? ⟨db, 2, none⟩ = some (.slice (some ⟨g, 0, none⟩) n cap) ∧ w'.cell? ⟨g, pos, none⟩ = some (.iface T v)) (first | exact ⟨c1, c2, e2, eg⟩ | go_keep) (fail)
  go_wp2_with fail
  refine (unhide HD w1 _ (unhide HQ) ?_).mono ?_
  · first
      | exact (Below.refl _ (w1.setCell ⟨cb, 2, none⟩ (.int .i64 ((pos : Int) + 1)))).drew
      | exact ((Below.refl w1.heap.size (w1.setCell ⟨cb, 2, none⟩ (.int .i64 ((pos : Int) + 1)))).alloc (by simp [World.setCell]) _).drew
      | exact ((Below.refl w1.heap.size (w1.setCell ⟨cb, 2, none⟩ (.int .i64 ((pos : Int) + 1)))).drew.alloc (by simp [World.setCell]) _)
  rintro e w' ⟨code, rfl, hP⟩
  have HP := hide hP
  clear hP
  go_wp2
  go_ret
  exact ⟨code, rfl, w1, unhide HQ, unhide HP⟩

end Go.Proofs.YtgnlokmeohffaaaGreatDoor
/- A definition from its start to its end; doDefinition: the walks. -/
namespace Go.Proofs.YtgnlokmeohffaaaGreatDoor
open Go.RowKit
attribute [local go_sem ↓] Go.wp_at_zero Go.wp_at_succ

/-- What is known at the head of a definition's loop. -/
def HeadC (cb : Nat) (Inv : World → Prop) (mu : World → Nat) (Post : Int → World → Prop) (wr : World) : Prop :=
  ∃ (db pos n cap : Nat) (a : Option Addr), wr.cell? ⟨cb, 1, none⟩ = some (.pointer (some ⟨db, 0, none⟩)) ∧ wr.cell? ⟨cb, 2, none⟩ = some (.int .i64 pos) ∧ wr.cell? ⟨db, 2, none⟩ = some (.slice a n cap) ∧
    ((¬ pos < n ∧ Post 0 wr.drew) ∨ (pos < n ∧ Calls Tryz.prog 108 #[.pointer (some ⟨cb, 0, none⟩)] wr.drew fun r w' => ∃ code, r = .returned (.int .i64 code) ∧ ((code ≠ 0 ∧ Post code w') ∨ (code = 0 ∧ Inv w' ∧ mu w' < mu wr))))

set_option maxRecDepth 100000 in
set_option maxHeartbeats 1600000 in
theorem call_all (w : World) (cb : Nat) (Inv : World → Prop) (mu : World → Nat) (Post : Int → World → Prop) (h0 : Inv w) (HI : Hid (∀ wr, Inv wr → HeadC cb Inv mu Post wr)) :
    Calls Tryz.prog 87 #[.pointer (some ⟨cb, 0, none⟩)] w fun r w' => ∃ code, r = .returned (.int .i64 code) ∧ Post code w' := by
  go_enter Tryz.func87, Tryz.ntmps87
  go_wp2
  go_loopw [3] (fun _ wr => Inv wr) (fun _ wr => mu wr)
  case atStart => exact h0
  case round =>
    obtain ⟨db, pos, n, cap, a, c1, c2, e2, hcase⟩ := unhide HI _ hrel
    have HR := hide hrel
    clear hrel
    rcases hcase with ⟨hge, hP⟩ | ⟨hlt, hcall⟩
    · have HP := hide hP
      have k1 : ¬ ((pos : Int) < (n : Int)) := by omega
      clear hge hP
      go_wp2
      go_region_held3 (fun w' => w'.cell? ⟨cb, 1, none⟩ = some (.pointer (some ⟨db, 0, none⟩)) ∧ w'.cell? ⟨cb, 2, none⟩ = some (.int .i64 pos) ∧ w'.cell? ⟨db, 2, none⟩ = some (.slice a n cap)) (first | exact ⟨c1, c2, e2⟩ | go_keep) (fail)
      go_wp2
      go_ret
      exact ⟨0, rfl, unhide HP⟩
    · have HC := hide hcall
      have k1 : (pos : Int) < (n : Int) := by omega
      clear hlt hcall
      go_wp2
      go_region_held3 (fun w' => w'.cell? ⟨cb, 1, none⟩ = some (.pointer (some ⟨db, 0, none⟩)) ∧ w'.cell? ⟨cb, 2, none⟩ = some (.int .i64 pos) ∧ w'.cell? ⟨db, 2, none⟩ = some (.slice a n cap)) (first | exact ⟨c1, c2, e2⟩ | go_keep) (fail)
      go_wp2_with fail
      refine (unhide HC).mono ?_
      rintro e w2 ⟨code, rfl, hh⟩
      rcases hh with ⟨hc, hP⟩ | ⟨rfl, hI, hmu⟩
      · have hcb : (code != 0) = true := by rw [bne_iff_ne]; exact hc
        have HP := hide hP
        clear hc hP
        go_wp2
        go_ret
        exact ⟨code, rfl, unhide HP⟩
      · have HI2 := hide (And.intro hI hmu)
        clear hI hmu
        go_wp2
        exact unhide HI2

set_option maxRecDepth 100000 in
theorem doDef_deep (w : World) (rb db : Nat) (c4 : w.cell? ⟨rb, 4, none⟩ = some (.int .i64 12)) :
    Calls Tryz.prog 64 #[.pointer (some ⟨rb, 0, none⟩), .pointer (some ⟨db, 0, none⟩)] w fun r w' => r = .returned (.int .i64 13) ∧ w' = w := by
  go_enter Tryz.func64, Tryz.ntmps64
  go_wp2
  go_ret
  exact ⟨rfl, rfl⟩

set_option maxRecDepth 100000 in
set_option maxHeartbeats 800000 in
theorem doDef_walk (w : World) (rb db d : Nat) (hd : d < 12) (c4 : w.cell? ⟨rb, 4, none⟩ = some (.int .i64 d)) (f4 : w.frozen? ⟨rb, 4, none⟩ = false) (P : Int → World → Prop)
    (H : Hid (Calls Tryz.prog 87 #[.pointer (some ⟨w.heap.size, 0, none⟩)] ((w.setCell ⟨rb, 4, none⟩ (.int .i64 ((d : Int) + 1))).alloc (Obj.cells #[Value.pointer (some ⟨rb, 0, none⟩), Value.pointer (some ⟨db, 0, none⟩), Value.int .i64 0, Value.slice none 0 0] 163)) fun r w' => ∃ code d', r = .returned (.int .i64 code) ∧ w'.cell? ⟨rb, 4, none⟩ = some (.int .i64 (d' : Nat)) ∧ 1 ≤ d' ∧ d' ≤ 12 ∧ w'.frozen? ⟨rb, 4, none⟩ = false ∧ P code (w'.setCell ⟨rb, 4, none⟩ (.int .i64 ((d' : Int) - 1))))) :
    Calls Tryz.prog 64 #[.pointer (some ⟨rb, 0, none⟩), .pointer (some ⟨db, 0, none⟩)] w fun r w' => ∃ code, r = .returned (.int .i64 code) ∧ P code w' := by
  have k1 : ((d : Int) == 12) = false := by rw [beq_eq_false_iff_ne]; omega
  have k2 : IntKind.i64.wrap ((d : Int) + 1) = (d : Int) + 1 := by rw [IntKind.wrap_i64]; omega
  go_enter Tryz.func64, Tryz.ntmps64
  go_wp2_with fail
  refine (unhide H).mono ?_
  rintro e w2 ⟨code, d', rfl, e4, hd1, hd2, g4, hP⟩
  have HP := hide hP
  have k3 : IntKind.i64.wrap ((d' : Int) - 1) = (d' : Int) - 1 := by rw [IntKind.wrap_i64]; omega
  clear hP
  go_wp2
  go_ret
  exact ⟨code, rfl, unhide HP⟩
end Go.Proofs.YtgnlokmeohffaaaGreatDoor
/- The document's machine, opened a step at a time: what a word of a body does, that steps only grow. Of no program. -/
namespace Go.Proofs.YtgnlokmeohffaaaGreatDoor
namespace N
open Go.RowKit

/-- What a word that is not bold does, within so many definitions. -/
def cellDoes (f : Nat) (m : Mach) (depth : Nat) (c : Cell) : Mach × Int :=
  if c.kind = 1 then push m c.n
  else if c.kind = 2 then owns f m c.n.toNat depth
  else match (prim m c.name).2.2 with
    | some j => owns f (prim m c.name).1 j depth
    | none => ((prim m c.name).1, (prim m c.name).2.1)

/-- Goes on behind a word, if it did not fail. -/
def onTo (f : Nat) (k : Nat) (l : List Cell) (depth : Nat) (p : Mach × Int) (next : Nat) (r : List (Int × Int)) : Mach × Int := if p.2 ≠ 0 then p else body f p.1 k l depth next r
def stepped (m : Mach) : Mach := { m with steps := m.steps + 1 }

theorem body_none (f : Nat) (m : Mach) (k : Nat) (l : List Cell) (depth at' : Nat) (r : List (Int × Int)) (h : l[at']? = none) : body (f + 1) m k l depth at' r = (m, 0) := by
  rw [body, h]
theorem body_out (f : Nat) (m : Mach) (k : Nat) (l : List Cell) (depth at' : Nat) (r : List (Int × Int)) (c : Cell) (h : l[at']? = some c) (hs : 1000 ≤ m.steps) : body (f + 1) m k l depth at' r = (stepped m, 14) := by
  rw [body, h]
  exact if_pos hs
theorem owns_eq (f : Nat) (m : Mach) (depth j : Nat) : (match m.all[j]? with
        | none => (m, (0 : Int))
        | some e => if e.kind = 2 then push m (1000 + j) else if e.kind = 3 then push m e.n else if e.kind = 4 then (forgets m j, 0) else if 12 ≤ depth then (m, 13) else body f m j e.body (depth + 1) 0 []) = owns f m j depth := by
  unfold owns
  cases m.all[j]? <;> rfl
theorem body_cell (f : Nat) (m : Mach) (k : Nat) (l : List Cell) (depth at' : Nat) (r : List (Int × Int)) (c : Cell) (h : l[at']? = some c) (hs : ¬ 1000 ≤ m.steps) (hk : c.kind = 1 ∨ c.kind = 2 ∨ c.kind = 3) :
    body (f + 1) m k l depth at' r = onTo f k l depth (cellDoes f (stepped m) depth c) (at' + 1) r := by
  rw [body, h]
  simp only [if_neg hs]
  rcases hk with hk | hk | hk
  · have e1 : cellDoes f (stepped m) depth c = push (stepped m) c.n := if_pos hk
    rw [e1]
    exact if_pos hk
  · have e1 : cellDoes f (stepped m) depth c = owns f (stepped m) c.n.toNat depth := (if_neg (by omega)).trans (if_pos hk)
    rw [e1]
    unfold onTo
    simp only [← owns_eq]
    exact (if_neg (by omega)).trans (if_pos hk)
  · have e1 : cellDoes f (stepped m) depth c = match (prim (stepped m) c.name).2.2 with | some j => owns f (prim (stepped m) c.name).1 j depth | none => ((prim (stepped m) c.name).1, (prim (stepped m) c.name).2.1) := (if_neg (by omega)).trans (if_neg (by omega))
    rw [e1]
    refine ((if_neg (by omega)).trans ((if_neg (by omega)).trans (if_pos hk))).trans ?_
    show (match (prim (stepped m) c.name).2.2 with | some j => _ | none => _) = _
    cases (prim (stepped m) c.name).2.2 with
    | none => rfl
    | some j =>
      unfold onTo
      simp only [← owns_eq]
      rfl
theorem body_bold (f : Nat) (m : Mach) (k : Nat) (l : List Cell) (depth at' : Nat) (r : List (Int × Int)) (c : Cell) (h : l[at']? = some c) (hs : ¬ 1000 ≤ m.steps) (hk : c.kind = 4) :
    body (f + 1) m k l depth at' r =
      if c.name == wExit then (stepped m, 0)
      else if c.name == wRecurse then onTo f k l depth (owns f (stepped m) k depth) (at' + 1) r
      else if c.name == wDo || c.name == wLoop || c.name == wI || c.name == wLeave then onTo f k l depth ((rounds (stepped m) l at' c.name r).1, (rounds (stepped m) l at' c.name r).2.2.2) (rounds (stepped m) l at' c.name r).2.1 (rounds (stepped m) l at' c.name r).2.2.1
      else onTo f k l depth ((ways (stepped m) l at' c.name).1, (ways (stepped m) l at' c.name).2.2) (ways (stepped m) l at' c.name).2.1 r := by
  rw [body, h]
  simp only [if_neg hs]
  refine ((if_neg (by omega)).trans ((if_neg (by omega)).trans (if_neg (by omega)))).trans ?_
  unfold onTo
  simp only [← owns_eq]
  rfl

theorem push_steps (m : Mach) (n : Int) : (push m n).1.steps = m.steps := by unfold push; split <;> rfl
theorem does_steps (m : Mach) (s : Txt) (l rest : List Int) : (does m s l rest).steps = m.steps := by
  unfold does
  simp only [apply_ite Mach.steps, ite_self]
theorem prim_steps (m : Mach) (s : Txt) : (prim m s).1.steps = m.steps := by
  unfold prim
  simp only
  repeat' split
  all_goals first
    | rfl
    | exact does_steps _ _ _ _
theorem pop_steps {m m1 : Mach} {n : Int} (h : pop m = some (m1, n)) : m1.steps = m.steps := by
  unfold pop at h
  cases hl : m.S.getLast? with
  | none => rw [hl] at h; cases h
  | some x =>
    rw [hl] at h
    injection h with h
    injection h with h _
    rw [← h]
theorem ways_steps (m : Mach) (l : List Cell) (a : Nat) (s : Txt) : (ways m l a s).1.steps = m.steps := by
  unfold ways
  split
  · cases hp : pop m with
    | none => rfl
    | some q =>
      obtain ⟨m1, n⟩ := q
      have := pop_steps hp
      simp only
      repeat' split
      all_goals exact this
  · repeat' split
    all_goals rfl
theorem rounds_steps (m : Mach) (l : List Cell) (a : Nat) (s : Txt) (r : List (Int × Int)) : (rounds m l a s r).1.steps = m.steps := by
  unfold rounds
  simp only
  repeat' split
  all_goals first
    | rfl
    | exact push_steps _ _
theorem forgets_steps (m : Mach) (k : Nat) : (forgets m k).steps = m.steps := rfl

/-- Steps only grow, and where nothing fails there are at most 1000. -/
def StepsOk (m : Mach) (p : Mach × Int) : Prop := m.steps ≤ p.1.steps ∧ (p.2 = 0 → m.steps ≤ 1000 → p.1.steps ≤ 1000)
theorem stepsOk_of {m : Mach} {p : Mach × Int} (h : p.1.steps = m.steps) : StepsOk m p := ⟨by omega, fun _ _ => by omega⟩

theorem owns_steps_of {f : Nat} (hb : ∀ m k l d a r, StepsOk m (body f m k l d a r)) (m : Mach) (j depth : Nat) : StepsOk m (owns f m j depth) := by
  unfold owns
  cases m.all[j]? with
  | none => exact stepsOk_of rfl
  | some e =>
    simp only
    split
    · exact stepsOk_of (push_steps _ _)
    · split
      · exact stepsOk_of (push_steps _ _)
      · split
        · exact stepsOk_of (forgets_steps _ _)
        · split
          · exact stepsOk_of rfl
          · exact hb _ _ _ _ _ _
theorem onTo_steps {f : Nat} (hb : ∀ m k l d a r, StepsOk m (body f m k l d a r)) {m m0 : Mach} {p : Mach × Int} (hp : StepsOk m0 p) (h0 : m.steps ≤ m0.steps) (h1 : m.steps ≤ 1000 → m0.steps ≤ 1000) (k : Nat) (l : List Cell) (depth next : Nat) (r : List (Int × Int)) : StepsOk m (onTo f k l depth p next r) := by
  unfold onTo
  split
  · exact ⟨Nat.le_trans h0 hp.1, fun h hm => hp.2 h (h1 hm)⟩
  · rename_i hz
    have hz : p.2 = 0 := by simpa using hz
    have := hb p.1 k l depth next r
    exact ⟨Nat.le_trans h0 (Nat.le_trans hp.1 this.1), fun h hm => this.2 h (hp.2 hz (h1 hm))⟩
theorem cellDoes_steps_of {f : Nat} (hb : ∀ m k l d a r, StepsOk m (body f m k l d a r)) (m : Mach) (depth : Nat) (c : Cell) : StepsOk m (cellDoes f m depth c) := by
  unfold cellDoes
  split
  · exact stepsOk_of (push_steps _ _)
  · split
    · exact owns_steps_of hb _ _ _
    · cases (prim m c.name).2.2 with
      | none => exact stepsOk_of (prim_steps _ _)
      | some j =>
        have := owns_steps_of hb (prim m c.name).1 j depth
        unfold StepsOk at this ⊢
        rw [prim_steps] at this
        exact this
theorem body_steps : ∀ f m k l d a r, StepsOk m (body f m k l d a r)
  | 0, m, _, _, _, _, _ => stepsOk_of rfl
  | f + 1, m, k, l, d, a, r => by
    have hb := body_steps f
    cases hl : l[a]? with
    | none =>
      rw [body_none f m k l d a r hl]
      exact stepsOk_of rfl
    | some c =>
      by_cases hs : 1000 ≤ m.steps
      · rw [body_out f m k l d a r c hl hs]
        exact ⟨Nat.le_succ _, fun h => by cases h⟩
      · have h0 : m.steps ≤ (stepped m).steps := Nat.le_succ _
        have h1 : m.steps ≤ 1000 → (stepped m).steps ≤ 1000 := fun _ => by show m.steps + 1 ≤ 1000; omega
        by_cases hk : c.kind = 1 ∨ c.kind = 2 ∨ c.kind = 3
        · rw [body_cell f m k l d a r c hl hs hk]
          exact onTo_steps hb (cellDoes_steps_of hb _ _ _) h0 h1 _ _ _ _ _
        · have hbody : ∃ p next r', StepsOk (stepped m) p ∧ (body (f + 1) m k l d a r = (stepped m, 0) ∨ body (f + 1) m k l d a r = onTo f k l d p next r') := by
            rw [body, hl]
            simp only [if_neg hs]
            rw [if_neg (show ¬ c.kind = 1 by omega), if_neg (show ¬ c.kind = 2 by omega), if_neg (show ¬ c.kind = 3 by omega)]
            split
            · exact ⟨(stepped m, 0), 0, [], stepsOk_of rfl, .inl rfl⟩
            · split
              · refine ⟨owns f (stepped m) k d, a + 1, r, owns_steps_of hb _ _ _, .inr ?_⟩
                unfold onTo
                simp only [← owns_eq]
                rfl
              · split
                · exact ⟨((rounds (stepped m) l a c.name r).1, (rounds (stepped m) l a c.name r).2.2.2), _, _, stepsOk_of (rounds_steps _ _ _ _ _), .inr rfl⟩
                · exact ⟨((ways (stepped m) l a c.name).1, (ways (stepped m) l a c.name).2.2), _, _, stepsOk_of (ways_steps _ _ _ _), .inr rfl⟩
          obtain ⟨p, next, r', hp, h2 | h2⟩ := hbody
          · rw [h2]
            exact ⟨h0, fun _ => h1⟩
          · rw [h2]
            exact onTo_steps hb hp h0 h1 _ _ _ _ _
theorem owns_steps (f : Nat) (m : Mach) (j depth : Nat) : StepsOk m (owns f m j depth) := owns_steps_of (body_steps f) m j depth
theorem cellDoes_steps (f : Nat) (m : Mach) (depth : Nat) (c : Cell) : StepsOk m (cellDoes f m depth c) := cellDoes_steps_of (body_steps f) m depth c
end N
end Go.Proofs.YtgnlokmeohffaaaGreatDoor
/- Forgetting, in plain terms and in memory: the rows that are left, and the words of one's own behind it. -/
namespace Go.Proofs.YtgnlokmeohffaaaGreatDoor
open Go.RowKit

def goneE (e : N.Ent) : N.Ent := { e with gone := true }
/-- The words behind a forgetting. -/
def forg (all : List N.Ent) (k : Nat) : List N.Ent := all.take k ++ (all.drop k).map goneE
theorem forgets_all (m : N.Mach) (k : Nat) : N.forgets m k = { m with all := forg m.all k } := rfl
theorem forg_len (all : List N.Ent) (k : Nat) : (forg all k).length = all.length := by
  unfold forg
  rw [List.length_append, List.length_map, List.length_take, List.length_drop]
  omega
theorem forg_get (all : List N.Ent) (k j : Nat) : (forg all k)[j]? = (all[j]?).map fun e => if j < k then e else goneE e := by
  unfold forg
  by_cases h : j < k
  · by_cases hl : j < all.length
    · rw [List.getElem?_append_left (by rw [List.length_take]; omega), List.getElem?_take_of_lt h, List.getElem?_eq_getElem hl]
      simp [h]
    · rw [List.getElem?_eq_none (by rw [List.length_append, List.length_map, List.length_take, List.length_drop]; omega), List.getElem?_eq_none (by omega)]
      rfl
  · by_cases hl : j < all.length
    · rw [List.getElem?_append_right (by rw [List.length_take]; omega), List.getElem?_map, List.getElem?_drop, List.length_take, show k + (j - min k all.length) = j by omega, List.getElem?_eq_getElem hl]
      simp [h]
    · rw [List.getElem?_eq_none (by rw [List.length_append, List.length_map, List.length_take, List.length_drop]; omega), List.getElem?_eq_none (by omega)]
      rfl

theorem rowsFrom_gone : ∀ (all : List N.Ent) (wv : List Own) (j : Nat), rowsFrom j (all.map goneE) wv = []
  | [], _, _ => rfl
  | _ :: _, [], _ => rfl
  | e :: t, o :: u, j => by
    rw [List.map_cons, rowsFrom, if_neg (by unfold N.there goneE; simp)]
    exact rowsFrom_gone t u (j + 1)
theorem rowsFrom_app : ∀ (a b : List N.Ent) (u v : List Own) (j : Nat), a.length = u.length → rowsFrom j (a ++ b) (u ++ v) = rowsFrom j a u ++ rowsFrom (j + a.length) b v
  | [], b, [], v, j, _ => rfl
  | [], _, _ :: _, _, _, h => by simp at h
  | _ :: _, _, [], _, _, h => by simp at h
  | e :: t, b, o :: u, v, j, h => by
    have ih := rowsFrom_app t b u v (j + 1) (by simpa using h)
    rw [List.cons_append, List.cons_append, rowsFrom, rowsFrom, ih, List.length_cons, show j + 1 + t.length = j + (t.length + 1) by omega]
    split <;> rfl
theorem rows_split (all : List N.Ent) (wv : List Own) (k : Nat) (hl : wv.length = all.length) (hk : k ≤ all.length) : rows all wv = rows (all.take k) (wv.take k) ++ rowsFrom k (all.drop k) (wv.drop k) := by
  have := rowsFrom_app (all.take k) (all.drop k) (wv.take k) (wv.drop k) 0 (by rw [List.length_take, List.length_take, hl])
  rw [List.take_append_drop, List.take_append_drop, List.length_take, Nat.zero_add, Nat.min_eq_left hk] at this
  exact this
theorem rows_forg (all : List N.Ent) (wv : List Own) (k : Nat) (hl : wv.length = all.length) : rows (forg all k) wv = rows (all.take k) (wv.take k) := by
  have := rowsFrom_app (all.take k) ((all.drop k).map goneE) (wv.take k) (wv.drop k) 0 (by rw [List.length_take, List.length_take, hl])
  rw [List.take_append_drop, rowsFrom_gone, List.append_nil] at this
  exact this
theorem rowsFrom_lt (all : List N.Ent) (wv : List Own) (j k : Nat) (hk : j + all.length ≤ k) : ∀ r ∈ rowsFrom j all wv, r.tok < 1000 + (k : Int) := fun r hr => by
  obtain ⟨i, e, h1, _, _, _, h5⟩ := rows_mem all wv j r hr
  have := (List.getElem?_eq_some_iff.1 h1).1
  omega
theorem rowsFrom_ge (all : List N.Ent) (wv : List Own) (j : Nat) : ∀ r ∈ rowsFrom j all wv, 1000 + (j : Int) ≤ r.tok := fun r hr => by
  obtain ⟨i, e, _, _, _, _, h5⟩ := rows_mem all wv j r hr
  omega

/-- How many of the first i rows are left. -/
def cut (os : List Row) (t : Int) : Nat → Nat
  | 0 => 0
  | i + 1 => match os[i]? with
    | some r => if t ≤ r.tok then cut os t i else i + 1
    | none => cut os t i
theorem cut_le (os : List Row) (t : Int) : ∀ i, cut os t i ≤ i
  | 0 => Nat.le_refl _
  | i + 1 => by
    have := cut_le os t i
    unfold cut
    cases os[i]? with
    | none => simp only; omega
    | some r => simp only; split <;> omega
theorem cut_split (A B : List Row) (t : Int) (hA : ∀ r ∈ A, r.tok < t) (hB : ∀ r ∈ B, t ≤ r.tok) : ∀ i, i ≤ B.length → cut (A ++ B) t (A.length + i) = A.length
  | 0, _ => by
    rw [Nat.add_zero]
    cases hl : A.length with
    | zero => rfl
    | succ n =>
      unfold cut
      have hlt : n < A.length := by omega
      rw [List.getElem?_append_left hlt, List.getElem?_eq_getElem hlt]
      simp only
      rw [if_neg (by have := hA _ (List.getElem_mem hlt); omega)]
  | i + 1, h => by
    have ih := cut_split A B t hA hB i (by omega)
    rw [← Nat.add_assoc]
    unfold cut
    have hlt : i < B.length := by omega
    rw [List.getElem?_append_right (by omega), Nat.add_sub_cancel_left, List.getElem?_eq_getElem hlt]
    simp only
    rw [if_pos (hB _ (List.getElem_mem hlt))]
    exact ih
theorem cut_rows (all : List N.Ent) (wv : List Own) (k : Nat) (hl : wv.length = all.length) (hk : k ≤ all.length) : cut (rows all wv) (1000 + (k : Int)) (rows all wv).length = (rows (forg all k) wv).length := by
  rw [rows_forg all wv k hl, rows_split all wv k hl hk, List.length_append]
  refine cut_split _ _ _ ?_ ?_ _ (Nat.le_refl _)
  · exact rowsFrom_lt _ _ 0 k (by rw [List.length_take]; omega)
  · exact rowsFrom_ge _ _ k
theorem listed_forg (all : List N.Ent) (wv : List Own) (k : Nat) (hl : wv.length = all.length) (hk : k ≤ all.length) : listed (forg all k) wv = (listed all wv).take (rows (forg all k) wv).length := by
  rw [listed_rows, listed_rows, rows_forg all wv k hl, rows_split all wv k hl hk, List.map_append]
  have e : (rows (all.take k) (wv.take k)).length = ((rows (all.take k) (wv.take k)).map fun r => ownVal r.o).length := by rw [List.length_map]
  rw [e, List.take_left']
  rfl

/-- A cell behind a row's end. -/
theorem owns_set_beyond {w : World} {e n cap g o : Nat} {xs : List Value} (h : w.ownsRow 0 e 1 (.slice (some ⟨g, 0, none⟩) n cap) n xs) (ho : n ≤ o) (u : Value) : (w.setCell ⟨g, o, none⟩ u).ownsRow 0 e 1 (.slice (some ⟨g, 0, none⟩) n cap) n xs := by
  refine ⟨h.1, .inr ?_⟩
  rcases h.2 with ⟨h1, _⟩ | ⟨g', cap', cur, h1, hb, hg, hle, hm, hs, ht⟩
  · cases h1
  · injection h1 with h3 _ h5
    injection h3 with h3
    injection h3 with h3 _
    subst h3 h5
    refine ⟨g, cap, _, rfl, hb, set_block hg o u, hle, hm, by simpa using hs, ?_⟩
    rw [← ht]
    simp only [Array.toList_setIfInBounds]
    rw [List.take_set_of_le (by omega)]
theorem owns_sets_beyond {e n cap g : Nat} {xs : List Value} : ∀ (vs : List Value) (o : Nat) (w : World), w.ownsRow 0 e 1 (.slice (some ⟨g, 0, none⟩) n cap) n xs → n ≤ o → (w.setCells g o vs).ownsRow 0 e 1 (.slice (some ⟨g, 0, none⟩) n cap) n xs
  | [], _, _, h, _ => h
  | v :: r, o, w, h, ho => owns_sets_beyond r (o + 1) _ (owns_set_beyond h ho v) (by omega)
theorem mv_sets {T : Nat → Prop} {g : Nat} (hg : T g) : ∀ (vs : List Value) (o : Nat) (w w' : World), Mv T w w' → Mv T w (w'.setCells g o vs)
  | [], _, _, _, h => h
  | v :: r, o, w, _, h => mv_sets hg r (o + 1) w _ (h.setCell (p := ⟨g, o, none⟩) (.inl hg) v)

theorem EntAt.gone {w : World} {wv : List Own} {j : Nat} {e : N.Ent} {o : Own} (h : EntAt w wv j e o) : EntAt w wv j (goneE e) o := by
  cases o <;> exact h

/-- The words of one's own behind a forgetting. -/
theorem OwnAt.forgot {w w' : World} {all : List N.Ent} {wv : List Own} {vO vB vO' : Value} (h : OwnAt w all wv vO vB) (k : Nat) (hk : k ≤ all.length) (hkeep : ∀ j, OBlock w j → vO.ownBlock ≠ some j → w'.heap[j]? = w.heap[j]?)
    (hrow : w'.ownsRow 0 62 1 vO' (listed (forg all k) wv).length (listed (forg all k) wv)) : OwnAt w' (forg all k) wv vO' vB := by
  have notrow : ∀ k cs t fr, w.heap[k]? = some (.cells cs t fr) → t ≠ 62 → vO.ownBlock ≠ some k := fun k cs t fr hk ht => own_ne_of_type h.row hk ht
  have key : ∀ {j : Nat} {e' : N.Ent}, (forg all k)[j]? = some e' → ∃ e, all[j]? = some e ∧ (e' = e ∨ e' = goneE e) := fun {j e'} hj => by
    rw [forg_get] at hj
    cases ha : all[j]? with
    | none => rw [ha] at hj; cases hj
    | some e =>
      rw [ha] at hj
      injection hj with hj
      refine ⟨e, rfl, ?_⟩
      rw [← hj]
      split
      · exact .inl rfl
      · exact .inr rfl
  have back : ∀ {j : Nat} {e : N.Ent}, all[j]? = some e → ∃ e', (forg all k)[j]? = some e' ∧ e'.ended = e.ended := fun {j e} hj => by
    rw [forg_get, hj]
    refine ⟨_, rfl, ?_⟩
    split <;> rfl
  have hok : ∀ {j : Nat} {c : N.Cell}, cellOk all j c → cellOk (forg all k) j c := fun {j c} hc => by
    rcases hc with h1 | ⟨h1, i, e, h2, h3, h4, h5⟩ | h1 | h1
    · exact .inl h1
    · obtain ⟨e', h6, h7⟩ := back h4
      exact .inr (.inl ⟨h1, i, e', h2, h3, h6, h7.trans h5⟩)
    · exact .inr (.inr (.inl h1))
    · exact .inr (.inr (.inr h1))
  refine ⟨by rw [forg_len]; exact h.len, by rw [forg_len]; exact h.begun, hrow, ?_, ?_, ?_, h.apart, by rw [forg_len]; exact h.old, ?_⟩
  · intro j e' o hj ho hen
    obtain ⟨e, he, hee⟩ := key hj
    have hen2 : e.ended = true := by rcases hee with rfl | rfl <;> exact hen
    have hE := h.ent j e o he ho hen2
    have hE2 : EntAt w' wv j e o := by
      cases o with
      | defn b =>
        obtain ⟨h0, vD, body, h1, h2, h3⟩ := hE
        exact ⟨h0, vD, body, (hkeep b ⟨_, _, _, h1, .inl rfl⟩ (notrow b _ _ _ h1 (by decide))).trans h1, owns_kept h2 fun k e => by
          obtain ⟨cur, hc⟩ := owns_block h2 e
          exact hkeep k ⟨_, _, _, hc, .inr (.inr (.inl rfl))⟩ (notrow k _ _ _ hc (by decide)), h3⟩
      | vari b => exact ⟨hE.1, hE.2.1, (hkeep b ⟨_, _, _, hE.2.2, .inr (.inl rfl)⟩ (notrow b _ _ _ hE.2.2 (by decide))).trans hE.2.2⟩
      | cons nm t n => exact hE
      | mark nm t => exact hE
    rcases hee with rfl | rfl
    · exact hE2
    · exact hE2.gone
  · intro j e' hj hen c hc
    obtain ⟨e, he, hee⟩ := key hj
    have hen2 : e.ended = true := by rcases hee with rfl | rfl <;> exact hen
    have hc2 : c ∈ e.body := by rcases hee with rfl | rfl <;> exact hc
    exact hok (h.ok j e he hen2 c hc2)
  · have := h.few
    rw [listed_forg all wv k h.len hk, List.length_take]
    omega
  · intro j b hj
    obtain ⟨e, he, hen⟩ := h.und j b hj
    obtain ⟨e', h1, h2⟩ := back he
    exact ⟨e', h1, h2.trans hen⟩
end Go.Proofs.YtgnlokmeohffaaaGreatDoor
/- forget: the walk. -/
namespace Go.Proofs.YtgnlokmeohffaaaGreatDoor
open Go.RowKit
attribute [local go_sem ↓] Go.wp_at_zero Go.wp_at_succ

theorem heap_sets_other {g j : Nat} (hj : j ≠ g) : ∀ (vs : List Value) (o : Nat) (w : World), (w.setCells g o vs).heap[j]? = w.heap[j]?
  | [], _, _ => rfl
  | v :: r, o, w => (heap_sets_other hj r (o + 1) _).trans (Below.heap_setCell w ⟨g, o, none⟩ v j hj)

theorem zero_own (w : World) : (zeroValue 62).run Tryz.prog w = .ok .nilIface w := by kernel_rfl

set_option maxRecDepth 100000 in
set_option maxHeartbeats 1600000 in
theorem forget_nil (w : World) (mb : Nat) (T : TypeId) (v : Value) (h2 : w.cell? ⟨mb, 2, none⟩ = some (.slice none 0 0)) (f2 : w.frozen? ⟨mb, 2, none⟩ = false) :
    Calls Tryz.prog 66 #[.pointer (some ⟨mb, 0, none⟩), .iface T v] w fun e w' => e = .returned (.tuple #[]) ∧ ∃ W, Below w.heap.size w W ∧ w' = W.setCell ⟨mb, 2, none⟩ (.slice none 0 0) := by
  have hcl : ∀ ty W, (Builtin.clear_ #[58] ty #[.slice none 0 0]).run Tryz.prog W = .ok (.tuple #[]) W := fun ty W => by
    simp [Builtin.clear_, run_underlying Tryz.underlying58]
  go_enter Tryz.func66, Tryz.ntmps66
  go_wp2
  go_loop [4] (fun i => i = .int .i64 0) (fun _ => 0)
  case atStart => rfl
  case round =>
    obtain rfl := hrel
    go_wp2
    go_end0
    exact ⟨rfl, w, Below.refl _ _, rfl⟩

set_option maxRecDepth 100000 in
set_option maxHeartbeats 3200000 in
theorem forget_walk (w : World) (mb g cap : Nat) (os : List Row) (tok : Int) (q : Nat) (T : TypeId) (v : Value) (nm : ByteArray) (h2 : w.cell? ⟨mb, 2, none⟩ = some (.slice (some ⟨g, 0, none⟩) os.length cap)) (f2 : w.frozen? ⟨mb, 2, none⟩ = false) (hn : os.length ≤ 40) (hcap : os.length ≤ cap)
    (hg : ∀ j r, os[j]? = some r → w.cell? ⟨g, j, none⟩ = some (ownVal r.o) ∧ HeadAt w r.o r.nm r.tok)
    (hmt : ∀ W, Below w.heap.size w W → ∀ F : Nat, (method (F + 1) T v "Token").run Tryz.prog W = .ok (65, .agg #[.string nm, .int .i64 tok]) W)
    (hcell : ∀ W, Below w.heap.size w W → ∀ j, j < os.length → (W.cell? ⟨g, j, none⟩).isSome = true) (hfz : ∀ W, Below w.heap.size w W → ∀ j, W.frozen? ⟨g, j, none⟩ = false) (hq : cut os tok os.length = q) (hne : mb ≠ g) :
    Calls Tryz.prog 66 #[.pointer (some ⟨mb, 0, none⟩), .iface T v] w fun e w' => e = .returned (.tuple #[]) ∧ ∃ W, Below w.heap.size w W ∧ w' = (W.setCells g q (List.replicate (os.length - q) .nilIface)).setCell ⟨mb, 2, none⟩ (.slice (some ⟨g, 0, none⟩) q cap) := by
  have HG := hide hg
  have HM := hide hmt
  have HC := hide hcell
  have HZ := hide hfz
  have HQ := hide hq
  have HNE := hide hne
  have hz := block_lt h2
  have hqn : q ≤ os.length := by rw [← hq]; exact cut_le _ _ _
  have HqN := hide hqn
  have hclE : ∀ (a : Option Addr) (c : Nat) ty W, (Builtin.clear_ #[58] ty #[.slice a 0 c]).run Tryz.prog W = .ok (.tuple #[]) W := fun a c ty W => by
    cases a <;> simp [Builtin.clear_, run_underlying Tryz.underlying58]
  have hcl : ∀ W, Below w.heap.size w W → q < os.length → ∀ ty, (Builtin.clear_ #[58] ty #[.slice (some ⟨g, q, none⟩) (os.length - q) (cap - q)]).run Tryz.prog W = .ok (.tuple #[]) (W.setCells g q (List.replicate (os.length - q) .nilIface)) := fun W hb hlt ty =>
    Lib.run_clear_slice W 58 62 ty .nilIface Tryz.underlying58 zero_own rfl rfl g q (os.length - q) (cap - q) (by omega) (fun j hj => hcell W hb (q + j) (by omega)) (fun j _ => hfz W hb (q + j))
  have HCL := hide hcl
  clear hg hmt hcell hfz hq hqn hcl hne
  generalize hn0 : os.length = n at *
  have HN := hide hn0
  clear hn0
  go_enter Tryz.func66, Tryz.ntmps66
  go_wp2
  go_loopw [4] (fun i wr => ∃ k : Nat, k ≤ n ∧ i = .int .i64 (k : Int) ∧ Below w.heap.size w wr ∧ cut os tok k = q) (fun i _ => match i with | .int _ k => k.toNat | _ => 0)
  case atStart => exact ⟨n, Nat.le_refl _, rfl, Below.refl _ _, unhide HQ⟩
  case round =>
    obtain ⟨k, hk, rfl, hb, hl⟩ := hrel
    have d2 : wr.cell? ⟨mb, 2, none⟩ = some (.slice (some ⟨g, 0, none⟩) n cap) := ((bcell hb).1 mb 2 hz).trans h2
    have e2 : wr.frozen? ⟨mb, 2, none⟩ = false := ((bcell hb).2 mb 2 hz).trans f2
    cases k with
    | zero =>
      obtain rfl : 0 = q := hl
      have HB := hide hb
      have hne := unhide HNE
      have hcl := unhide HCL wr hb
      clear hb
      have i4 : (n : Int) ≤ (cap : Int) := by omega
      have i5 : (0 : Int) ≤ (n : Int) := by omega
      have i6 : (0 : Int) ≤ (cap : Int) := by omega
      have e0 : ((0 : Nat) : Int) = 0 := rfl
      rw [e0]
      by_cases hlt : 0 < n
      · have hcl2 := hcl hlt
        simp only [Nat.sub_zero] at hcl2
        have hx : ¬ cap = 0 := by omega
        have z2 : (wr.setCells g 0 (List.replicate n .nilIface)).cell? ⟨mb, 2, none⟩ = some (.slice (some ⟨g, 0, none⟩) n cap) := (World.cell?_setCells_out _ _ _ _ _ (fun h => (hne h).elim)).trans d2
        have u2 : (wr.setCells g 0 (List.replicate n .nilIface)).frozen? ⟨mb, 2, none⟩ = false := (World.frozen?_setCells _ _ _ _ _).trans e2
        clear hcl
        go_wp2
        go_end0
        exact ⟨rfl, wr, unhide HB, rfl⟩
      · obtain rfl : n = 0 := by omega
        clear hcl
        go_wp2
        go_end0
        exact ⟨rfl, wr, unhide HB, rfl⟩
    | succ k =>
      have hlt : k < os.length := by rw [unhide HN]; omega
      obtain ⟨r, hr⟩ : ∃ r, os[k]? = some r := ⟨_, List.getElem?_eq_getElem hlt⟩
      obtain ⟨hc, hh⟩ := unhide HG k r hr
      obtain ⟨T1, v1, hv, _, hm1⟩ := head_name (hh.below hb)
      rw [hv] at hc
      have c3 : wr.cell? ⟨g, k, none⟩ = some (.iface T1 v1) := ((bcell hb).1 g k (block_lt hc)).trans hc
      have hstep : cut os tok (k + 1) = if tok ≤ r.tok then cut os tok k else k + 1 := by
        show (match os[k]? with | some r => if tok ≤ r.tok then cut os tok k else k + 1 | none => cut os tok k) = _
        rw [hr]
      rw [hstep] at hl
      have hm2 := unhide HM wr hb
      have hm3 := unhide HM (wr.alloc (Obj.cells #[.string ⟨r.nm.toArray⟩, .int .i64 r.tok] 127)) (hb.alloc hb.size _)
      have HL := hide hl
      have HB := hide hb
      clear hl hb hstep hc hh hv hlt hr
      have e1 : IntKind.i64.wrap ((k + 1 : Nat) : Int) = ((k + 1 : Nat) : Int) := by rw [IntKind.wrap_i64]; omega
      have e3 : ((k + 1 : Nat) : Int) = (k : Int) + 1 := by omega
      have e4 : IntKind.i64.wrap ((k : Int) + 1 - 1) = (k : Int) := by rw [IntKind.wrap_i64]; omega
      have k1 : (k : Int) < (n : Int) := by omega
      have k0 : (0 : Int) < (k : Int) + 1 := by omega
      rw [e3]
      by_cases hq : tok ≤ r.tok
      · have HL2 := hide ((if_pos hq).symm.trans (unhide HL))
        clear HL
        go_wp2
        refine ⟨⟨k, by omega, rfl, ?_, unhide HL2⟩, ?_⟩
        · have h1 := (unhide HB).alloc (unhide HB).size (Obj.cells #[.string ⟨r.nm.toArray⟩, .int .i64 r.tok] 127)
          exact h1.alloc h1.size _
        · show (k : Int).toNat < ((k : Int) + 1).toNat
          omega
      · have HL2 := hide ((if_neg hq).symm.trans (unhide HL))
        have hq2 : ¬ r.tok ≥ tok := hq
        clear HL
        obtain rfl : k + 1 = q := unhide HL2
        have i1 : (0 : Int) ≤ (k : Int) + 1 := by omega
        have i2 : (k : Int) + 1 ≤ (n : Int) := by omega
        have i3 : (k : Int) + 1 ≤ (cap : Int) := by omega
        have i4 : (n : Int) ≤ (cap : Int) := by omega
        have i5 : ((k : Int) + 1).toNat = k + 1 := by omega
        go_wp2_with fail
        refine (token_any _ ⟨r.nm.toArray⟩ r.tok).mono ?_
        rintro e w1 ⟨rfl, hb1⟩
        have hw1 := (unhide HB).trans (hb1.mono (unhide HB).size)
        have hm4 := unhide HM w1 hw1
        have HB1 := hide hw1
        clear hb1 hw1 hm2 hm3 hm1
        go_wp2_with fail
        refine (token_any _ nm tok).mono ?_
        rintro e w2 ⟨rfl, hb2⟩
        have hw2 := (unhide HB1).trans (hb2.mono (unhide HB1).size)
        have HB2 := hide hw2
        have x2 : w2.cell? ⟨mb, 2, none⟩ = some (.slice (some ⟨g, 0, none⟩) n cap) := ((bcell hw2).1 mb 2 hz).trans h2
        have y2 : w2.frozen? ⟨mb, 2, none⟩ = false := ((bcell hw2).2 mb 2 hz).trans f2
        have hcl := unhide HCL w2 hw2
        clear hb2 hw2 hm4
        by_cases hlt : k + 1 < n
        · have hx : ¬ cap = k + 1 := by omega
          have hcl2 := hcl hlt
          have hne := unhide HNE
          clear hcl
          have z2 : (w2.setCells g (k + 1) (List.replicate (n - (k + 1)) .nilIface)).cell? ⟨mb, 2, none⟩ = some (.slice (some ⟨g, 0, none⟩) n cap) := (World.cell?_setCells_out _ _ _ _ _ (fun h => (hne h).elim)).trans x2
          have u2 : (w2.setCells g (k + 1) (List.replicate (n - (k + 1)) .nilIface)).frozen? ⟨mb, 2, none⟩ = false := (World.frozen?_setCells _ _ _ _ _).trans y2
          go_wp2
          go_end0
          exact ⟨rfl, w2, unhide HB2, rfl⟩
        · have hkn : k + 1 = n := by omega
          have hs : List.replicate (n - (k + 1)) Value.nilIface = [] := by rw [hkn, Nat.sub_self]; rfl
          have hs2 : n - (k + 1) = 0 := by omega
          generalize hx : (if cap = k + 1 then (some ⟨g, 0, none⟩ : Option Addr) else some ⟨g, k + 1, none⟩) = x
          have HS := hide hs
          clear hcl hkn hs
          go_wp2
          go_end0
          exact ⟨rfl, w2, unhide HB2, by rw [unhide HS]; rfl⟩
end Go.Proofs.YtgnlokmeohffaaaGreatDoor
/- forget, at whatever words of one's own lie in memory: what the document's machine says. -/
namespace Go.Proofs.YtgnlokmeohffaaaGreatDoor
open Go.RowKit

/-- The row of words is another. -/
theorem RunAt.set2 {w : World} {mb rb : Nat} {vO vB vW vS vR vT : Value} {s : L.RunS} (h : RunAt w mb rb vO vB vW vS vR vT s) (u : Value) : RunAt (w.setCell ⟨mb, 2, none⟩ u) mb rb u vB vW vS vR vT s := by
  have hset := set_block h.m 2 u
  have hoth : ∀ j, j ≠ mb → (w.setCell ⟨mb, 2, none⟩ u).heap[j]? = w.heap[j]? := fun j hj => Below.heap_setCell _ _ _ _ hj
  refine ⟨hset, (hoth rb (ne_of_type h.r h.m (by decide))).trans h.r, ?_, ?_, ?_, ?_, h.ap, h.sl, h.rl, h.ol, h.wl, h.si, h.ri⟩
  · exact owns_kept h.st fun j e => hoth j fun x => own_ne_of_type h.st h.m (by decide) (x ▸ e)
  · exact owns_kept h.asd fun j e => hoth j fun x => own_ne_of_type h.asd h.m (by decide) (x ▸ e)
  · exact owns_kept h.ot fun j e => hoth j fun x => own_ne_of_type h.ot h.m (by decide) (x ▸ e)
  · exact owns_kept h.wd fun j e => hoth j fun x => own_ne_of_type h.wd h.m (by decide) (x ▸ e)

set_option maxRecDepth 100000 in
theorem forget_any (w : World) (mb rb : Nat) (vO vB vW vS vR vT : Value) (wv : List Own) (s : L.RunS) (all : List N.Ent) (k : Nat) (o : Own) (e : N.Ent) (h : Ready w mb rb vO vB vW vS vR vT wv s all) (hk : all[k]? = some e) (ho : wv[k]? = some o) (hen : e.ended = true) :
    Calls Tryz.prog 66 #[.pointer (some ⟨mb, 0, none⟩), ownVal o] w fun r w' => r = .returned (.tuple #[]) ∧ GoesN mb rb vO vB vW vS vR vT wv s (N.forgets (toM s all) k) 0 w w' := by
  have hkl : k ≤ all.length := Nat.le_of_lt (List.getElem?_eq_some_iff.1 hk).1
  have hent := h.own.ent k e o hk ho hen
  obtain ⟨T, v, hTv, _⟩ := head_name hent.head
  have hmt : ∀ W, Below w.heap.size w W → ∀ F : Nat, (method (F + 1) T v "Token").run Tryz.prog W = .ok (65, .agg #[.string ⟨e.name.toArray⟩, .int .i64 (1000 + (k : Int))]) W := fun W hb => by
    obtain ⟨T2, v2, hTv2, _, hmt⟩ := head_name ((h.own.below hb).ent k e o hk ho hen).head
    have e3 : Value.iface T v = Value.iface T2 v2 := hTv.symm.trans hTv2
    clear hTv hTv2
    injection e3 with e1 e2
    rw [e1, e2]
    exact hmt
  have m2 : w.cell? ⟨mb, 2, none⟩ = some vO := cell_of_block h.run.m rfl
  have f2 : w.frozen? ⟨mb, 2, none⟩ = false := frozen_of_block 2 h.run.m
  rw [hTv]
  have hlist := listed_forg all wv k h.own.len hkl
  have goes : ∀ (W w1 : World) (vO' : Value), Below w.heap.size w W → (∀ j, vO.ownBlock ≠ some j → w1.heap[j]? = W.heap[j]?) → Mv (fun j => vO.ownBlock = some j) W w1 → (∀ j, vO'.ownBlock = some j → vO.ownBlock = some j) →
      w1.ownsRow 0 62 1 vO' (listed (forg all k) wv).length (listed (forg all k) wv) → GoesN mb rb vO vB vW vS vR vT wv s (N.forgets (toM s all) k) 0 w (w1.setCell ⟨mb, 2, none⟩ vO') := by
    intro W w1 vO' hb hoth hmv hsub hrow
    have hrW := h.run.below hb
    have hoW := h.own.below hb
    have hnot : ∀ j, Foot mb rb vS vR vT j ∨ vW.ownBlock = some j → vO.ownBlock ≠ some j := by
      intro j hj hh
      have hob : OBlock W j := owns_oblock hoW.row (.inr rfl) hh
      rcases hj with hj | hj
      · exact foot_not_own hrW hob hj
      · obtain ⟨c1, hc1⟩ := owns_block hoW.row hh
        exact own_ne_of_type hrW.wd hc1 (by decide) hj
    have hr1 : RunAt w1 mb rb vO vB vW vS vR vT s := hrW.kept fun j hj => hoth j (hnot j hj)
    have hr2 := hr1.set2 vO'
    have hne : ∀ j, OBlock W j → j ≠ mb := fun j hj x => foot_not_own hrW hj (.inl x)
    have hrow2 : (w1.setCell ⟨mb, 2, none⟩ vO').ownsRow 0 62 1 vO' (listed (forg all k) wv).length (listed (forg all k) wv) := owns_kept hrow fun j hj => by
      refine Below.heap_setCell _ _ _ _ fun x => ?_
      have hob : OBlock W j := owns_oblock hoW.row (.inr rfl) (hsub j hj)
      exact hne j hob x
    have hown := hoW.forgot (w' := w1.setCell ⟨mb, 2, none⟩ vO') k hkl (fun j hj hn => (Below.heap_setCell _ _ _ _ (hne j hj)).trans (hoth j hn)) hrow2
    refine ⟨vO', vS, vR, vT, s, hr2, hown, ?_, ?_, rfl, rfl, rfl, rfl, fun _ => ⟨rfl, rfl, rfl⟩⟩
    · have h1 : Mv (FootN mb rb vO vS vR vT wv) w w1 := (Mv.of_below hb _).trans (Fresh.refl _ _) (hmv.weaken fun j hj => .inr (.inr hj))
      exact h1.setCell (.inl (.inl (.inl rfl))) _
    · intro j hj
      rcases hj with hj | hj | hj
      · exact .inl (.inl hj)
      · exact .inl (.inr (.inl hj))
      · exact .inl (.inr (.inr (hsub j hj)))
  rcases h.own.rowsAt with ⟨rfl, h0⟩ | ⟨g, cap, rfl, hg⟩
  · refine (forget_nil w mb T v m2 f2).mono ?_
    rintro r w' ⟨rfl, W, hb, rfl⟩
    refine ⟨rfl, goes W W _ hb (fun _ _ => rfl) (Mv.refl _ _) (fun _ hj => hj) ?_⟩
    have : listed (forg all k) wv = [] := by
      rw [hlist, listed_rows, h0]
      exact List.take_nil
    rw [this]
    exact World.ownsRow_nil _ _ _ _
  · have hrow := h.own.row
    have hlen : (listed all wv).length = (rows all wv).length := by rw [listed_rows, List.length_map]
    rw [hlen] at hrow
    have hcap : (rows all wv).length ≤ cap := by
      obtain ⟨a, c, h1, h2, _⟩ := owns_slice hrow
      injection h1 with _ _ h1
      omega
    have hq := cut_rows all wv k h.own.len hkl
    have hlenF : (listed (forg all k) wv).length = (rows (forg all k) wv).length := by rw [listed_rows, List.length_map]
    have hle : (rows (forg all k) wv).length ≤ (rows all wv).length := by rw [← hq]; exact cut_le _ _ _
    have hfz : ∀ W, Below w.heap.size w W → ∀ j, W.frozen? ⟨g, j, none⟩ = false := fun W hb j => by
      obtain ⟨cur, hc⟩ := owns_block (h.own.below hb).row (k := g) rfl
      exact frozen_of_block j hc
    have hcell : ∀ W, Below w.heap.size w W → ∀ j, j < (rows all wv).length → (W.cell? ⟨g, j, none⟩).isSome = true := fun W hb j hj => by
      obtain ⟨r, hr⟩ : ∃ r, (rows all wv)[j]? = some r := ⟨_, List.getElem?_eq_getElem hj⟩
      have := (hg j r hr).1
      rw [(bcell hb).1 g j (block_lt this), this]
      rfl
    refine (forget_walk w mb g cap (rows all wv) (1000 + (k : Int)) _ T v ⟨e.name.toArray⟩ m2 f2 (by have := h.own.few; omega) hcap hg hmt hcell hfz hq ?_).mono ?_
    · intro x
      obtain ⟨cur, hc⟩ := owns_block h.own.row (k := g) rfl
      exact ne_of_type h.run.m hc (by decide) x
    rintro r w' ⟨rfl, W, hb, hw'⟩
    refine ⟨rfl, ?_⟩
    have hrowW := (h.own.below hb).row
    rw [hlen] at hrowW
    have htake := owns_take hrowW (rows (forg all k) wv).length hle
    rw [← hlist] at htake
    have hT : (fun j => (Value.slice (some ⟨g, 0, none⟩) (rows all wv).length cap).ownBlock = some j) g := rfl
    rw [hw']
    refine goes W _ _ hb ?_ (mv_sets (T := fun j => (Value.slice (some ⟨g, 0, none⟩) (rows all wv).length cap).ownBlock = some j) hT _ _ _ _ (Mv.refl _ _)) (fun _ hj => hj) ?_
    · intro j hj
      exact heap_sets_other (fun x => hj (by rw [x]; rfl)) _ _ _
    · rw [hlenF]
      exact owns_sets_beyond _ _ _ htake (Nat.le_refl _)
end Go.Proofs.YtgnlokmeohffaaaGreatDoor
/- do, at a marker. -/
namespace Go.Proofs.YtgnlokmeohffaaaGreatDoor
open Go.RowKit
attribute [local go_sem ↓] Go.wp_at_zero Go.wp_at_succ

set_option maxRecDepth 100000 in
set_option maxHeartbeats 800000 in
theorem do_mark (w : World) (mb rb : Nat) (nm : ByteArray) (tok : Int) (h0 : w.cell? ⟨rb, 0, none⟩ = some (.pointer (some ⟨mb, 0, none⟩))) (P : World → Prop)
    (H : Hid (∀ W, Below w.heap.size w W → W.heap[w.heap.size]? = some (Obj.cells #[.string nm, .int .i64 tok] 132) → Calls Tryz.prog 66 #[.pointer (some ⟨mb, 0, none⟩), .iface 132 (.agg #[.string nm, .int .i64 tok])] W fun r w' => r = .returned (.tuple #[]) ∧ w'.cell? ⟨rb, 0, none⟩ = some (.pointer (some ⟨mb, 0, none⟩)) ∧ w'.heap[w.heap.size]? = some (Obj.cells #[.string nm, .int .i64 tok] 132) ∧ P w')) :
    Calls Tryz.prog 52 #[.pointer (some ⟨rb, 0, none⟩), .iface 132 (.agg #[.string nm, .int .i64 tok])] w fun r w' => r = .returned (.int .i64 0) ∧ P w' := by
  have a0 := as_mark_number (.agg #[.string nm, .int .i64 tok])
  have a1 := as_mark_prim (.agg #[.string nm, .int .i64 tok])
  have a2 := as_mark_defn (.agg #[.string nm, .int .i64 tok])
  have a3 := as_mark_vari (.agg #[.string nm, .int .i64 tok])
  have a4 := as_mark_cons (.agg #[.string nm, .int .i64 tok])
  have a5 := as_mark_mark (.agg #[.string nm, .int .i64 tok])
  have c0 : (w.alloc (Obj.cells #[.string nm, .int .i64 tok] 132)).cell? ⟨rb, 0, none⟩ = some (.pointer (some ⟨mb, 0, none⟩)) := cell_alloc h0 _
  have hn : (w.alloc (Obj.cells #[.string nm, .int .i64 tok] 132)).heap[w.heap.size]? = some (Obj.cells #[.string nm, .int .i64 tok] 132) := heap_alloc_new w _
  have c1 : (w.alloc (Obj.cells #[.string nm, .int .i64 tok] 132)).cell? ⟨w.heap.size, 0, none⟩ = some (.string nm) := cell_of_block hn rfl
  have c2 : (w.alloc (Obj.cells #[.string nm, .int .i64 tok] 132)).cell? ⟨w.heap.size, 1, none⟩ = some (.int .i64 tok) := cell_of_block hn rfl
  have hb := ((Below.refl w.heap.size w).alloc (Nat.le_refl _) (Obj.cells #[.string nm, .int .i64 tok] 132)).drew
  have H2 := hide (unhide H _ hb hn)
  clear hb hn h0
  go_enter Tryz.func52, Tryz.ntmps52
  go_wp2
  go_region_held3 (fun w' => w'.cell? ⟨rb, 0, none⟩ = some (.pointer (some ⟨mb, 0, none⟩)) ∧ w'.cell? ⟨w.heap.size, 0, none⟩ = some (.string nm) ∧ w'.cell? ⟨w.heap.size, 1, none⟩ = some (.int .i64 tok)) (first | exact ⟨c0, c1, c2⟩ | exact (by assumption) | go_keep)
    ((go_at_call 66; refine (unhide H2).mono ?_
      rintro e w' ⟨rfl, c0, hh, hP⟩
      have c1 : w'.cell? ⟨w.heap.size, 0, none⟩ = some (.string nm) := cell_of_block hh rfl
      have c2 : w'.cell? ⟨w.heap.size, 1, none⟩ = some (.int .i64 tok) := cell_of_block hh rfl
      have HP := hide hP
      clear hP hh))
  go_wp2
  go_ret
  exact ⟨rfl, unhide HP⟩
end Go.Proofs.YtgnlokmeohffaaaGreatDoor
/- do, at each kind of word but bold ones: what the document's machine does; over what definitions do. -/
namespace Go.Proofs.YtgnlokmeohffaaaGreatDoor
open Go.RowKit

/-- A definition does what the document's machine does, with this fuel. -/
def DoesDef (mb rb : Nat) (vB vW : Value) (wv : List Own) (f : Nat) : Prop :=
  ∀ (w : World) (vO vS vR vT : Value) (s : L.RunS) (all : List N.Ent) (k b : Nat), Ready w mb rb vO vB vW vS vR vT wv s all → wv[k]? = some (Own.defn b) → (∃ e, all[k]? = some e ∧ e.ended = true) → 1000 - s.steps < f →
    Calls Tryz.prog 64 #[.pointer (some ⟨rb, 0, none⟩), .pointer (some ⟨b, 0, none⟩)] w fun r w' => r = .returned (.int .i64 (N.owns f (toM s all) k s.depth).2) ∧ GoesN mb rb vO vB vW vS vR vT wv s (N.owns f (toM s all) k s.depth).1 (N.owns f (toM s all) k s.depth).2 w w'
/-- A word of one's own does. -/
def DoesOwn (mb rb : Nat) (vB vW : Value) (wv : List Own) (f : Nat) : Prop :=
  ∀ (w : World) (vO vS vR vT : Value) (s : L.RunS) (all : List N.Ent) (k : Nat) (o : Own), Ready w mb rb vO vB vW vS vR vT wv s all → wv[k]? = some o → (∃ e, all[k]? = some e ∧ e.ended = true) → 1000 - s.steps < f →
    Calls Tryz.prog 52 #[.pointer (some ⟨rb, 0, none⟩), ownVal o] w fun r w' => r = .returned (.int .i64 (N.owns f (toM s all) k s.depth).2) ∧ GoesN mb rb vO vB vW vS vR vT wv s (N.owns f (toM s all) k s.depth).1 (N.owns f (toM s all) k s.depth).2 w w'

theorem owns_kind2 {f : Nat} {s : L.RunS} {all : List N.Ent} {k d : Nat} {e : N.Ent} (he : all[k]? = some e) (hk : e.kind = 2) : N.owns f (toM s all) k d = N.push (toM s all) (1000 + k) := by
  unfold N.owns
  have : (toM s all).all[k]? = some e := he
  rw [this]
  exact if_pos hk
theorem owns_kind3 {f : Nat} {s : L.RunS} {all : List N.Ent} {k d : Nat} {e : N.Ent} (he : all[k]? = some e) (hk : e.kind = 3) : N.owns f (toM s all) k d = N.push (toM s all) e.n := by
  unfold N.owns
  have : (toM s all).all[k]? = some e := he
  rw [this]
  exact (if_neg (by omega)).trans (if_pos hk)

theorem owns_kind4 {f : Nat} {s : L.RunS} {all : List N.Ent} {k d : Nat} {e : N.Ent} (he : all[k]? = some e) (hk : e.kind = 4) : N.owns f (toM s all) k d = (N.forgets (toM s all) k, 0) := by
  unfold N.owns
  have : (toM s all).all[k]? = some e := he
  rw [this]
  exact (if_neg (by omega)).trans ((if_neg (by omega)).trans (if_pos hk))

theorem varIn_lt {w : World} {all : List N.Ent} {wv : List Own} {vO vB : Value} (ho : OwnAt w all wv vO vB) {k : Nat} (h : VarIn wv k) : k < w.heap.size := oblock_lt (var_block ho h)

theorem footN_lt {w : World} {mb rb : Nat} {vO vB vW vS vR vT : Value} {wv : List Own} {s : L.RunS} {all : List N.Ent} (h : Ready w mb rb vO vB vW vS vR vT wv s all) {k : Nat} (hk : FootN mb rb vO vS vR vT wv k) : k < w.heap.size := by
  rcases hk with hk | hk | hk
  · exact h.run.lt k (.inl hk)
  · exact varIn_lt h.own hk
  · exact (h.own.row.lt k hk).2

theorem doesOwn_of {mb rb : Nat} {vB vW : Value} {wv : List Own} {f : Nat} (h : DoesDef mb rb vB vW wv f) : DoesOwn mb rb vB vW wv f := by
  intro w vO vS vR vT s all k o hr ho he hf
  obtain ⟨e, he, hen⟩ := he
  have hent := hr.own.ent k e o he ho hen
  cases o with
  | defn b => exact do_defn w rb b _ _ (hide (h w vO vS vR vT s all k b hr ho ⟨e, he, hen⟩ hf))
  | vari b =>
    have hlt := hr.own.old
    have hkl := (List.getElem?_eq_some_iff.1 he).1
    rw [owns_kind2 he hent.1]
    exact do_vari w rb b ⟨e.name.toArray⟩ (1000 + (k : Int)) (cell_of_block hent.2.2 rfl) (cell_of_block hent.2.2 rfl) _ _ (hide fun W hb =>
      (lay_N W mb rb vO vB vW vS vR vT wv s all (1000 + (k : Int)) (hr.below hb) ⟨by omega, by omega⟩).mono fun r w' hh => ⟨hh.1, GoesN.after hb hh.2⟩)
  | cons nm t n =>
    obtain ⟨h3, hin, hnm, ht, hn⟩ := hent
    rw [owns_kind3 he h3]
    subst hn
    exact do_cons w rb ⟨nm.toArray⟩ t e.n _ _ (hide fun W hb =>
      (lay_N W mb rb vO vB vW vS vR vT wv s all e.n (hr.below hb) hin).mono fun r w' hh => ⟨hh.1, GoesN.after hb hh.2⟩)
  | mark nm t =>
    rw [owns_kind4 he hent.1]
    exact do_mark w mb rb ⟨nm.toArray⟩ t (cell_of_block hr.run.r rfl) _ (hide fun W hb hnew =>
      (forget_any W mb rb vO vB vW vS vR vT wv s all k (.mark nm t) e (hr.below hb) he ho hen).mono fun r w' hh => by
        obtain ⟨vO', v1, v2, v3, s', g1, g2, g3, g4⟩ := hh.2
        refine ⟨hh.1, cell_of_block g1.r rfl, (g3.block _ (heap_lt hnew) fun x => ?_).trans hnew, GoesN.after hb hh.2⟩
        have := footN_lt hr x
        omega)

abbrev wExec : List UInt8 := [101, 120, 101, 99, 117, 116, 101]

theorem prim_exec_gone (s : L.RunS) (all : List N.Ent) (x : Int) (hT : s.S.drop (s.S.length - 1) = [x]) (h1 : 1 ≤ s.S.length) (hp : N.place (toM s all) x = none) : N.prim (toM s all) wExec = (toM s all, 10, none) := by
  unfold N.prim
  have ht : N.takes wExec = (1, 0, 0, 0) := by decide
  have hl : (toM s all).S.drop ((toM s all).S.length - 1) = [x] := hT
  simp only [ht, hl]
  rw [if_neg (by show ¬ (s.S.length < 1 ∨ s.R.length < 0); omega)]
  have hwr : N.wrong (toM s all) wExec [x] = 10 := by
    show (match N.place (toM s all) x with | some _ => (0 : Int) | none => 10) = 10
    rw [hp]
  rw [hwr]
  rfl
theorem prim_exec_some (s : L.RunS) (all : List N.Ent) (x : Int) (k : Nat) (hT : s.S.drop (s.S.length - 1) = [x]) (h1 : 1 ≤ s.S.length) (h16 : s.S.length ≤ 16) (hR : s.R.length ≤ 16) (ho : s.out.length ≤ 300) (hp : N.place (toM s all) x = some k) :
    N.prim (toM s all) wExec = (toM { s with S := s.S.take (s.S.length - 1) } all, 0, some k) := by
  obtain ⟨_, _, _, hx⟩ := place_some hp
  unfold N.prim
  have ht : N.takes wExec = (1, 0, 0, 0) := by decide
  have hl : (toM s all).S.drop ((toM s all).S.length - 1) = [x] := hT
  simp only [ht, hl]
  rw [if_neg (by show ¬ (s.S.length < 1 ∨ s.R.length < 0); omega)]
  have hwr : N.wrong (toM s all) wExec [x] = 0 := by
    show (match N.place (toM s all) x with | some _ => (0 : Int) | none => 10) = 0
    rw [hp]
  rw [hwr]
  simp only [ne_eq, not_true_eq_false, if_false]
  rw [if_neg (by show ¬ (16 < s.S.length - 1 + 0 ∨ 16 < s.R.length - 0 + 0); omega), if_neg (by show ¬ (300 < s.out.length + 0); omega)]
  have hxk : (x - 1000).toNat = k := by omega
  show ((⟨all, s.S.take (s.S.length - 1), s.R, s.out ++ [], s.steps⟩ : N.Mach), (0 : Int), some (x - 1000).toNat) = _
  rw [hxk]
  simp [toM]

/-- What a word of the language comes to, with what is to be done next. -/
def primDoes (f : Nat) (m : N.Mach) (depth : Nat) (nm : List UInt8) : N.Mach × Int :=
  match (N.prim m nm).2.2 with
  | some j => N.owns f (N.prim m nm).1 j depth
  | none => ((N.prim m nm).1, (N.prim m nm).2.1)

theorem ready_taken {w w' : World} {mb rb : Nat} {vO vB vW vS vR vT v1 : Value} {wv : List Own} {s : L.RunS} {all : List N.Ent} {k : Nat} (h : Ready w mb rb vO vB vW vS vR vT wv s all)
    (hr : RunAt w' mb rb vO vB vW v1 vR vT { s with S := s.S.take (s.S.length - k) }) (hm : Mv (Foot mb rb vS vR vT) w w') (hf : Fresh w (Foot mb rb vS vR vT) (Foot mb rb v1 vR vT)) : Ready w' mb rb vO vB vW v1 vR vT wv { s with S := s.S.take (s.S.length - k) } all := by
  refine ⟨hr, h.own.mv h.run hm, ?_, ?_, h.st, h.dp⟩
  · exact tabIs_of_block h.tab (hm.block _ (tab_lt h.tab) fun hh => h.nof (.inl hh))
  · intro hh
    rcases footN_fresh (wv := wv) hf _ hh with x | x
    · exact h.nof x
    · have := tab_lt h.tab
      omega

/-- execute -/
theorem prim_execute {mb rb : Nat} {vB vW : Value} {wv : List Own} {f : Nat} (hO : DoesOwn mb rb vB vW wv f) (w : World) (vO vS vR vT : Value) (s : L.RunS) (all : List N.Ent) (h : Ready w mb rb vO vB vW vS vR vT wv s all) (hf : 1000 - s.steps < f) :
    Calls Tryz.prog 63 #[.pointer (some ⟨rb, 0, none⟩), primVal ⟨wExec, 1, 0, 3⟩] w fun r w' => r = .returned (.int .i64 (primDoes f (toM s all) s.depth wExec).2) ∧ GoesN mb rb vO vB vW vS vR vT wv s (primDoes f (toM s all) s.depth wExec).1 (primDoes f (toM s all) s.depth wExec).2 w w' := by
  unfold primDoes
  by_cases hu : s.S.length < 1 ∨ s.R.length < 0
  · have hd : N.prim (toM s all) wExec = (toM s all, 6, none) := if_pos hu
    rw [hd]
    exact (doPrim_few w mb rb vO vB vW vS vR vT s _ 1 0 3 h.run hu).mono fun r w' hh => ⟨hh.1, GoesN.stay h.run h.own hh.2⟩
  · have h1 : 1 ≤ s.S.length := by omega
    have hTl : (s.S.drop (s.S.length - 1)).length = 1 := by rw [List.length_drop]; omega
    obtain ⟨x, hx⟩ : ∃ x, s.S.drop (s.S.length - 1) = [x] := List.length_eq_one_iff.1 hTl
    have tail : ∀ (code : Int) (Q : World → World → Prop), (∀ W, Below w.heap.size w W → Calls Tryz.prog 104 #[.pointer (some ⟨rb, 0, none⟩), ownAt wv (N.place (toM s all) x)] W fun r w' => r = .returned (.int .i64 code) ∧ Q W w') →
        Calls Tryz.prog 63 #[.pointer (some ⟨rb, 0, none⟩), primVal ⟨wExec, 1, 0, 3⟩] w fun r w' => r = .returned (.int .i64 code) ∧ ∃ W, Below w.heap.size w W ∧ Q W w' := by
      intro code Q hF
      refine (doPrim_tail w mb rb vO vB vW vS vR vT s ⟨#[101, 120, 101, 99, 117, 116, 101]⟩ 1 0 3 code (fun W w' => ∃ W', Below W.heap.size W W' ∧ Below w.heap.size w W ∧ Q W' w') h.run h1 (Nat.zero_le _) fun vT' vA' hs _ => .inl ⟨rfl, fun W hb => ?_⟩).mono ?_
      · rw [hx] at hs
        obtain ⟨b, o, c, y, hy, rfl, hc⟩ := src_one hs rfl
        injection hy with hy
        subst hy
        refine (reach_execute W mb rb b o c 1 0 rfl (by decide) x (ownAt wv (N.place (toM s all) x)) code (fun W' w' => Q W' w') (cell_of_block (h.run.below hb).r rfl) (cell_below hc hb) (hide fun W1 hb1 => ?_) (hide fun W1 hb1 => ?_)).mono ?_
        · have hr1 := (h.below hb).below hb1
          exact byTok_any W1 mb x s all wv vO vB (cell_of_block hr1.run.m rfl) hr1.own
        · exact hF W1 (hb.trans (hb1.mono hb.size))
        · rintro r w' ⟨rfl, W', hb', hq⟩
          exact ⟨rfl, W', hb', hb, hq⟩
      · rintro r w' ⟨rfl, W, _, W', hb', hb, hq⟩
        exact ⟨rfl, W', hb.trans (hb'.mono hb.size), hq⟩
    cases hp : N.place (toM s all) x with
    | none =>
      rw [prim_exec_gone s all x hx h1 hp]
      rw [hp] at tail
      refine (tail 10 (fun W w' => w' = W) fun W hb => execute_nil W rb).mono ?_
      rintro r w' ⟨rfl, W, hb, rfl⟩
      exact ⟨rfl, GoesN.stay h.run h.own hb⟩
    | some k =>
      rw [prim_exec_some s all x k hx h1 h.run.sl h.run.rl h.run.ol hp]
      rw [hp] at tail
      obtain ⟨e, he, hth, _⟩ := place_some hp
      have hlt : k < wv.length := by
        rw [h.own.len]
        exact (List.getElem?_eq_some_iff.1 he).1
      obtain ⟨o, ho⟩ : ∃ o, wv[k]? = some o := ⟨_, List.getElem?_eq_getElem hlt⟩
      have hv : ownAt wv (some k) = ownVal o := by unfold ownAt; rw [Option.bind_some, ho]; rfl
      obtain ⟨T, v, hTv⟩ := ownVal_iface o
      rw [hv, hTv] at tail
      show Calls _ _ _ _ fun r w' => r = .returned (.int .i64 (N.owns f (toM { s with S := s.S.take (s.S.length - 1) } all) k s.depth).2) ∧ GoesN mb rb vO vB vW vS vR vT wv s (N.owns f (toM { s with S := s.S.take (s.S.length - 1) } all) k s.depth).1 (N.owns f (toM { s with S := s.S.take (s.S.length - 1) } all) k s.depth).2 w w'
      refine (tail (N.owns f (toM { s with S := s.S.take (s.S.length - 1) } all) k s.depth).2 (fun W w' => GoesN mb rb vO vB vW vS vR vT wv s (N.owns f (toM { s with S := s.S.take (s.S.length - 1) } all) k s.depth).1 (N.owns f (toM { s with S := s.S.take (s.S.length - 1) } all) k s.depth).2 W w') fun W hb => ?_).mono ?_
      · have hr := h.below hb
        refine execute_walk W rb T v _ _ (hide ?_)
        refine (take_any W mb rb 1 vO vB vW vS vR vT s hr.run (Nat.le_refl _) (by decide)).mono ?_
        intro r w1 hh
        rw [if_neg (by omega)] at hh
        obtain ⟨g, o', c, v1, rfl, _, hr1, hm1, hf1⟩ := hh
        refine ⟨_, rfl, ?_⟩
        have hR1 := ready_taken hr hr1 hm1 hf1
        have := hO w1 vO v1 vR vT _ all k o hR1 ho ⟨e, he, there_ended hth⟩ hf
        rw [hTv] at this
        refine this.mono fun r w' hh => ⟨hh.1, ?_⟩
        obtain ⟨vO', x1, x2, x3, s', g1, g2, g3, g4, g5⟩ := hh.2
        have hmN : Mv (FootN mb rb vO vS vR vT wv) W w1 := hm1.weaken fun k hk => .inl hk
        exact ⟨vO', x1, x2, x3, s', g1, g2, hmN.trans (footN_fresh hf1) g3, (footN_fresh hf1).trans hm1.size g4, g5⟩
      · rintro r w' ⟨rfl, W, hb, hg⟩
        exact ⟨rfl, GoesN.after hb hg⟩

/-- A word of the language, at whatever run. -/
theorem prim_any {mb rb : Nat} {vB vW : Value} {wv : List Own} {f : Nat} (hO : DoesOwn mb rb vB vW wv f) (w : World) (vO vS vR vT : Value) (s : L.RunS) (all : List N.Ent) (h : Ready w mb rb vO vB vW vS vR vT wv s all) (hf : 1000 - s.steps < f) (p : L.Prim) (hp : p ∈ L.primTab ++ L.reachTab) :
    Calls Tryz.prog 63 #[.pointer (some ⟨rb, 0, none⟩), primVal p] w fun r w' => r = .returned (.int .i64 (primDoes f (toM s all) s.depth p.name).2) ∧ GoesN mb rb vO vB vW vS vR vT wv s (primDoes f (toM s all) s.depth p.name).1 (primDoes f (toM s all) s.depth p.name).2 w w' := by
  rcases List.mem_append.1 hp with hp | hp
  · unfold primDoes
    rw [prim_plain s all p hp]
    exact (doPrim_any w mb rb vO vB vW vS vR vT s p hp h.run h.tab).mono fun r w' hh => ⟨hh.1, GoesN.of_goes h.run h.own hh.2 (L.doPrim_same _ _)⟩
  · simp only [L.reachTab, List.mem_cons, List.not_mem_nil, or_false] at hp
    rcases hp with rfl | rfl | rfl
    · unfold primDoes
      refine (prim_fetch w mb rb vO vB vW vS vR vT wv s all h).mono fun r w' hh => ?_
      obtain ⟨h1, h2, h3⟩ := hh
      rw [h2]
      exact ⟨h1, h3⟩
    · exact prim_execute hO w vO vS vR vT s all h hf
    · unfold primDoes
      refine (prim_store w mb rb vO vB vW vS vR vT wv s all h).mono fun r w' hh => ?_
      obtain ⟨h1, h2, h3⟩ := hh
      rw [h2]
      exact ⟨h1, h3⟩

/-- A word of a body that is not bold. -/
theorem cell_any {mb rb : Nat} {vB vW : Value} {wv : List Own} {f : Nat} (hO : DoesOwn mb rb vB vW wv f) (w : World) (vO vS vR vT : Value) (s : L.RunS) (all : List N.Ent) (h : Ready w mb rb vO vB vW vS vR vT wv s all) (hf : 1000 - s.steps < f) (j : Nat) (c : N.Cell) (g : Nat) (hc : cellOk all j c) (hk : c.kind ≠ 4) :
    Calls Tryz.prog 52 #[.pointer (some ⟨rb, 0, none⟩), cellVal wv (c, g)] w fun r w' => r = .returned (.int .i64 (N.cellDoes f (toM s all) s.depth c).2) ∧ GoesN mb rb vO vB vW vS vR vT wv s (N.cellDoes f (toM s all) s.depth c).1 (N.cellDoes f (toM s all) s.depth c).2 w w' := by
  rcases hc with ⟨h1, hin⟩ | ⟨h2, k, e, hn, _, he, hen⟩ | ⟨h3, hfind⟩ | ⟨h4, _⟩
  · have e1 : cellVal wv (c, g) = .iface 117 (.int .i64 c.n) := if_pos h1
    have e2 : N.cellDoes f (toM s all) s.depth c = N.push (toM s all) c.n := if_pos h1
    rw [e1, e2]
    exact do_num w rb c.n _ _ (hide (lay_N w mb rb vO vB vW vS vR vT wv s all c.n h hin))
  · have hnk : c.n.toNat = k := by omega
    have hlt : k < wv.length := by
      rw [h.own.len]
      exact (List.getElem?_eq_some_iff.1 he).1
    obtain ⟨o, ho⟩ : ∃ o, wv[k]? = some o := ⟨_, List.getElem?_eq_getElem hlt⟩
    have e1 : cellVal wv (c, g) = ownVal o := by
      refine (if_neg (by show ¬ c.kind = 1; omega)).trans ((if_pos h2).trans ?_)
      show ((wv[c.n.toNat]?).map ownVal).getD .nilIface = _
      rw [hnk, ho]
      rfl
    have e2 : N.cellDoes f (toM s all) s.depth c = N.owns f (toM s all) k s.depth := by
      refine (if_neg (by omega)).trans ((if_pos h2).trans ?_)
      rw [hnk]
    rw [e1, e2]
    exact hO w vO vS vR vT s all k o h ho ⟨e, he, hen⟩ hf
  · obtain ⟨p, hp⟩ := Option.isSome_iff_exists.1 hfind
    have hm := List.mem_of_find?_eq_some hp
    have hnm := List.find?_some hp
    rw [beq_iff_eq] at hnm
    have e1 : cellVal wv (c, g) = .iface 120 (primVal p) := by
      refine (if_neg (by show ¬ c.kind = 1; omega)).trans ((if_neg (by show ¬ c.kind = 2; omega)).trans ((if_pos h3).trans ?_))
      show ((L.find c.name).map fun p => Value.iface 120 (primVal p)).getD .nilIface = _
      rw [hp]
      rfl
    have e2 : N.cellDoes f (toM s all) s.depth c = primDoes f (toM s all) s.depth p.name := by
      rw [← hnm]
      exact (if_neg (by omega)).trans (if_neg (by omega))
    rw [e1, e2]
    exact do_prim w rb ⟨p.name.toArray⟩ p.takes p.aside p.group _ _ (hide fun W hb => (prim_any hO W vO vS vR vT s all (h.below hb) hf p hm).mono fun r w' hh => ⟨hh.1, GoesN.after hb hh.2⟩)
  · exact (hk h4).elim
end Go.Proofs.YtgnlokmeohffaaaGreatDoor
