/- doPrimitive: the walks over what Plan and commit answer (R3a). -/
import Derived.Test.YthpcapohfjidoaaDoorR3
namespace Go.Proofs.YthpcapohfjidoaaDoor
open Go.RowKit
attribute [local go_sem ↓] Go.wp_at_zero Go.wp_at_succ

set_option maxRecDepth 100000 in
set_option maxHeartbeats 1600000 in
theorem doPrim_err_nn (w : World) (mb rb n t capS m a capR : Nat) (nm : ByteArray) (g : Int) (lays aside : List Int) (tells : List UInt8) (err : Int) (he : (err != 0) = true) 
    (hr0 : ∀ o, (w.alloc o).cell? ⟨rb, 0, none⟩ = some (.pointer (some ⟨mb, 0, none⟩)))
    (hm0 : ∀ o, (w.alloc o).cell? ⟨mb, 0, none⟩ = some (.slice none n capS)) (hm1 : ∀ o, (w.alloc o).cell? ⟨mb, 1, none⟩ = some (.slice none m capR)) (hn : n ≤ 16) (ht : t ≤ n) (hcS : n ≤ capS) (hm : m ≤ 16) (ha : a ≤ m) (hcR : m ≤ capR)
    (HP : Hid (∀ w1, Below w.heap.size w w1 → Calls Tryd.prog 30 #[.agg #[Value.string nm, Value.int .i64 t, Value.int .i64 a, Value.int .i64 g], .slice none (n - (n - t)) (capS - (n - t)), .slice none (m - (m - a)) (capR - (m - a)), (.int .i64 (n : Int))] w1 fun e w' => ∃ v, e = .returned (.tuple #[v, .int .i64 err]) ∧ EffAt w1.heap.size w' v lays aside tells ∧ Below w1.heap.size w1 w')) :
    Calls Tryd.prog 22 #[.pointer (some ⟨rb, 0, none⟩), .agg #[Value.string nm, Value.int .i64 t, Value.int .i64 a, Value.int .i64 g]] w fun r w' => r = .returned (.int .i64 err) ∧ Below w.heap.size w w' := by
  have i0 : IntKind.i64.wrap ((n : Int) - (t : Int)) = (n : Int) - (t : Int) := by rw [IntKind.wrap_i64]; omega
  have i1 : (0 : Int) ≤ (n : Int) - (t : Int) := by omega
  have i2 : (n : Int) - (t : Int) ≤ (n : Int) := by omega
  have j1 : (n : Int) ≤ capS := by omega
  have i9 : IntKind.i64.wrap ((m : Int) - (a : Int)) = (m : Int) - (a : Int) := by rw [IntKind.wrap_i64]; omega
  have i3 : (0 : Int) ≤ (m : Int) - (a : Int) := by omega
  have i4 : (m : Int) - (a : Int) ≤ (m : Int) := by omega
  have j2 : (m : Int) ≤ capR := by omega
  go_enter Tryd.func22, Tryd.ntmps22
  go_wp2
  go_region_held3 (fun w' => w'.cell? ⟨rb, 0, none⟩ = some (.pointer (some ⟨mb, 0, none⟩)) ∧ w'.cell? ⟨mb, 0, none⟩ = some (.slice none n capS) ∧ w'.cell? ⟨mb, 1, none⟩ = some (.slice none m capR)) (first | exact ⟨hr0 _, hm0 _, hm1 _⟩ | go_keep) (fail)
  go_wp2
  have hb1 : Below w.heap.size w (w.alloc (Obj.cells #[Value.string nm, Value.int .i64 t, Value.int .i64 a, Value.int .i64 g] 61)).drew := ((Below.refl _ _).alloc (Nat.le_refl _) _).drew
  have hz1 : w.heap.size < (w.alloc (Obj.cells #[Value.string nm, Value.int .i64 t, Value.int .i64 a, Value.int .i64 g] 61)).drew.heap.size := by simp
  have c0 : (w.alloc (Obj.cells #[Value.string nm, Value.int .i64 t, Value.int .i64 a, Value.int .i64 g] 61)).drew.cell? ⟨w.heap.size, 0, none⟩ = some (.string nm) := cell_of_block (heap_alloc_new w _) rfl
  have c1 : (w.alloc (Obj.cells #[Value.string nm, Value.int .i64 t, Value.int .i64 a, Value.int .i64 g] 61)).drew.cell? ⟨w.heap.size, 1, none⟩ = some (.int .i64 t) := cell_of_block (heap_alloc_new w _) rfl
  have c2 : (w.alloc (Obj.cells #[Value.string nm, Value.int .i64 t, Value.int .i64 a, Value.int .i64 g] 61)).drew.cell? ⟨w.heap.size, 2, none⟩ = some (.int .i64 a) := cell_of_block (heap_alloc_new w _) rfl
  have c3 : (w.alloc (Obj.cells #[Value.string nm, Value.int .i64 t, Value.int .i64 a, Value.int .i64 g] 61)).drew.cell? ⟨w.heap.size, 3, none⟩ = some (.int .i64 g) := cell_of_block (heap_alloc_new w _) rfl
  generalize (w.alloc (Obj.cells #[Value.string nm, Value.int .i64 t, Value.int .i64 a, Value.int .i64 g] 61)).drew = w1 at *
  clear hr0 hm0 hm1
  go_region_held3 (fun w' => w'.cell? ⟨w.heap.size, 0, none⟩ = some (.string nm) ∧ w'.cell? ⟨w.heap.size, 1, none⟩ = some (.int .i64 t) ∧ w'.cell? ⟨w.heap.size, 2, none⟩ = some (.int .i64 a) ∧ w'.cell? ⟨w.heap.size, 3, none⟩ = some (.int .i64 g)) (first | exact ⟨c0, c1, c2, c3⟩ | exact ⟨cell_alloc c0 _, cell_alloc c1 _, cell_alloc c2 _, cell_alloc c3 _⟩ | exact ⟨cell_set3 c0 (Nat.ne_of_lt hz1), cell_set3 c1 (Nat.ne_of_lt hz1), cell_set3 c2 (Nat.ne_of_lt hz1), cell_set3 c3 (Nat.ne_of_lt hz1)⟩ | go_keep)
    ((go_at_call 30; refine (unhide HP _ (by first | exact hb1.drew | exact hb1.drew.alloc (Nat.le_of_lt hz1) _)).mono ?_
      rintro e w2 ⟨v, rfl, hE, hb2⟩
      have hz2 := hb2.size
      have c0 := ((bcell hb2).1 w.heap.size 0 (by first | exact hz1 | (simp; omega))).trans (by first | exact c0 | exact cell_alloc c0 _)
      have c1 := ((bcell hb2).1 w.heap.size 1 (by first | exact hz1 | (simp; omega))).trans (by first | exact c1 | exact cell_alloc c1 _)
      have c2 := ((bcell hb2).1 w.heap.size 2 (by first | exact hz1 | (simp; omega))).trans (by first | exact c2 | exact cell_alloc c2 _)
      have c3 := ((bcell hb2).1 w.heap.size 3 (by first | exact hz1 | (simp; omega))).trans (by first | exact c3 | exact cell_alloc c3 _)
      obtain ⟨hc, hf⟩ := bcell hb2
      obtain ⟨vL, vA, rfl, sL, sA, oL, oA⟩ := hE
      obtain ⟨aL, cL, eL⟩ := sL.len
      obtain ⟨aA, cA, eA⟩ := sA.len
      subst eL eA))
  · simp only [List.length_map] at sL sA oL oA
    have hb3 : Below w.heap.size w (w2.alloc (Obj.cells #[Value.slice aL lays.length cL, Value.slice aA aside.length cA, Value.string ⟨tells.toArray⟩] 77)) := (hb1.drew.trans (hb2.mono (Nat.le_of_lt hz1))).alloc (Nat.le_trans (Nat.le_of_lt hz1) hz2) _
    have d1 := cell_alloc c1 (Obj.cells #[Value.slice aL lays.length cL, Value.slice aA aside.length cA, Value.string ⟨tells.toArray⟩] 77)
    have d2 := cell_alloc c2 (Obj.cells #[Value.slice aL lays.length cL, Value.slice aA aside.length cA, Value.string ⟨tells.toArray⟩] 77)
    have e0 : (w2.alloc (Obj.cells #[Value.slice aL lays.length cL, Value.slice aA aside.length cA, Value.string ⟨tells.toArray⟩] 77)).cell? ⟨w2.heap.size, 0, none⟩ = some (.slice aL lays.length cL) := cell_of_block (heap_alloc_new w2 _) rfl
    have e1 : (w2.alloc (Obj.cells #[Value.slice aL lays.length cL, Value.slice aA aside.length cA, Value.string ⟨tells.toArray⟩] 77)).cell? ⟨w2.heap.size, 1, none⟩ = some (.slice aA aside.length cA) := cell_of_block (heap_alloc_new w2 _) rfl
    have e2 : (w2.alloc (Obj.cells #[Value.slice aL lays.length cL, Value.slice aA aside.length cA, Value.string ⟨tells.toArray⟩] 77)).cell? ⟨w2.heap.size, 2, none⟩ = some (.string ⟨tells.toArray⟩) := cell_of_block (heap_alloc_new w2 _) rfl
    have ef : EffAt w.heap.size (w2.alloc (Obj.cells #[Value.slice aL lays.length cL, Value.slice aA aside.length cA, Value.string ⟨tells.toArray⟩] 77)) (.agg #[.slice aL lays.length cL, .slice aA aside.length cA, .string ⟨tells.toArray⟩]) lays aside tells := ⟨_, _, rfl, sL.alloc _, sA.alloc _, fun k e => Nat.le_trans (Nat.le_of_lt hz1) (oL k e), fun k e => Nat.le_trans (Nat.le_of_lt hz1) (oA k e)⟩
    have HB3 := hide hb3
    have EF := hide ef
    clear hb3 ef sL sA oL oA hc hf hb2 hz2 c0 c1 c2 c3
    generalize (w2.alloc (Obj.cells #[Value.slice aL lays.length cL, Value.slice aA aside.length cA, Value.string ⟨tells.toArray⟩] 77)) = w3 at *
    go_wp2
    go_ret
    exact ⟨rfl, unhide HB3⟩
  · simp only [List.length_map] at sL sA oL oA
    have hbk : w2.heap[w1.heap.size]? = some (Obj.cells #[Value.slice none 0 0, Value.slice none 0 0, Value.string ⟨#[]⟩] 77) := (hb2.block _ (by show w1.heap.size < (w1.alloc _).heap.size; simp)).trans (heap_alloc_new w1 _)
    have hb3 : Below w.heap.size w (((w2.setCell ⟨w1.heap.size, 0, none⟩ (Value.slice aL lays.length cL)).setCell ⟨w1.heap.size, 1, none⟩ (Value.slice aA aside.length cA)).setCell ⟨w1.heap.size, 2, none⟩ (Value.string ⟨tells.toArray⟩)) := (((((hb1.alloc (Nat.le_of_lt hz1) _).drew.trans (hb2.mono (by show w.heap.size ≤ (w1.alloc _).heap.size; simp; omega))).setCell (Nat.le_of_lt hz1) _).setCell (Nat.le_of_lt hz1) _).setCell (Nat.le_of_lt hz1) _)
    have d1 := cell_set3 (u0 := Value.slice aL lays.length cL) (u1 := Value.slice aA aside.length cA) (u2 := Value.string ⟨tells.toArray⟩) c1 (Nat.ne_of_lt hz1)
    have d2 := cell_set3 (u0 := Value.slice aL lays.length cL) (u1 := Value.slice aA aside.length cA) (u2 := Value.string ⟨tells.toArray⟩) c2 (Nat.ne_of_lt hz1)
    have hbk3 := set_block (set_block (set_block hbk 0 (Value.slice aL lays.length cL)) 1 (Value.slice aA aside.length cA)) 2 (Value.string ⟨tells.toArray⟩)
    have e0 : (((w2.setCell ⟨w1.heap.size, 0, none⟩ (Value.slice aL lays.length cL)).setCell ⟨w1.heap.size, 1, none⟩ (Value.slice aA aside.length cA)).setCell ⟨w1.heap.size, 2, none⟩ (Value.string ⟨tells.toArray⟩)).cell? ⟨w1.heap.size, 0, none⟩ = some (.slice aL lays.length cL) := cell_of_block hbk3 rfl
    have e1 : (((w2.setCell ⟨w1.heap.size, 0, none⟩ (Value.slice aL lays.length cL)).setCell ⟨w1.heap.size, 1, none⟩ (Value.slice aA aside.length cA)).setCell ⟨w1.heap.size, 2, none⟩ (Value.string ⟨tells.toArray⟩)).cell? ⟨w1.heap.size, 1, none⟩ = some (.slice aA aside.length cA) := cell_of_block hbk3 rfl
    have e2 : (((w2.setCell ⟨w1.heap.size, 0, none⟩ (Value.slice aL lays.length cL)).setCell ⟨w1.heap.size, 1, none⟩ (Value.slice aA aside.length cA)).setCell ⟨w1.heap.size, 2, none⟩ (Value.string ⟨tells.toArray⟩)).cell? ⟨w1.heap.size, 2, none⟩ = some (.string ⟨tells.toArray⟩) := cell_of_block hbk3 rfl
    have hlt : w1.heap.size < (w1.alloc (Obj.cells #[Value.slice none 0 0, Value.slice none 0 0, Value.string ⟨#[]⟩] 77)).drew.heap.size := by show w1.heap.size < (w1.alloc _).heap.size; simp
    have ef : EffAt w.heap.size (((w2.setCell ⟨w1.heap.size, 0, none⟩ (Value.slice aL lays.length cL)).setCell ⟨w1.heap.size, 1, none⟩ (Value.slice aA aside.length cA)).setCell ⟨w1.heap.size, 2, none⟩ (Value.string ⟨tells.toArray⟩)) (.agg #[.slice aL lays.length cL, .slice aA aside.length cA, .string ⟨tells.toArray⟩]) lays aside tells := ⟨_, _, rfl, ((sL.setCell oL hlt _).setCell oL hlt _).setCell oL hlt _, ((sA.setCell oA hlt _).setCell oA hlt _).setCell oA hlt _, fun k e => by have := oL k e; omega, fun k e => by have := oA k e; omega⟩
    have HB3 := hide hb3
    have EF := hide ef
    clear hb3 ef sL sA oL oA hc hf hb2 hz2 c0 c1 c2 c3 hbk hbk3 hlt
    generalize (((w2.setCell ⟨w1.heap.size, 0, none⟩ (Value.slice aL lays.length cL)).setCell ⟨w1.heap.size, 1, none⟩ (Value.slice aA aside.length cA)).setCell ⟨w1.heap.size, 2, none⟩ (Value.string ⟨tells.toArray⟩)) = w3 at *
    go_wp2
    go_ret
    exact ⟨rfl, unhide HB3⟩

set_option maxRecDepth 100000 in
set_option maxHeartbeats 1600000 in
theorem doPrim_err_ns (w : World) (mb rb n t capS m a capR gR : Nat) (nm : ByteArray) (g : Int) (lays aside : List Int) (tells : List UInt8) (err : Int) (he : (err != 0) = true) 
    (hr0 : ∀ o, (w.alloc o).cell? ⟨rb, 0, none⟩ = some (.pointer (some ⟨mb, 0, none⟩)))
    (hm0 : ∀ o, (w.alloc o).cell? ⟨mb, 0, none⟩ = some (.slice none n capS)) (hm1 : ∀ o, (w.alloc o).cell? ⟨mb, 1, none⟩ = some (.slice (some ⟨gR, 0, none⟩) m capR)) (hn : n ≤ 16) (ht : t ≤ n) (hcS : n ≤ capS) (xR : Option Addr) (hxR : (if capR = m - a then (some ⟨gR, 0, none⟩ : Option Addr) else some ⟨gR, m - a, none⟩) = xR) (hm : m ≤ 16) (ha : a ≤ m) (hcR : m ≤ capR)
    (HP : Hid (∀ w1, Below w.heap.size w w1 → Calls Tryd.prog 30 #[.agg #[Value.string nm, Value.int .i64 t, Value.int .i64 a, Value.int .i64 g], .slice none (n - (n - t)) (capS - (n - t)), .slice xR (m - (m - a)) (capR - (m - a)), (.int .i64 (n : Int))] w1 fun e w' => ∃ v, e = .returned (.tuple #[v, .int .i64 err]) ∧ EffAt w1.heap.size w' v lays aside tells ∧ Below w1.heap.size w1 w')) :
    Calls Tryd.prog 22 #[.pointer (some ⟨rb, 0, none⟩), .agg #[Value.string nm, Value.int .i64 t, Value.int .i64 a, Value.int .i64 g]] w fun r w' => r = .returned (.int .i64 err) ∧ Below w.heap.size w w' := by
  have i0 : IntKind.i64.wrap ((n : Int) - (t : Int)) = (n : Int) - (t : Int) := by rw [IntKind.wrap_i64]; omega
  have i1 : (0 : Int) ≤ (n : Int) - (t : Int) := by omega
  have i2 : (n : Int) - (t : Int) ≤ (n : Int) := by omega
  have j1 : (n : Int) ≤ capS := by omega
  have i9 : IntKind.i64.wrap ((m : Int) - (a : Int)) = (m : Int) - (a : Int) := by rw [IntKind.wrap_i64]; omega
  have i3 : (0 : Int) ≤ (m : Int) - (a : Int) := by omega
  have i4 : (m : Int) - (a : Int) ≤ (m : Int) := by omega
  have j2 : (m : Int) ≤ capR := by omega
  go_enter Tryd.func22, Tryd.ntmps22
  go_wp2
  go_region_held3 (fun w' => w'.cell? ⟨rb, 0, none⟩ = some (.pointer (some ⟨mb, 0, none⟩)) ∧ w'.cell? ⟨mb, 0, none⟩ = some (.slice none n capS) ∧ w'.cell? ⟨mb, 1, none⟩ = some (.slice (some ⟨gR, 0, none⟩) m capR)) (first | exact ⟨hr0 _, hm0 _, hm1 _⟩ | go_keep) (fail)
  go_wp2
  have hb1 : Below w.heap.size w (w.alloc (Obj.cells #[Value.string nm, Value.int .i64 t, Value.int .i64 a, Value.int .i64 g] 61)).drew := ((Below.refl _ _).alloc (Nat.le_refl _) _).drew
  have hz1 : w.heap.size < (w.alloc (Obj.cells #[Value.string nm, Value.int .i64 t, Value.int .i64 a, Value.int .i64 g] 61)).drew.heap.size := by simp
  have c0 : (w.alloc (Obj.cells #[Value.string nm, Value.int .i64 t, Value.int .i64 a, Value.int .i64 g] 61)).drew.cell? ⟨w.heap.size, 0, none⟩ = some (.string nm) := cell_of_block (heap_alloc_new w _) rfl
  have c1 : (w.alloc (Obj.cells #[Value.string nm, Value.int .i64 t, Value.int .i64 a, Value.int .i64 g] 61)).drew.cell? ⟨w.heap.size, 1, none⟩ = some (.int .i64 t) := cell_of_block (heap_alloc_new w _) rfl
  have c2 : (w.alloc (Obj.cells #[Value.string nm, Value.int .i64 t, Value.int .i64 a, Value.int .i64 g] 61)).drew.cell? ⟨w.heap.size, 2, none⟩ = some (.int .i64 a) := cell_of_block (heap_alloc_new w _) rfl
  have c3 : (w.alloc (Obj.cells #[Value.string nm, Value.int .i64 t, Value.int .i64 a, Value.int .i64 g] 61)).drew.cell? ⟨w.heap.size, 3, none⟩ = some (.int .i64 g) := cell_of_block (heap_alloc_new w _) rfl
  generalize (w.alloc (Obj.cells #[Value.string nm, Value.int .i64 t, Value.int .i64 a, Value.int .i64 g] 61)).drew = w1 at *
  clear hr0 hm0 hm1
  go_region_held3 (fun w' => w'.cell? ⟨w.heap.size, 0, none⟩ = some (.string nm) ∧ w'.cell? ⟨w.heap.size, 1, none⟩ = some (.int .i64 t) ∧ w'.cell? ⟨w.heap.size, 2, none⟩ = some (.int .i64 a) ∧ w'.cell? ⟨w.heap.size, 3, none⟩ = some (.int .i64 g)) (first | exact ⟨c0, c1, c2, c3⟩ | exact ⟨cell_alloc c0 _, cell_alloc c1 _, cell_alloc c2 _, cell_alloc c3 _⟩ | exact ⟨cell_set3 c0 (Nat.ne_of_lt hz1), cell_set3 c1 (Nat.ne_of_lt hz1), cell_set3 c2 (Nat.ne_of_lt hz1), cell_set3 c3 (Nat.ne_of_lt hz1)⟩ | go_keep)
    ((go_at_call 30; refine (unhide HP _ (by first | exact hb1.drew | exact hb1.drew.alloc (Nat.le_of_lt hz1) _)).mono ?_
      rintro e w2 ⟨v, rfl, hE, hb2⟩
      have hz2 := hb2.size
      have c0 := ((bcell hb2).1 w.heap.size 0 (by first | exact hz1 | (simp; omega))).trans (by first | exact c0 | exact cell_alloc c0 _)
      have c1 := ((bcell hb2).1 w.heap.size 1 (by first | exact hz1 | (simp; omega))).trans (by first | exact c1 | exact cell_alloc c1 _)
      have c2 := ((bcell hb2).1 w.heap.size 2 (by first | exact hz1 | (simp; omega))).trans (by first | exact c2 | exact cell_alloc c2 _)
      have c3 := ((bcell hb2).1 w.heap.size 3 (by first | exact hz1 | (simp; omega))).trans (by first | exact c3 | exact cell_alloc c3 _)
      obtain ⟨hc, hf⟩ := bcell hb2
      obtain ⟨vL, vA, rfl, sL, sA, oL, oA⟩ := hE
      obtain ⟨aL, cL, eL⟩ := sL.len
      obtain ⟨aA, cA, eA⟩ := sA.len
      subst eL eA))
  · simp only [List.length_map] at sL sA oL oA
    have hb3 : Below w.heap.size w (w2.alloc (Obj.cells #[Value.slice aL lays.length cL, Value.slice aA aside.length cA, Value.string ⟨tells.toArray⟩] 77)) := (hb1.drew.trans (hb2.mono (Nat.le_of_lt hz1))).alloc (Nat.le_trans (Nat.le_of_lt hz1) hz2) _
    have d1 := cell_alloc c1 (Obj.cells #[Value.slice aL lays.length cL, Value.slice aA aside.length cA, Value.string ⟨tells.toArray⟩] 77)
    have d2 := cell_alloc c2 (Obj.cells #[Value.slice aL lays.length cL, Value.slice aA aside.length cA, Value.string ⟨tells.toArray⟩] 77)
    have e0 : (w2.alloc (Obj.cells #[Value.slice aL lays.length cL, Value.slice aA aside.length cA, Value.string ⟨tells.toArray⟩] 77)).cell? ⟨w2.heap.size, 0, none⟩ = some (.slice aL lays.length cL) := cell_of_block (heap_alloc_new w2 _) rfl
    have e1 : (w2.alloc (Obj.cells #[Value.slice aL lays.length cL, Value.slice aA aside.length cA, Value.string ⟨tells.toArray⟩] 77)).cell? ⟨w2.heap.size, 1, none⟩ = some (.slice aA aside.length cA) := cell_of_block (heap_alloc_new w2 _) rfl
    have e2 : (w2.alloc (Obj.cells #[Value.slice aL lays.length cL, Value.slice aA aside.length cA, Value.string ⟨tells.toArray⟩] 77)).cell? ⟨w2.heap.size, 2, none⟩ = some (.string ⟨tells.toArray⟩) := cell_of_block (heap_alloc_new w2 _) rfl
    have ef : EffAt w.heap.size (w2.alloc (Obj.cells #[Value.slice aL lays.length cL, Value.slice aA aside.length cA, Value.string ⟨tells.toArray⟩] 77)) (.agg #[.slice aL lays.length cL, .slice aA aside.length cA, .string ⟨tells.toArray⟩]) lays aside tells := ⟨_, _, rfl, sL.alloc _, sA.alloc _, fun k e => Nat.le_trans (Nat.le_of_lt hz1) (oL k e), fun k e => Nat.le_trans (Nat.le_of_lt hz1) (oA k e)⟩
    have HB3 := hide hb3
    have EF := hide ef
    clear hb3 ef sL sA oL oA hc hf hb2 hz2 c0 c1 c2 c3
    generalize (w2.alloc (Obj.cells #[Value.slice aL lays.length cL, Value.slice aA aside.length cA, Value.string ⟨tells.toArray⟩] 77)) = w3 at *
    go_wp2
    go_ret
    exact ⟨rfl, unhide HB3⟩
  · simp only [List.length_map] at sL sA oL oA
    have hbk : w2.heap[w1.heap.size]? = some (Obj.cells #[Value.slice none 0 0, Value.slice none 0 0, Value.string ⟨#[]⟩] 77) := (hb2.block _ (by show w1.heap.size < (w1.alloc _).heap.size; simp)).trans (heap_alloc_new w1 _)
    have hb3 : Below w.heap.size w (((w2.setCell ⟨w1.heap.size, 0, none⟩ (Value.slice aL lays.length cL)).setCell ⟨w1.heap.size, 1, none⟩ (Value.slice aA aside.length cA)).setCell ⟨w1.heap.size, 2, none⟩ (Value.string ⟨tells.toArray⟩)) := (((((hb1.alloc (Nat.le_of_lt hz1) _).drew.trans (hb2.mono (by show w.heap.size ≤ (w1.alloc _).heap.size; simp; omega))).setCell (Nat.le_of_lt hz1) _).setCell (Nat.le_of_lt hz1) _).setCell (Nat.le_of_lt hz1) _)
    have d1 := cell_set3 (u0 := Value.slice aL lays.length cL) (u1 := Value.slice aA aside.length cA) (u2 := Value.string ⟨tells.toArray⟩) c1 (Nat.ne_of_lt hz1)
    have d2 := cell_set3 (u0 := Value.slice aL lays.length cL) (u1 := Value.slice aA aside.length cA) (u2 := Value.string ⟨tells.toArray⟩) c2 (Nat.ne_of_lt hz1)
    have hbk3 := set_block (set_block (set_block hbk 0 (Value.slice aL lays.length cL)) 1 (Value.slice aA aside.length cA)) 2 (Value.string ⟨tells.toArray⟩)
    have e0 : (((w2.setCell ⟨w1.heap.size, 0, none⟩ (Value.slice aL lays.length cL)).setCell ⟨w1.heap.size, 1, none⟩ (Value.slice aA aside.length cA)).setCell ⟨w1.heap.size, 2, none⟩ (Value.string ⟨tells.toArray⟩)).cell? ⟨w1.heap.size, 0, none⟩ = some (.slice aL lays.length cL) := cell_of_block hbk3 rfl
    have e1 : (((w2.setCell ⟨w1.heap.size, 0, none⟩ (Value.slice aL lays.length cL)).setCell ⟨w1.heap.size, 1, none⟩ (Value.slice aA aside.length cA)).setCell ⟨w1.heap.size, 2, none⟩ (Value.string ⟨tells.toArray⟩)).cell? ⟨w1.heap.size, 1, none⟩ = some (.slice aA aside.length cA) := cell_of_block hbk3 rfl
    have e2 : (((w2.setCell ⟨w1.heap.size, 0, none⟩ (Value.slice aL lays.length cL)).setCell ⟨w1.heap.size, 1, none⟩ (Value.slice aA aside.length cA)).setCell ⟨w1.heap.size, 2, none⟩ (Value.string ⟨tells.toArray⟩)).cell? ⟨w1.heap.size, 2, none⟩ = some (.string ⟨tells.toArray⟩) := cell_of_block hbk3 rfl
    have hlt : w1.heap.size < (w1.alloc (Obj.cells #[Value.slice none 0 0, Value.slice none 0 0, Value.string ⟨#[]⟩] 77)).drew.heap.size := by show w1.heap.size < (w1.alloc _).heap.size; simp
    have ef : EffAt w.heap.size (((w2.setCell ⟨w1.heap.size, 0, none⟩ (Value.slice aL lays.length cL)).setCell ⟨w1.heap.size, 1, none⟩ (Value.slice aA aside.length cA)).setCell ⟨w1.heap.size, 2, none⟩ (Value.string ⟨tells.toArray⟩)) (.agg #[.slice aL lays.length cL, .slice aA aside.length cA, .string ⟨tells.toArray⟩]) lays aside tells := ⟨_, _, rfl, ((sL.setCell oL hlt _).setCell oL hlt _).setCell oL hlt _, ((sA.setCell oA hlt _).setCell oA hlt _).setCell oA hlt _, fun k e => by have := oL k e; omega, fun k e => by have := oA k e; omega⟩
    have HB3 := hide hb3
    have EF := hide ef
    clear hb3 ef sL sA oL oA hc hf hb2 hz2 c0 c1 c2 c3 hbk hbk3 hlt
    generalize (((w2.setCell ⟨w1.heap.size, 0, none⟩ (Value.slice aL lays.length cL)).setCell ⟨w1.heap.size, 1, none⟩ (Value.slice aA aside.length cA)).setCell ⟨w1.heap.size, 2, none⟩ (Value.string ⟨tells.toArray⟩)) = w3 at *
    go_wp2
    go_ret
    exact ⟨rfl, unhide HB3⟩

end Go.Proofs.YthpcapohfjidoaaDoor
