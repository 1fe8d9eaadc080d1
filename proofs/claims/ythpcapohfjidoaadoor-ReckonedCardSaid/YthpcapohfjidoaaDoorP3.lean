/- What the function Find of package lexicon answers: a word of the language at each of their names, nothing at any other text. -/
import Derived.Test.YthpcapohfjidoaaDoorProg
import Derived.Test.YthpcapohfjidoaaDoorK0
import Derived.Test.YthpcapohfjidoaaDoorL3
import Derived.WalkKit
import Derived.WalkSpells
import Derived.WalkLawsBesides
namespace Go.Proofs.YthpcapohfjidoaaDoor
open Go.RowKit

set_option maxRecDepth 100000 in
set_option maxHeartbeats 400000 in
theorem find_0 (w : World) : Calls Tryd.prog 27 #[.string ⟨#[43]⟩] w fun e w' => e = .returned (.tuple #[primVal ⟨[43], 2, 0, 0⟩, .bool true]) ∧ Below w.heap.size w w' := by
  go_enter Tryd.func27, Tryd.ntmps27
  go_wp2
  exact bodyPost_ret (v := .tuple #[primVal ⟨[43], 2, 0, 0⟩, .bool true]) (by simp [results, Tryd.results27, go_sem, primVal]) rfl ⟨rfl, (Below.refl _ _).alloc (Nat.le_refl _) _⟩

set_option maxRecDepth 100000 in
set_option maxHeartbeats 400000 in
theorem find_1 (w : World) : Calls Tryd.prog 27 #[.string ⟨#[45]⟩] w fun e w' => e = .returned (.tuple #[primVal ⟨[45], 2, 0, 0⟩, .bool true]) ∧ Below w.heap.size w w' := by
  go_enter Tryd.func27, Tryd.ntmps27
  go_wp2
  exact bodyPost_ret (v := .tuple #[primVal ⟨[45], 2, 0, 0⟩, .bool true]) (by simp [results, Tryd.results27, go_sem, primVal]) rfl ⟨rfl, (Below.refl _ _).alloc (Nat.le_refl _) _⟩

set_option maxRecDepth 100000 in
set_option maxHeartbeats 400000 in
theorem find_2 (w : World) : Calls Tryd.prog 27 #[.string ⟨#[42]⟩] w fun e w' => e = .returned (.tuple #[primVal ⟨[42], 2, 0, 0⟩, .bool true]) ∧ Below w.heap.size w w' := by
  go_enter Tryd.func27, Tryd.ntmps27
  go_wp2
  exact bodyPost_ret (v := .tuple #[primVal ⟨[42], 2, 0, 0⟩, .bool true]) (by simp [results, Tryd.results27, go_sem, primVal]) rfl ⟨rfl, (Below.refl _ _).alloc (Nat.le_refl _) _⟩

set_option maxRecDepth 100000 in
set_option maxHeartbeats 400000 in
theorem find_3 (w : World) : Calls Tryd.prog 27 #[.string ⟨#[47]⟩] w fun e w' => e = .returned (.tuple #[primVal ⟨[47], 2, 0, 0⟩, .bool true]) ∧ Below w.heap.size w w' := by
  go_enter Tryd.func27, Tryd.ntmps27
  go_wp2
  exact bodyPost_ret (v := .tuple #[primVal ⟨[47], 2, 0, 0⟩, .bool true]) (by simp [results, Tryd.results27, go_sem, primVal]) rfl ⟨rfl, (Below.refl _ _).alloc (Nat.le_refl _) _⟩

set_option maxRecDepth 100000 in
set_option maxHeartbeats 400000 in
theorem find_4 (w : World) : Calls Tryd.prog 27 #[.string ⟨#[109, 111, 100]⟩] w fun e w' => e = .returned (.tuple #[primVal ⟨[109, 111, 100], 2, 0, 0⟩, .bool true]) ∧ Below w.heap.size w w' := by
  go_enter Tryd.func27, Tryd.ntmps27
  go_wp2
  exact bodyPost_ret (v := .tuple #[primVal ⟨[109, 111, 100], 2, 0, 0⟩, .bool true]) (by simp [results, Tryd.results27, go_sem, primVal]) rfl ⟨rfl, (Below.refl _ _).alloc (Nat.le_refl _) _⟩

set_option maxRecDepth 100000 in
set_option maxHeartbeats 400000 in
theorem find_5 (w : World) : Calls Tryd.prog 27 #[.string ⟨#[61]⟩] w fun e w' => e = .returned (.tuple #[primVal ⟨[61], 2, 0, 0⟩, .bool true]) ∧ Below w.heap.size w w' := by
  go_enter Tryd.func27, Tryd.ntmps27
  go_wp2
  exact bodyPost_ret (v := .tuple #[primVal ⟨[61], 2, 0, 0⟩, .bool true]) (by simp [results, Tryd.results27, go_sem, primVal]) rfl ⟨rfl, (Below.refl _ _).alloc (Nat.le_refl _) _⟩

set_option maxRecDepth 100000 in
set_option maxHeartbeats 400000 in
theorem find_6 (w : World) : Calls Tryd.prog 27 #[.string ⟨#[60]⟩] w fun e w' => e = .returned (.tuple #[primVal ⟨[60], 2, 0, 0⟩, .bool true]) ∧ Below w.heap.size w w' := by
  go_enter Tryd.func27, Tryd.ntmps27
  go_wp2
  exact bodyPost_ret (v := .tuple #[primVal ⟨[60], 2, 0, 0⟩, .bool true]) (by simp [results, Tryd.results27, go_sem, primVal]) rfl ⟨rfl, (Below.refl _ _).alloc (Nat.le_refl _) _⟩

set_option maxRecDepth 100000 in
set_option maxHeartbeats 400000 in
theorem find_7 (w : World) : Calls Tryd.prog 27 #[.string ⟨#[62]⟩] w fun e w' => e = .returned (.tuple #[primVal ⟨[62], 2, 0, 0⟩, .bool true]) ∧ Below w.heap.size w w' := by
  go_enter Tryd.func27, Tryd.ntmps27
  go_wp2
  exact bodyPost_ret (v := .tuple #[primVal ⟨[62], 2, 0, 0⟩, .bool true]) (by simp [results, Tryd.results27, go_sem, primVal]) rfl ⟨rfl, (Below.refl _ _).alloc (Nat.le_refl _) _⟩

set_option maxRecDepth 100000 in
set_option maxHeartbeats 400000 in
theorem find_8 (w : World) : Calls Tryd.prog 27 #[.string ⟨#[97, 110, 100]⟩] w fun e w' => e = .returned (.tuple #[primVal ⟨[97, 110, 100], 2, 0, 0⟩, .bool true]) ∧ Below w.heap.size w w' := by
  go_enter Tryd.func27, Tryd.ntmps27
  go_wp2
  exact bodyPost_ret (v := .tuple #[primVal ⟨[97, 110, 100], 2, 0, 0⟩, .bool true]) (by simp [results, Tryd.results27, go_sem, primVal]) rfl ⟨rfl, (Below.refl _ _).alloc (Nat.le_refl _) _⟩

set_option maxRecDepth 100000 in
set_option maxHeartbeats 400000 in
theorem find_9 (w : World) : Calls Tryd.prog 27 #[.string ⟨#[111, 114]⟩] w fun e w' => e = .returned (.tuple #[primVal ⟨[111, 114], 2, 0, 0⟩, .bool true]) ∧ Below w.heap.size w w' := by
  go_enter Tryd.func27, Tryd.ntmps27
  go_wp2
  exact bodyPost_ret (v := .tuple #[primVal ⟨[111, 114], 2, 0, 0⟩, .bool true]) (by simp [results, Tryd.results27, go_sem, primVal]) rfl ⟨rfl, (Below.refl _ _).alloc (Nat.le_refl _) _⟩

set_option maxRecDepth 100000 in
set_option maxHeartbeats 400000 in
theorem find_10 (w : World) : Calls Tryd.prog 27 #[.string ⟨#[120, 111, 114]⟩] w fun e w' => e = .returned (.tuple #[primVal ⟨[120, 111, 114], 2, 0, 0⟩, .bool true]) ∧ Below w.heap.size w w' := by
  go_enter Tryd.func27, Tryd.ntmps27
  go_wp2
  exact bodyPost_ret (v := .tuple #[primVal ⟨[120, 111, 114], 2, 0, 0⟩, .bool true]) (by simp [results, Tryd.results27, go_sem, primVal]) rfl ⟨rfl, (Below.refl _ _).alloc (Nat.le_refl _) _⟩

set_option maxRecDepth 100000 in
set_option maxHeartbeats 400000 in
theorem find_11 (w : World) : Calls Tryd.prog 27 #[.string ⟨#[110, 111, 116]⟩] w fun e w' => e = .returned (.tuple #[primVal ⟨[110, 111, 116], 1, 0, 0⟩, .bool true]) ∧ Below w.heap.size w w' := by
  go_enter Tryd.func27, Tryd.ntmps27
  go_wp2
  exact bodyPost_ret (v := .tuple #[primVal ⟨[110, 111, 116], 1, 0, 0⟩, .bool true]) (by simp [results, Tryd.results27, go_sem, primVal]) rfl ⟨rfl, (Below.refl _ _).alloc (Nat.le_refl _) _⟩

set_option maxRecDepth 100000 in
set_option maxHeartbeats 400000 in
theorem find_12 (w : World) : Calls Tryd.prog 27 #[.string ⟨#[100, 117, 112]⟩] w fun e w' => e = .returned (.tuple #[primVal ⟨[100, 117, 112], 1, 0, 1⟩, .bool true]) ∧ Below w.heap.size w w' := by
  go_enter Tryd.func27, Tryd.ntmps27
  go_wp2
  exact bodyPost_ret (v := .tuple #[primVal ⟨[100, 117, 112], 1, 0, 1⟩, .bool true]) (by simp [results, Tryd.results27, go_sem, primVal]) rfl ⟨rfl, (Below.refl _ _).alloc (Nat.le_refl _) _⟩

set_option maxRecDepth 100000 in
set_option maxHeartbeats 400000 in
theorem find_13 (w : World) : Calls Tryd.prog 27 #[.string ⟨#[100, 114, 111, 112]⟩] w fun e w' => e = .returned (.tuple #[primVal ⟨[100, 114, 111, 112], 1, 0, 1⟩, .bool true]) ∧ Below w.heap.size w w' := by
  go_enter Tryd.func27, Tryd.ntmps27
  go_wp2
  exact bodyPost_ret (v := .tuple #[primVal ⟨[100, 114, 111, 112], 1, 0, 1⟩, .bool true]) (by simp [results, Tryd.results27, go_sem, primVal]) rfl ⟨rfl, (Below.refl _ _).alloc (Nat.le_refl _) _⟩

set_option maxRecDepth 100000 in
set_option maxHeartbeats 400000 in
theorem find_14 (w : World) : Calls Tryd.prog 27 #[.string ⟨#[62, 114]⟩] w fun e w' => e = .returned (.tuple #[primVal ⟨[62, 114], 1, 0, 1⟩, .bool true]) ∧ Below w.heap.size w w' := by
  go_enter Tryd.func27, Tryd.ntmps27
  go_wp2
  exact bodyPost_ret (v := .tuple #[primVal ⟨[62, 114], 1, 0, 1⟩, .bool true]) (by simp [results, Tryd.results27, go_sem, primVal]) rfl ⟨rfl, (Below.refl _ _).alloc (Nat.le_refl _) _⟩

set_option maxRecDepth 100000 in
set_option maxHeartbeats 400000 in
theorem find_15 (w : World) : Calls Tryd.prog 27 #[.string ⟨#[115, 119, 97, 112]⟩] w fun e w' => e = .returned (.tuple #[primVal ⟨[115, 119, 97, 112], 2, 0, 1⟩, .bool true]) ∧ Below w.heap.size w w' := by
  go_enter Tryd.func27, Tryd.ntmps27
  go_wp2
  exact bodyPost_ret (v := .tuple #[primVal ⟨[115, 119, 97, 112], 2, 0, 1⟩, .bool true]) (by simp [results, Tryd.results27, go_sem, primVal]) rfl ⟨rfl, (Below.refl _ _).alloc (Nat.le_refl _) _⟩

set_option maxRecDepth 100000 in
set_option maxHeartbeats 400000 in
theorem find_16 (w : World) : Calls Tryd.prog 27 #[.string ⟨#[111, 118, 101, 114]⟩] w fun e w' => e = .returned (.tuple #[primVal ⟨[111, 118, 101, 114], 2, 0, 1⟩, .bool true]) ∧ Below w.heap.size w w' := by
  go_enter Tryd.func27, Tryd.ntmps27
  go_wp2
  exact bodyPost_ret (v := .tuple #[primVal ⟨[111, 118, 101, 114], 2, 0, 1⟩, .bool true]) (by simp [results, Tryd.results27, go_sem, primVal]) rfl ⟨rfl, (Below.refl _ _).alloc (Nat.le_refl _) _⟩

set_option maxRecDepth 100000 in
set_option maxHeartbeats 400000 in
theorem find_17 (w : World) : Calls Tryd.prog 27 #[.string ⟨#[114, 111, 116]⟩] w fun e w' => e = .returned (.tuple #[primVal ⟨[114, 111, 116], 3, 0, 1⟩, .bool true]) ∧ Below w.heap.size w w' := by
  go_enter Tryd.func27, Tryd.ntmps27
  go_wp2
  exact bodyPost_ret (v := .tuple #[primVal ⟨[114, 111, 116], 3, 0, 1⟩, .bool true]) (by simp [results, Tryd.results27, go_sem, primVal]) rfl ⟨rfl, (Below.refl _ _).alloc (Nat.le_refl _) _⟩

set_option maxRecDepth 100000 in
set_option maxHeartbeats 400000 in
theorem find_18 (w : World) : Calls Tryd.prog 27 #[.string ⟨#[114, 62]⟩] w fun e w' => e = .returned (.tuple #[primVal ⟨[114, 62], 0, 1, 1⟩, .bool true]) ∧ Below w.heap.size w w' := by
  go_enter Tryd.func27, Tryd.ntmps27
  go_wp2
  exact bodyPost_ret (v := .tuple #[primVal ⟨[114, 62], 0, 1, 1⟩, .bool true]) (by simp [results, Tryd.results27, go_sem, primVal]) rfl ⟨rfl, (Below.refl _ _).alloc (Nat.le_refl _) _⟩

set_option maxRecDepth 100000 in
set_option maxHeartbeats 400000 in
theorem find_19 (w : World) : Calls Tryd.prog 27 #[.string ⟨#[114, 64]⟩] w fun e w' => e = .returned (.tuple #[primVal ⟨[114, 64], 0, 1, 1⟩, .bool true]) ∧ Below w.heap.size w w' := by
  go_enter Tryd.func27, Tryd.ntmps27
  go_wp2
  exact bodyPost_ret (v := .tuple #[primVal ⟨[114, 64], 0, 1, 1⟩, .bool true]) (by simp [results, Tryd.results27, go_sem, primVal]) rfl ⟨rfl, (Below.refl _ _).alloc (Nat.le_refl _) _⟩

set_option maxRecDepth 100000 in
set_option maxHeartbeats 400000 in
theorem find_20 (w : World) : Calls Tryd.prog 27 #[.string ⟨#[100, 101, 112, 116, 104]⟩] w fun e w' => e = .returned (.tuple #[primVal ⟨[100, 101, 112, 116, 104], 0, 0, 1⟩, .bool true]) ∧ Below w.heap.size w w' := by
  go_enter Tryd.func27, Tryd.ntmps27
  go_wp2
  exact bodyPost_ret (v := .tuple #[primVal ⟨[100, 101, 112, 116, 104], 0, 0, 1⟩, .bool true]) (by simp [results, Tryd.results27, go_sem, primVal]) rfl ⟨rfl, (Below.refl _ _).alloc (Nat.le_refl _) _⟩

set_option maxRecDepth 100000 in
set_option maxHeartbeats 400000 in
theorem find_21 (w : World) : Calls Tryd.prog 27 #[.string ⟨#[46]⟩] w fun e w' => e = .returned (.tuple #[primVal ⟨[46], 1, 0, 2⟩, .bool true]) ∧ Below w.heap.size w w' := by
  go_enter Tryd.func27, Tryd.ntmps27
  go_wp2
  exact bodyPost_ret (v := .tuple #[primVal ⟨[46], 1, 0, 2⟩, .bool true]) (by simp [results, Tryd.results27, go_sem, primVal]) rfl ⟨rfl, (Below.refl _ _).alloc (Nat.le_refl _) _⟩

set_option maxRecDepth 100000 in
set_option maxHeartbeats 400000 in
theorem find_22 (w : World) : Calls Tryd.prog 27 #[.string ⟨#[101, 109, 105, 116]⟩] w fun e w' => e = .returned (.tuple #[primVal ⟨[101, 109, 105, 116], 1, 0, 2⟩, .bool true]) ∧ Below w.heap.size w w' := by
  go_enter Tryd.func27, Tryd.ntmps27
  go_wp2
  exact bodyPost_ret (v := .tuple #[primVal ⟨[101, 109, 105, 116], 1, 0, 2⟩, .bool true]) (by simp [results, Tryd.results27, go_sem, primVal]) rfl ⟨rfl, (Below.refl _ _).alloc (Nat.le_refl _) _⟩

set_option maxRecDepth 100000 in
set_option maxHeartbeats 400000 in
theorem find_23 (w : World) : Calls Tryd.prog 27 #[.string ⟨#[99, 114]⟩] w fun e w' => e = .returned (.tuple #[primVal ⟨[99, 114], 0, 0, 2⟩, .bool true]) ∧ Below w.heap.size w w' := by
  go_enter Tryd.func27, Tryd.ntmps27
  go_wp2
  exact bodyPost_ret (v := .tuple #[primVal ⟨[99, 114], 0, 0, 2⟩, .bool true]) (by simp [results, Tryd.results27, go_sem, primVal]) rfl ⟨rfl, (Below.refl _ _).alloc (Nat.le_refl _) _⟩


theorem find_hit (p : L.Prim) (hp : p ∈ L.primTab) (w : World) :
    Calls Tryd.prog 27 #[.string ⟨p.name.toArray⟩] w fun e w' => e = .returned (.tuple #[primVal p, .bool true]) ∧ Below w.heap.size w w' := by
  simp only [L.primTab, List.mem_cons, List.not_mem_nil, or_false] at hp
  rcases hp with rfl | rfl | rfl | rfl | rfl | rfl | rfl | rfl | rfl | rfl | rfl | rfl | rfl | rfl | rfl | rfl | rfl | rfl | rfl | rfl | rfl | rfl | rfl | rfl
  · exact find_0 w
  · exact find_1 w
  · exact find_2 w
  · exact find_3 w
  · exact find_4 w
  · exact find_5 w
  · exact find_6 w
  · exact find_7 w
  · exact find_8 w
  · exact find_9 w
  · exact find_10 w
  · exact find_11 w
  · exact find_12 w
  · exact find_13 w
  · exact find_14 w
  · exact find_15 w
  · exact find_16 w
  · exact find_17 w
  · exact find_18 w
  · exact find_19 w
  · exact find_20 w
  · exact find_21 w
  · exact find_22 w
  · exact find_23 w


set_option maxRecDepth 100000 in
set_option maxHeartbeats 400000 in
theorem find_miss (s : ByteArray) (w : World) (h : L.find s.toList = none) :
    Calls Tryd.prog 27 #[.string s] w fun e w' => e = .returned (.tuple #[.agg #[.string ⟨#[]⟩, .int .i64 0, .int .i64 0, .int .i64 0], .bool false]) ∧ Below w.heap.size w w' := by
  simp only [L.find, L.primTab, List.find?_eq_none, List.mem_cons, List.not_mem_nil, or_false, forall_eq_or_imp, forall_eq, Bool.not_eq_true] at h
  obtain ⟨h0, h1, h2, h3, h4, h5, h6, h7, h8, h9, h10, h11, h12, h13, h14, h15, h16, h17, h18, h19, h20, h21, h22, h23⟩ := h
  go_enter Tryd.func27, Tryd.ntmps27
  go_wp2
  exact bodyPost_ret (v := .tuple #[.agg #[.string ⟨#[]⟩, .int .i64 0, .int .i64 0, .int .i64 0], .bool false]) (by simp [results, Tryd.results27, go_sem]) rfl ⟨rfl, (Below.refl _ _).alloc (Nat.le_refl _) _⟩
end Go.Proofs.YthpcapohfjidoaaDoor
