/- What the functions move and tell of package lexicon answer, at each of their names. -/
import Derived.Test.YthpcapohfjidoaaDoorProg
import Derived.Test.YthpcapohfjidoaaDoorK0
import Derived.Test.YthpcapohfjidoaaDoorL3
import Derived.Test.YthpcapohfjidoaaDoorM0
import Derived.Test.YthpcapohfjidoaaDoorShelf
import Derived.WalkKit
import Derived.WalkSpells
import Derived.WalkLawsBesides
import Derived.Deep.QuietTactic
import Derived.Deep.RegionHeld3
import Derived.Deep.DrawnRows
import Derived.BigQuiet
import Derived.Lib.AppendIntMem
namespace Go.Proofs.YthpcapohfjidoaaDoor
open Go.RowKit

set_option maxRecDepth 100000 in
theorem move_dup (b o c : Nat) (d : Int) (V : Value) (x : Int) (w : World) (h0 : w.cell? ⟨b, o, none⟩ = some (.int .i64 x)) :
    Calls Tryd.prog 39 #[.string ⟨#[100, 117, 112]⟩, .slice (some ⟨b, o, none⟩) 1 c, V, .int .i64 d] w fun e w' => ∃ v, e = .returned v ∧ EffAt w.heap.size w' v [x, x] [] [] ∧ Below w.heap.size w w' := by
  have hn0 := World.new_ne w _ h0
  go_enter Tryd.func39, Tryd.ntmps39
  go_wp2
  go_region_held3 (fun w' => w'.cell? ⟨b, o, none⟩ = some (.int .i64 x)) (go_keep) (fail)
  all_goals go_wp2
  exact bodyPost_ret (v := .agg #[.slice (some ⟨w.heap.size + 1, 0, none⟩) 2 2, .slice none 0 0, .string ⟨#[]⟩]) (by simp [results, Tryd.results39, go_sem]) rfl ⟨_, rfl, ⟨_, _, rfl, (src_of _ 3 rfl (heap_two w _ _)), (Src.nil _), (own_at (by omega)), own_none⟩, (by repeat (first | exact Below.refl _ _ | refine Below.drew ?_ | refine Below.alloc ?_ (by first | (simp; done) | (simp; omega)) _))⟩

set_option maxRecDepth 100000 in
theorem move_drop (b o c : Nat) (d : Int) (V : Value) (x : Int) (w : World) (h0 : w.cell? ⟨b, o, none⟩ = some (.int .i64 x)) :
    Calls Tryd.prog 39 #[.string ⟨#[100, 114, 111, 112]⟩, .slice (some ⟨b, o, none⟩) 1 c, V, .int .i64 d] w fun e w' => ∃ v, e = .returned v ∧ EffAt w.heap.size w' v [] [] [] ∧ Below w.heap.size w w' := by
  have hn0 := World.new_ne w _ h0
  go_enter Tryd.func39, Tryd.ntmps39
  go_wp2
  exact bodyPost_ret (v := .agg #[.slice none 0 0, .slice none 0 0, .string ⟨#[]⟩]) (by simp [results, Tryd.results39, go_sem]) rfl ⟨_, rfl, ⟨_, _, rfl, (Src.nil _), (Src.nil _), own_none, own_none⟩, (by repeat (first | exact Below.refl _ _ | refine Below.drew ?_ | refine Below.alloc ?_ (by first | (simp; done) | (simp; omega)) _))⟩

set_option maxRecDepth 100000 in
theorem move_swap (b o c : Nat) (d : Int) (V : Value) (x y : Int) (w : World) (h0 : w.cell? ⟨b, o, none⟩ = some (.int .i64 x)) (h1 : w.cell? ⟨b, o + 1, none⟩ = some (.int .i64 y)) :
    Calls Tryd.prog 39 #[.string ⟨#[115, 119, 97, 112]⟩, .slice (some ⟨b, o, none⟩) 2 c, V, .int .i64 d] w fun e w' => ∃ v, e = .returned v ∧ EffAt w.heap.size w' v [y, x] [] [] ∧ Below w.heap.size w w' := by
  have hn0 := World.new_ne w _ h0
  have hn1 := World.new_ne w _ h1
  go_enter Tryd.func39, Tryd.ntmps39
  go_wp2
  go_region_held3 (fun w' => w'.cell? ⟨b, o, none⟩ = some (.int .i64 x) ∧ w'.cell? ⟨b, o + 1, none⟩ = some (.int .i64 y)) (go_keep) (fail)
  all_goals go_wp2
  exact bodyPost_ret (v := .agg #[.slice (some ⟨w.heap.size + 1, 0, none⟩) 2 2, .slice none 0 0, .string ⟨#[]⟩]) (by simp [results, Tryd.results39, go_sem]) rfl ⟨_, rfl, ⟨_, _, rfl, (src_of _ 3 rfl (heap_two w _ _)), (Src.nil _), (own_at (by omega)), own_none⟩, (by repeat (first | exact Below.refl _ _ | refine Below.drew ?_ | refine Below.alloc ?_ (by first | (simp; done) | (simp; omega)) _))⟩

set_option maxRecDepth 100000 in
theorem move_over (b o c : Nat) (d : Int) (V : Value) (x y : Int) (w : World) (h0 : w.cell? ⟨b, o, none⟩ = some (.int .i64 x)) (h1 : w.cell? ⟨b, o + 1, none⟩ = some (.int .i64 y)) :
    Calls Tryd.prog 39 #[.string ⟨#[111, 118, 101, 114]⟩, .slice (some ⟨b, o, none⟩) 2 c, V, .int .i64 d] w fun e w' => ∃ v, e = .returned v ∧ EffAt w.heap.size w' v [x, y, x] [] [] ∧ Below w.heap.size w w' := by
  have hn0 := World.new_ne w _ h0
  have hn1 := World.new_ne w _ h1
  go_enter Tryd.func39, Tryd.ntmps39
  go_wp2
  go_region_held3 (fun w' => w'.cell? ⟨b, o, none⟩ = some (.int .i64 x) ∧ w'.cell? ⟨b, o + 1, none⟩ = some (.int .i64 y)) (go_keep) (fail)
  all_goals go_wp2
  exact bodyPost_ret (v := .agg #[.slice (some ⟨w.heap.size + 1, 0, none⟩) 3 3, .slice none 0 0, .string ⟨#[]⟩]) (by simp [results, Tryd.results39, go_sem]) rfl ⟨_, rfl, ⟨_, _, rfl, (src_of _ 3 rfl (heap_two w _ _)), (Src.nil _), (own_at (by omega)), own_none⟩, (by repeat (first | exact Below.refl _ _ | refine Below.drew ?_ | refine Below.alloc ?_ (by first | (simp; done) | (simp; omega)) _))⟩

set_option maxRecDepth 100000 in
theorem move_rot (b o c : Nat) (d : Int) (V : Value) (x y z : Int) (w : World) (h0 : w.cell? ⟨b, o, none⟩ = some (.int .i64 x)) (h1 : w.cell? ⟨b, o + 1, none⟩ = some (.int .i64 y)) (h2 : w.cell? ⟨b, o + 2, none⟩ = some (.int .i64 z)) :
    Calls Tryd.prog 39 #[.string ⟨#[114, 111, 116]⟩, .slice (some ⟨b, o, none⟩) 3 c, V, .int .i64 d] w fun e w' => ∃ v, e = .returned v ∧ EffAt w.heap.size w' v [y, z, x] [] [] ∧ Below w.heap.size w w' := by
  have hn0 := World.new_ne w _ h0
  have hn1 := World.new_ne w _ h1
  have hn2 := World.new_ne w _ h2
  go_enter Tryd.func39, Tryd.ntmps39
  go_wp2
  go_region_held3 (fun w' => w'.cell? ⟨b, o, none⟩ = some (.int .i64 x) ∧ w'.cell? ⟨b, o + 1, none⟩ = some (.int .i64 y) ∧ w'.cell? ⟨b, o + 2, none⟩ = some (.int .i64 z)) (go_keep) (fail)
  all_goals go_wp2
  exact bodyPost_ret (v := .agg #[.slice (some ⟨w.heap.size + 1, 0, none⟩) 3 3, .slice none 0 0, .string ⟨#[]⟩]) (by simp [results, Tryd.results39, go_sem]) rfl ⟨_, rfl, ⟨_, _, rfl, (src_of _ 3 rfl (heap_two w _ _)), (Src.nil _), (own_at (by omega)), own_none⟩, (by repeat (first | exact Below.refl _ _ | refine Below.drew ?_ | refine Below.alloc ?_ (by first | (simp; done) | (simp; omega)) _))⟩

set_option maxRecDepth 100000 in
theorem move_to (b o c : Nat) (d : Int) (V : Value) (x : Int) (w : World) (h0 : w.cell? ⟨b, o, none⟩ = some (.int .i64 x)) :
    Calls Tryd.prog 39 #[.string ⟨#[62, 114]⟩, .slice (some ⟨b, o, none⟩) 1 c, V, .int .i64 d] w fun e w' => ∃ v, e = .returned v ∧ EffAt w.heap.size w' v [] [x] [] ∧ Below w.heap.size w w' := by
  have hn0 := World.new_ne w _ h0
  have ha := cell_alloc h0
  go_enter Tryd.func39, Tryd.ntmps39
  go_wp2
  exact bodyPost_ret (v := .agg #[.slice none 0 0, .slice (some ⟨w.heap.size + 1, 0, none⟩) 1 1, .string ⟨#[]⟩]) (by simp [results, Tryd.results39, go_sem]) rfl ⟨_, rfl, ⟨_, _, rfl, (Src.nil _), (src_of _ 3 rfl (heap_two w _ _)), own_none, (own_at (by omega))⟩, (by repeat (first | exact Below.refl _ _ | refine Below.drew ?_ | refine Below.alloc ?_ (by first | (simp; done) | (simp; omega)) _))⟩

set_option maxRecDepth 100000 in
theorem move_from (b o c : Nat) (d : Int) (V : Value) (x : Int) (w : World) (h0 : w.cell? ⟨b, o, none⟩ = some (.int .i64 x)) :
    Calls Tryd.prog 39 #[.string ⟨#[114, 62]⟩, V, .slice (some ⟨b, o, none⟩) 1 c, .int .i64 d] w fun e w' => ∃ v, e = .returned v ∧ EffAt w.heap.size w' v [x] [] [] ∧ Below w.heap.size w w' := by
  have hn0 := World.new_ne w _ h0
  have ha := cell_alloc h0
  go_enter Tryd.func39, Tryd.ntmps39
  go_wp2
  exact bodyPost_ret (v := .agg #[.slice (some ⟨w.heap.size + 1, 0, none⟩) 1 1, .slice none 0 0, .string ⟨#[]⟩]) (by simp [results, Tryd.results39, go_sem]) rfl ⟨_, rfl, ⟨_, _, rfl, (src_of _ 3 rfl (heap_two w _ _)), (Src.nil _), (own_at (by omega)), own_none⟩, (by repeat (first | exact Below.refl _ _ | refine Below.drew ?_ | refine Below.alloc ?_ (by first | (simp; done) | (simp; omega)) _))⟩

set_option maxRecDepth 100000 in
theorem move_peek (b o c : Nat) (d : Int) (V : Value) (x : Int) (w : World) (h0 : w.cell? ⟨b, o, none⟩ = some (.int .i64 x)) :
    Calls Tryd.prog 39 #[.string ⟨#[114, 64]⟩, V, .slice (some ⟨b, o, none⟩) 1 c, .int .i64 d] w fun e w' => ∃ v, e = .returned v ∧ EffAt w.heap.size w' v [x] [x] [] ∧ Below w.heap.size w w' := by
  have hn0 := World.new_ne w _ h0
  have hn1 : w.heap.size + 1 ≠ b := by have := block_lt h0; omega
  have hn2 : w.heap.size + 1 + 1 ≠ b := by have := block_lt h0; omega
  go_enter Tryd.func39, Tryd.ntmps39
  go_wp2
  go_region_held3 (fun w' => w'.cell? ⟨b, o, none⟩ = some (.int .i64 x)) (first | exact cell_alloc (cell_alloc (cell_alloc h0 _) _) _ | exact cell_alloc (cell_alloc h0 _) _ | exact cell_alloc h0 _ | exact h0 | go_keep) (fail)
  all_goals go_wp2
  · exact bodyPost_ret (v := .agg #[.slice (some ⟨w.heap.size + 1, 0, none⟩) 1 1, .slice (some ⟨w.heap.size + 1 + 1, 0, none⟩) 1 1, .string ⟨#[]⟩]) (by simp [results, Tryd.results39, go_sem]) rfl ⟨_, rfl, ⟨_, _, rfl, (src_of _ 3 rfl (heap_three_mid w _ _ _)), (src_of _ 3 rfl (heap_three w _ _ _)), (own_at (by omega)), (own_at (by omega))⟩, (by repeat (first | exact Below.refl _ _ | refine Below.drew ?_ | refine Below.alloc ?_ (by first | (simp; done) | (simp; omega)) _))⟩
  · exact bodyPost_ret (v := .agg #[.slice (some ⟨w.heap.size + 1 + 1, 0, none⟩) 1 1, .slice (some ⟨w.heap.size + 1, 0, none⟩) 1 1, .string ⟨#[]⟩]) (by simp [results, Tryd.results39, go_sem]) rfl ⟨_, rfl, ⟨_, _, rfl, (src_of _ 3 rfl (heap_three w _ _ _)), (src_of _ 3 rfl (heap_three_mid w _ _ _)), (own_at (by omega)), (own_at (by omega))⟩, (by repeat (first | exact Below.refl _ _ | refine Below.drew ?_ | refine Below.alloc ?_ (by first | (simp; done) | (simp; omega)) _))⟩

set_option maxRecDepth 100000 in
theorem move_depth (d : Int) (V U : Value)  (w : World)  :
    Calls Tryd.prog 39 #[.string ⟨#[100, 101, 112, 116, 104]⟩, V, U, .int .i64 d] w fun e w' => ∃ v, e = .returned v ∧ EffAt w.heap.size w' v [d] [] [] ∧ Below w.heap.size w w' := by
  go_enter Tryd.func39, Tryd.ntmps39
  go_wp2
  exact bodyPost_ret (v := .agg #[.slice (some ⟨w.heap.size + 1, 0, none⟩) 1 1, .slice none 0 0, .string ⟨#[]⟩]) (by simp [results, Tryd.results39, go_sem]) rfl ⟨_, rfl, ⟨_, _, rfl, (src_of _ 3 rfl (heap_two w _ _)), (Src.nil _), (own_at (by omega)), own_none⟩, (by repeat (first | exact Below.refl _ _ | refine Below.drew ?_ | refine Below.alloc ?_ (by first | (simp; done) | (simp; omega)) _))⟩


theorem itoa_len (x : Int) (h0 : -9223372036854775808 ≤ x) (h1 : x ≤ 9223372036854775807) : (Lib.itoa x).length ≤ 20 := by
  unfold Lib.itoa
  split
  · have := dec_len x.natAbs (by omega)
    simp; omega
  · have := dec_len x.toNat (by omega)
    omega

theorem ret_si {s s' : ByteArray} {a a' : Int} (h : s = s') (h2 : a = a') : Ending.returned (.tuple #[.string s, .int .i64 a]) = .returned (.tuple #[.string s', .int .i64 a']) := by rw [h, h2]

theorem snoc_bytes (l : List UInt8) (c : UInt8) : ((⟨l.toArray⟩ : ByteArray) ++ (⟨#[c]⟩ : ByteArray)) = ⟨(l ++ [c]).toArray⟩ := by
  apply ByteArray.ext
  simp

set_option maxRecDepth 100000 in
theorem tell_dot (b o c : Nat) (x : Int) (w : World) (hx0 : -9223372036854775808 ≤ x) (hx1 : x ≤ 9223372036854775807) (h0 : w.cell? ⟨b, o, none⟩ = some (.int .i64 x)) (htab : Lib.TabIs Tryd.prog w "internal/strconv.uint64pow10" .u64 Lib.pow10Tab) :
    Calls Tryd.prog 40 #[.string ⟨#[46]⟩, .slice (some ⟨b, o, none⟩) 1 c] w fun e w' => e = .returned (.tuple #[.string ⟨(Lib.itoa x ++ [32]).toArray⟩, .int .i64 0]) ∧ Below w.heap.size w w' := by
  have Htab := hide htab
  clear htab
  go_enter Tryd.func40, Tryd.ntmps40
  go_wp2_with fail
  refine (Tryd.strconv_Itoa x hx0 hx1 _ (unhide Htab)).mono ?_
  rintro e w' ⟨rfl, k, os, hw⟩
  have hb : Below w.heap.size w w' := by rw [hw]; exact Lib.below_grow _ _ (Nat.le_refl _) _ _
  clear hw
  have hlen : (⟨(Lib.itoa x).toArray⟩ : ByteArray).size ≤ 20 := by
    have := itoa_len x hx0 hx1
    simpa [ByteArray.size] using this
  generalize hs : (⟨(Lib.itoa x).toArray⟩ : ByteArray) = s at *
  have Hs := hide hs
  clear hs
  go_wp2
  go_ret2
  exact ⟨ret_si (by rw [← unhide Hs, snoc_bytes]) rfl, hb⟩

set_option maxRecDepth 100000 in
theorem tell_cr (V : Value) (w : World) :
    Calls Tryd.prog 40 #[.string ⟨#[99, 114]⟩, V] w fun e w' => e = .returned (.tuple #[.string ⟨#[10]⟩, .int .i64 0]) ∧ w' = w := by
  go_enter Tryd.func40, Tryd.ntmps40
  go_wp2
  go_ret2
  exact ⟨rfl, rfl⟩

set_option maxRecDepth 100000 in
theorem tell_emit_bad (b o c : Nat) (x : Int) (w : World) (h0 : w.cell? ⟨b, o, none⟩ = some (.int .i64 x)) (hx : x < 32 ∨ 126 < x) :
    Calls Tryd.prog 40 #[.string ⟨#[101, 109, 105, 116]⟩, .slice (some ⟨b, o, none⟩) 1 c] w fun e w' => e = .returned (.tuple #[.string ⟨#[]⟩, .int .i64 11]) ∧ w' = w := by
  rcases hx with hx | hx
  all_goals
    go_enter Tryd.func40, Tryd.ntmps40
    go_wp2
    all_goals
      go_ret2
      exact ⟨rfl, rfl⟩

theorem encode_ascii (x : Int) (h : 32 ≤ x) (h2 : x ≤ 126) : Utf8.encode x = ⟨#[UInt8.ofNat x.toNat]⟩ := by
  have hv : Utf8.valid x = true := by simp [Utf8.valid]; omega
  unfold Utf8.encode
  simp only [hv, if_true]
  rw [if_pos (by omega)]

set_option maxRecDepth 100000 in
theorem tell_emit_good (b o c : Nat) (x : Int) (w : World) (h0 : w.cell? ⟨b, o, none⟩ = some (.int .i64 x)) (hx : 32 ≤ x) (hx2 : x ≤ 126) :
    Calls Tryd.prog 40 #[.string ⟨#[101, 109, 105, 116]⟩, .slice (some ⟨b, o, none⟩) 1 c] w fun e w' => e = .returned (.tuple #[.string ⟨#[UInt8.ofNat x.toNat]⟩, .int .i64 0]) ∧ w' = w := by
  go_enter Tryd.func40, Tryd.ntmps40
  go_wp2
  go_ret2
  exact ⟨ret_si (encode_ascii x hx hx2) rfl, rfl⟩
end Go.Proofs.YthpcapohfjidoaaDoor
