/- Parts of the proof: see the last text. -/
import Derived.Test.YtgnlokmeohffaaaGreatDoorProg
import Derived.Test.YtgnlokmeohffaaaGreatDoorShelf
import Derived.WalkKit
import Derived.WalkSpells
import Derived.WalkLawsBesides
import Derived.Deep.QuietTactic
import Derived.Deep.RegionHeld3
import Derived.Deep.DrawnRows
import Derived.BigQuiet
import Derived.Lib.AppendIntMem
import Derived.Lib.Strings
import Derived.Test.YtgnlokmeohffaaaGreatDoorB1
/- What the functions move and tell of package lexicon answer, at each of their names. -/
namespace Go.Proofs.YtgnlokmeohffaaaGreatDoor
open Go.RowKit

set_option maxRecDepth 100000 in
theorem move_dup (b o c : Nat) (d : Int) (V : Value) (x : Int) (w : World) (h0 : w.cell? ⟨b, o, none⟩ = some (.int .i64 x)) :
    Calls Tryz.prog 106 #[.string ⟨#[100, 117, 112]⟩, .slice (some ⟨b, o, none⟩) 1 c, V, .int .i64 d] w fun e w' => ∃ v, e = .returned v ∧ EffAt w.heap.size w' v [x, x] [] [] ∧ Below w.heap.size w w' := by
  have hn0 := World.new_ne w _ h0
  go_enter Tryz.func106, Tryz.ntmps106
  go_wp2
  go_region_held3 (fun w' => w'.cell? ⟨b, o, none⟩ = some (.int .i64 x)) (go_keep) (fail)
  all_goals go_wp2
  exact bodyPost_ret (v := .agg #[.slice (some ⟨w.heap.size + 1, 0, none⟩) 2 2, .slice none 0 0, .string ⟨#[]⟩]) (by simp [results, Tryz.results106, go_sem]) rfl ⟨_, rfl, ⟨_, _, rfl, (src_of _ 3 rfl (heap_two w _ _)), (Src.nil _), (own_at (by omega)), own_none⟩, (by repeat (first | exact Below.refl _ _ | refine Below.drew ?_ | refine Below.alloc ?_ (by first | (simp; done) | (simp; omega)) _))⟩

set_option maxRecDepth 100000 in
theorem move_drop (b o c : Nat) (d : Int) (V : Value) (x : Int) (w : World) (h0 : w.cell? ⟨b, o, none⟩ = some (.int .i64 x)) :
    Calls Tryz.prog 106 #[.string ⟨#[100, 114, 111, 112]⟩, .slice (some ⟨b, o, none⟩) 1 c, V, .int .i64 d] w fun e w' => ∃ v, e = .returned v ∧ EffAt w.heap.size w' v [] [] [] ∧ Below w.heap.size w w' := by
  have hn0 := World.new_ne w _ h0
  go_enter Tryz.func106, Tryz.ntmps106
  go_wp2
  exact bodyPost_ret (v := .agg #[.slice none 0 0, .slice none 0 0, .string ⟨#[]⟩]) (by simp [results, Tryz.results106, go_sem]) rfl ⟨_, rfl, ⟨_, _, rfl, (Src.nil _), (Src.nil _), own_none, own_none⟩, (by repeat (first | exact Below.refl _ _ | refine Below.drew ?_ | refine Below.alloc ?_ (by first | (simp; done) | (simp; omega)) _))⟩

set_option maxRecDepth 100000 in
theorem move_swap (b o c : Nat) (d : Int) (V : Value) (x y : Int) (w : World) (h0 : w.cell? ⟨b, o, none⟩ = some (.int .i64 x)) (h1 : w.cell? ⟨b, o + 1, none⟩ = some (.int .i64 y)) :
    Calls Tryz.prog 106 #[.string ⟨#[115, 119, 97, 112]⟩, .slice (some ⟨b, o, none⟩) 2 c, V, .int .i64 d] w fun e w' => ∃ v, e = .returned v ∧ EffAt w.heap.size w' v [y, x] [] [] ∧ Below w.heap.size w w' := by
  have hn0 := World.new_ne w _ h0
  have hn1 := World.new_ne w _ h1
  go_enter Tryz.func106, Tryz.ntmps106
  go_wp2
  go_region_held3 (fun w' => w'.cell? ⟨b, o, none⟩ = some (.int .i64 x) ∧ w'.cell? ⟨b, o + 1, none⟩ = some (.int .i64 y)) (go_keep) (fail)
  all_goals go_wp2
  exact bodyPost_ret (v := .agg #[.slice (some ⟨w.heap.size + 1, 0, none⟩) 2 2, .slice none 0 0, .string ⟨#[]⟩]) (by simp [results, Tryz.results106, go_sem]) rfl ⟨_, rfl, ⟨_, _, rfl, (src_of _ 3 rfl (heap_two w _ _)), (Src.nil _), (own_at (by omega)), own_none⟩, (by repeat (first | exact Below.refl _ _ | refine Below.drew ?_ | refine Below.alloc ?_ (by first | (simp; done) | (simp; omega)) _))⟩

set_option maxRecDepth 100000 in
theorem move_over (b o c : Nat) (d : Int) (V : Value) (x y : Int) (w : World) (h0 : w.cell? ⟨b, o, none⟩ = some (.int .i64 x)) (h1 : w.cell? ⟨b, o + 1, none⟩ = some (.int .i64 y)) :
    Calls Tryz.prog 106 #[.string ⟨#[111, 118, 101, 114]⟩, .slice (some ⟨b, o, none⟩) 2 c, V, .int .i64 d] w fun e w' => ∃ v, e = .returned v ∧ EffAt w.heap.size w' v [x, y, x] [] [] ∧ Below w.heap.size w w' := by
  have hn0 := World.new_ne w _ h0
  have hn1 := World.new_ne w _ h1
  go_enter Tryz.func106, Tryz.ntmps106
  go_wp2
  go_region_held3 (fun w' => w'.cell? ⟨b, o, none⟩ = some (.int .i64 x) ∧ w'.cell? ⟨b, o + 1, none⟩ = some (.int .i64 y)) (go_keep) (fail)
  all_goals go_wp2
  exact bodyPost_ret (v := .agg #[.slice (some ⟨w.heap.size + 1, 0, none⟩) 3 3, .slice none 0 0, .string ⟨#[]⟩]) (by simp [results, Tryz.results106, go_sem]) rfl ⟨_, rfl, ⟨_, _, rfl, (src_of _ 3 rfl (heap_two w _ _)), (Src.nil _), (own_at (by omega)), own_none⟩, (by repeat (first | exact Below.refl _ _ | refine Below.drew ?_ | refine Below.alloc ?_ (by first | (simp; done) | (simp; omega)) _))⟩

set_option maxRecDepth 100000 in
theorem move_rot (b o c : Nat) (d : Int) (V : Value) (x y z : Int) (w : World) (h0 : w.cell? ⟨b, o, none⟩ = some (.int .i64 x)) (h1 : w.cell? ⟨b, o + 1, none⟩ = some (.int .i64 y)) (h2 : w.cell? ⟨b, o + 2, none⟩ = some (.int .i64 z)) :
    Calls Tryz.prog 106 #[.string ⟨#[114, 111, 116]⟩, .slice (some ⟨b, o, none⟩) 3 c, V, .int .i64 d] w fun e w' => ∃ v, e = .returned v ∧ EffAt w.heap.size w' v [y, z, x] [] [] ∧ Below w.heap.size w w' := by
  have hn0 := World.new_ne w _ h0
  have hn1 := World.new_ne w _ h1
  have hn2 := World.new_ne w _ h2
  go_enter Tryz.func106, Tryz.ntmps106
  go_wp2
  go_region_held3 (fun w' => w'.cell? ⟨b, o, none⟩ = some (.int .i64 x) ∧ w'.cell? ⟨b, o + 1, none⟩ = some (.int .i64 y) ∧ w'.cell? ⟨b, o + 2, none⟩ = some (.int .i64 z)) (go_keep) (fail)
  all_goals go_wp2
  exact bodyPost_ret (v := .agg #[.slice (some ⟨w.heap.size + 1, 0, none⟩) 3 3, .slice none 0 0, .string ⟨#[]⟩]) (by simp [results, Tryz.results106, go_sem]) rfl ⟨_, rfl, ⟨_, _, rfl, (src_of _ 3 rfl (heap_two w _ _)), (Src.nil _), (own_at (by omega)), own_none⟩, (by repeat (first | exact Below.refl _ _ | refine Below.drew ?_ | refine Below.alloc ?_ (by first | (simp; done) | (simp; omega)) _))⟩

set_option maxRecDepth 100000 in
theorem move_to (b o c : Nat) (d : Int) (V : Value) (x : Int) (w : World) (h0 : w.cell? ⟨b, o, none⟩ = some (.int .i64 x)) :
    Calls Tryz.prog 106 #[.string ⟨#[62, 114]⟩, .slice (some ⟨b, o, none⟩) 1 c, V, .int .i64 d] w fun e w' => ∃ v, e = .returned v ∧ EffAt w.heap.size w' v [] [x] [] ∧ Below w.heap.size w w' := by
  have hn0 := World.new_ne w _ h0
  have ha := cell_alloc h0
  go_enter Tryz.func106, Tryz.ntmps106
  go_wp2
  exact bodyPost_ret (v := .agg #[.slice none 0 0, .slice (some ⟨w.heap.size + 1, 0, none⟩) 1 1, .string ⟨#[]⟩]) (by simp [results, Tryz.results106, go_sem]) rfl ⟨_, rfl, ⟨_, _, rfl, (Src.nil _), (src_of _ 3 rfl (heap_two w _ _)), own_none, (own_at (by omega))⟩, (by repeat (first | exact Below.refl _ _ | refine Below.drew ?_ | refine Below.alloc ?_ (by first | (simp; done) | (simp; omega)) _))⟩

set_option maxRecDepth 100000 in
theorem move_from (b o c : Nat) (d : Int) (V : Value) (x : Int) (w : World) (h0 : w.cell? ⟨b, o, none⟩ = some (.int .i64 x)) :
    Calls Tryz.prog 106 #[.string ⟨#[114, 62]⟩, V, .slice (some ⟨b, o, none⟩) 1 c, .int .i64 d] w fun e w' => ∃ v, e = .returned v ∧ EffAt w.heap.size w' v [x] [] [] ∧ Below w.heap.size w w' := by
  have hn0 := World.new_ne w _ h0
  have ha := cell_alloc h0
  go_enter Tryz.func106, Tryz.ntmps106
  go_wp2
  exact bodyPost_ret (v := .agg #[.slice (some ⟨w.heap.size + 1, 0, none⟩) 1 1, .slice none 0 0, .string ⟨#[]⟩]) (by simp [results, Tryz.results106, go_sem]) rfl ⟨_, rfl, ⟨_, _, rfl, (src_of _ 3 rfl (heap_two w _ _)), (Src.nil _), (own_at (by omega)), own_none⟩, (by repeat (first | exact Below.refl _ _ | refine Below.drew ?_ | refine Below.alloc ?_ (by first | (simp; done) | (simp; omega)) _))⟩

set_option maxRecDepth 100000 in
theorem move_peek (b o c : Nat) (d : Int) (V : Value) (x : Int) (w : World) (h0 : w.cell? ⟨b, o, none⟩ = some (.int .i64 x)) :
    Calls Tryz.prog 106 #[.string ⟨#[114, 64]⟩, V, .slice (some ⟨b, o, none⟩) 1 c, .int .i64 d] w fun e w' => ∃ v, e = .returned v ∧ EffAt w.heap.size w' v [x] [x] [] ∧ Below w.heap.size w w' := by
  have hn0 := World.new_ne w _ h0
  have hn1 : w.heap.size + 1 ≠ b := by have := block_lt h0; omega
  have hn2 : w.heap.size + 1 + 1 ≠ b := by have := block_lt h0; omega
  go_enter Tryz.func106, Tryz.ntmps106
  go_wp2
  go_region_held3 (fun w' => w'.cell? ⟨b, o, none⟩ = some (.int .i64 x)) (first | exact cell_alloc (cell_alloc (cell_alloc h0 _) _) _ | exact cell_alloc (cell_alloc h0 _) _ | exact cell_alloc h0 _ | exact h0 | go_keep) (fail)
  all_goals go_wp2
  · exact bodyPost_ret (v := .agg #[.slice (some ⟨w.heap.size + 1, 0, none⟩) 1 1, .slice (some ⟨w.heap.size + 1 + 1, 0, none⟩) 1 1, .string ⟨#[]⟩]) (by simp [results, Tryz.results106, go_sem]) rfl ⟨_, rfl, ⟨_, _, rfl, (src_of _ 3 rfl (heap_three_mid w _ _ _)), (src_of _ 3 rfl (heap_three w _ _ _)), (own_at (by omega)), (own_at (by omega))⟩, (by repeat (first | exact Below.refl _ _ | refine Below.drew ?_ | refine Below.alloc ?_ (by first | (simp; done) | (simp; omega)) _))⟩
  · exact bodyPost_ret (v := .agg #[.slice (some ⟨w.heap.size + 1 + 1, 0, none⟩) 1 1, .slice (some ⟨w.heap.size + 1, 0, none⟩) 1 1, .string ⟨#[]⟩]) (by simp [results, Tryz.results106, go_sem]) rfl ⟨_, rfl, ⟨_, _, rfl, (src_of _ 3 rfl (heap_three w _ _ _)), (src_of _ 3 rfl (heap_three_mid w _ _ _)), (own_at (by omega)), (own_at (by omega))⟩, (by repeat (first | exact Below.refl _ _ | refine Below.drew ?_ | refine Below.alloc ?_ (by first | (simp; done) | (simp; omega)) _))⟩

set_option maxRecDepth 100000 in
theorem move_depth (d : Int) (V U : Value)  (w : World)  :
    Calls Tryz.prog 106 #[.string ⟨#[100, 101, 112, 116, 104]⟩, V, U, .int .i64 d] w fun e w' => ∃ v, e = .returned v ∧ EffAt w.heap.size w' v [d] [] [] ∧ Below w.heap.size w w' := by
  go_enter Tryz.func106, Tryz.ntmps106
  go_wp2
  exact bodyPost_ret (v := .agg #[.slice (some ⟨w.heap.size + 1, 0, none⟩) 1 1, .slice none 0 0, .string ⟨#[]⟩]) (by simp [results, Tryz.results106, go_sem]) rfl ⟨_, rfl, ⟨_, _, rfl, (src_of _ 3 rfl (heap_two w _ _)), (Src.nil _), (own_at (by omega)), own_none⟩, (by repeat (first | exact Below.refl _ _ | refine Below.drew ?_ | refine Below.alloc ?_ (by first | (simp; done) | (simp; omega)) _))⟩


theorem itoa_len (x : Int) (h0 : -9223372036854775808 ≤ x) (h1 : x ≤ 9223372036854775807) : (Lib.itoa x).length ≤ 20 := by
  unfold Lib.itoa
  split
  · have := dec_len x.natAbs (by omega)
    simp; omega
  · have := dec_len x.toNat (by omega)
    omega

theorem ret_si {s s' : ByteArray} {a a' : Int} (h : s = s') (h2 : a = a') : Ending.returned (.tuple #[.string s, .int .i64 a]) = .returned (.tuple #[.string s', .int .i64 a']) := by rw [h, h2]

theorem snoc_bytes (l : List UInt8) (c : UInt8) : ((⟨l.toArray⟩ : ByteArray) ++ (⟨#[c]⟩ : ByteArray)) = ⟨(l ++ [c]).toArray⟩ := by
  apply ByteArray.ext
  simp

set_option maxRecDepth 100000 in
theorem tell_dot (b o c : Nat) (x : Int) (w : World) (hx0 : -9223372036854775808 ≤ x) (hx1 : x ≤ 9223372036854775807) (h0 : w.cell? ⟨b, o, none⟩ = some (.int .i64 x)) (htab : Lib.TabIs Tryz.prog w "internal/strconv.uint64pow10" .u64 Lib.pow10Tab) :
    Calls Tryz.prog 107 #[.string ⟨#[46]⟩, .slice (some ⟨b, o, none⟩) 1 c] w fun e w' => e = .returned (.tuple #[.string ⟨(Lib.itoa x ++ [32]).toArray⟩, .int .i64 0]) ∧ Below w.heap.size w w' := by
  have Htab := hide htab
  clear htab
  go_enter Tryz.func107, Tryz.ntmps107
  go_wp2_with fail
  refine (Tryz.strconv_Itoa x hx0 hx1 _ (unhide Htab)).mono ?_
  rintro e w' ⟨rfl, k, os, hw⟩
  have hb : Below w.heap.size w w' := by rw [hw]; exact Lib.below_grow _ _ (Nat.le_refl _) _ _
  clear hw
  have hlen : (⟨(Lib.itoa x).toArray⟩ : ByteArray).size ≤ 20 := by
    have := itoa_len x hx0 hx1
    simpa [ByteArray.size] using this
  generalize hs : (⟨(Lib.itoa x).toArray⟩ : ByteArray) = s at *
  have Hs := hide hs
  clear hs
  go_wp2
  go_ret2
  exact ⟨ret_si (by rw [← unhide Hs, snoc_bytes]) rfl, hb⟩

set_option maxRecDepth 100000 in
theorem tell_cr (V : Value) (w : World) :
    Calls Tryz.prog 107 #[.string ⟨#[99, 114]⟩, V] w fun e w' => e = .returned (.tuple #[.string ⟨#[10]⟩, .int .i64 0]) ∧ w' = w := by
  go_enter Tryz.func107, Tryz.ntmps107
  go_wp2
  go_ret2
  exact ⟨rfl, rfl⟩

set_option maxRecDepth 100000 in
theorem tell_emit_bad (b o c : Nat) (x : Int) (w : World) (h0 : w.cell? ⟨b, o, none⟩ = some (.int .i64 x)) (hx : x < 32 ∨ 126 < x) :
    Calls Tryz.prog 107 #[.string ⟨#[101, 109, 105, 116]⟩, .slice (some ⟨b, o, none⟩) 1 c] w fun e w' => e = .returned (.tuple #[.string ⟨#[]⟩, .int .i64 11]) ∧ w' = w := by
  rcases hx with hx | hx
  all_goals
    go_enter Tryz.func107, Tryz.ntmps107
    go_wp2
    all_goals
      go_ret2
      exact ⟨rfl, rfl⟩

theorem encode_ascii (x : Int) (h : 32 ≤ x) (h2 : x ≤ 126) : Utf8.encode x = ⟨#[UInt8.ofNat x.toNat]⟩ := by
  have hv : Utf8.valid x = true := by simp [Utf8.valid]; omega
  unfold Utf8.encode
  simp only [hv, if_true]
  rw [if_pos (by omega)]

set_option maxRecDepth 100000 in
theorem tell_emit_good (b o c : Nat) (x : Int) (w : World) (h0 : w.cell? ⟨b, o, none⟩ = some (.int .i64 x)) (hx : 32 ≤ x) (hx2 : x ≤ 126) :
    Calls Tryz.prog 107 #[.string ⟨#[101, 109, 105, 116]⟩, .slice (some ⟨b, o, none⟩) 1 c] w fun e w' => e = .returned (.tuple #[.string ⟨#[UInt8.ofNat x.toNat]⟩, .int .i64 0]) ∧ w' = w := by
  go_enter Tryz.func107, Tryz.ntmps107
  go_wp2
  go_ret2
  exact ⟨ret_si (encode_ascii x hx hx2) rfl, rfl⟩
end Go.Proofs.YtgnlokmeohffaaaGreatDoor
/- What the method Plan of package lexicon answers: whatever reckon, move and tell answer, put into an effect. -/
namespace Go.Proofs.YtgnlokmeohffaaaGreatDoor
open Go.RowKit

theorem below_drewN {B : Nat} {a w : World} (h : Below B a w) : ∀ n, Below B a (w.drewN n)
  | 0 => h
  | n + 1 => (below_drewN h n).drew

set_option maxRecDepth 100000 in
theorem plan_reckon_ok (nm : ByteArray) (t a V d : Int) (vT vA : Value) (w : World)
    (H : Hid (∀ w1, Below w.heap.size w w1 → Calls Tryz.prog 105 #[.string nm, vT] w1 fun e w' => e = .returned (.tuple #[.int .i64 V, .int .i64 0]) ∧ ∃ n, w' = w1.drewN n)) :
    Calls Tryz.prog 86 #[.agg #[.string nm, .int .i64 t, .int .i64 a, .int .i64 0], vT, vA, .int .i64 d] w fun e w' => ∃ v, e = .returned (.tuple #[v, .int .i64 0]) ∧ EffAt w.heap.size w' v [V] [] [] ∧ Below w.heap.size w w' := by
  go_enter Tryz.func86, Tryz.ntmps86
  go_wp2_with fail
  refine (unhide H _ (((Below.refl _ _).alloc (Nat.le_refl _) _).alloc (by simp) _)).mono ?_
  rintro e w' ⟨rfl, n, rfl⟩
  go_wp2
  refine bodyPost_ret (v := .tuple #[.agg #[.slice (some ⟨w.heap.size + 1 + 1, 0, none⟩) 1 1, .slice none 0 0, .string ⟨#[]⟩], .int .i64 0]) (by simp [results, Tryz.results86, go_sem]) rfl ⟨_, rfl, ⟨_, _, rfl, src_new _ _ 3 rfl (by simp [go_sem]), Src.nil _, own_at (by omega), own_none⟩, ?_⟩
  repeat (first | exact Below.refl _ _ | refine below_drewN ?_ _ | refine Below.drew ?_ | refine Below.alloc ?_ (by first | (simp [World.setCell]; done) | (simp [World.setCell]; omega)) _ | refine Below.setCell ?_ (by simp; done) _)

set_option maxRecDepth 100000 in
theorem plan_reckon_err (nm : ByteArray) (t a V E d : Int) (vT vA : Value) (w : World) (hE : (E != 0) = true)
    (H : Hid (∀ w1, Below w.heap.size w w1 → Calls Tryz.prog 105 #[.string nm, vT] w1 fun e w' => e = .returned (.tuple #[.int .i64 V, .int .i64 E]) ∧ ∃ n, w' = w1.drewN n)) :
    Calls Tryz.prog 86 #[.agg #[.string nm, .int .i64 t, .int .i64 a, .int .i64 0], vT, vA, .int .i64 d] w fun e w' => ∃ v, e = .returned (.tuple #[v, .int .i64 E]) ∧ EffAt w.heap.size w' v [] [] [] ∧ Below w.heap.size w w' := by
  go_enter Tryz.func86, Tryz.ntmps86
  go_wp2_with fail
  refine (unhide H _ (((Below.refl _ _).alloc (Nat.le_refl _) _).alloc (by simp) _)).mono ?_
  rintro e w' ⟨rfl, n, rfl⟩
  go_wp2
  refine bodyPost_ret (v := .tuple #[.agg #[.slice none 0 0, .slice none 0 0, .string ⟨#[]⟩], .int .i64 E]) (by simp [results, Tryz.results86, go_sem]) rfl ⟨_, rfl, ⟨_, _, rfl, Src.nil _, Src.nil _, own_none, own_none⟩, ?_⟩
  repeat (first | exact Below.refl _ _ | refine below_drewN ?_ _ | refine Below.drew ?_ | refine Below.alloc ?_ (by simp) _ | refine Below.setCell ?_ (by simp; done) _)

set_option maxRecDepth 100000 in
theorem plan_move (nm : ByteArray) (t a d : Int) (vT vA : Value) (lays aside : List Int) (w : World)
    (H : Hid (∀ w1, Below w.heap.size w w1 → Calls Tryz.prog 106 #[.string nm, vT, vA, .int .i64 d] w1 fun e w' => ∃ v, e = .returned v ∧ EffAt w1.heap.size w' v lays aside [] ∧ Below w1.heap.size w1 w')) :
    Calls Tryz.prog 86 #[.agg #[.string nm, .int .i64 t, .int .i64 a, .int .i64 1], vT, vA, .int .i64 d] w fun e w' => ∃ v, e = .returned (.tuple #[v, .int .i64 0]) ∧ EffAt w.heap.size w' v lays aside [] ∧ Below w.heap.size w w' := by
  go_enter Tryz.func86, Tryz.ntmps86
  go_wp2_with fail
  refine (unhide H _ (((Below.refl _ _).alloc (Nat.le_refl _) _).alloc (by simp) _)).mono ?_
  rintro e w' ⟨v, rfl, ⟨vL, vA', rfl, h1, h2, h3, h4⟩, hb⟩
  obtain ⟨hc, hf⟩ := bcell hb
  obtain ⟨aL, cL, hvL⟩ := h1.len
  obtain ⟨aA, cA, hvA⟩ := h2.len
  have hz := hb.size
  simp only [World.size_alloc] at hz h3 h4
  have H1 := hide h1
  have H2 := hide h2
  have H3 := hide h3
  have H4 := hide h4
  have Hb := hide hb
  clear h1 h2 h3 h4 hb
  subst hvL hvA
  go_wp2
  refine bodyPost_ret (v := .tuple #[.agg #[.slice aL (lays.map (Value.int .i64)).length cL, .slice aA (aside.map (Value.int .i64)).length cA, .string ⟨#[]⟩], .int .i64 0]) (by simp [results, Tryz.results86, go_sem, hc]) rfl ⟨_, rfl, ⟨_, _, rfl, ?_, ?_, ?_, ?_⟩, ?_⟩
  · exact (((unhide H1).setCell (unhide H3) (by simp) _).setCell (unhide H3) (by simp) _).setCell (unhide H3) (by simp) _
  · exact (((unhide H2).setCell (unhide H4) (by simp) _).setCell (unhide H4) (by simp) _).setCell (unhide H4) (by simp) _
  · exact fun k e => by have := unhide H3 k e; omega
  · exact fun k e => by have := unhide H4 k e; omega
  · exact ((((((Below.refl _ _).alloc (Nat.le_refl _) _).alloc (by simp) _).trans ((unhide Hb).mono (by simp; omega))).setCell (by simp) _).setCell (by simp) _).setCell (by simp) _

set_option maxRecDepth 100000 in
theorem plan_tell (nm txt : ByteArray) (t a d E : Int) (vT vA : Value) (w : World)
    (H : Hid (∀ w1, Below w.heap.size w w1 → Calls Tryz.prog 107 #[.string nm, vT] w1 fun e w' => e = .returned (.tuple #[.string txt, .int .i64 E]) ∧ Below w1.heap.size w1 w')) :
    Calls Tryz.prog 86 #[.agg #[.string nm, .int .i64 t, .int .i64 a, .int .i64 2], vT, vA, .int .i64 d] w fun e w' => ∃ v, e = .returned (.tuple #[v, .int .i64 E]) ∧ EffAt w.heap.size w' v [] [] txt.data.toList ∧ Below w.heap.size w w' := by
  go_enter Tryz.func86, Tryz.ntmps86
  go_wp2_with fail
  refine (unhide H _ (((Below.refl _ _).alloc (Nat.le_refl _) _).alloc (by simp) _)).mono ?_
  rintro e w' ⟨rfl, hb⟩
  obtain ⟨hc, hf⟩ := bcell hb
  have hz := hb.size
  simp only [World.size_alloc] at hz
  have Hb := hide hb
  clear hb
  go_wp2
  refine bodyPost_ret (v := .tuple #[.agg #[.slice none 0 0, .slice none 0 0, .string txt], .int .i64 E]) (by simp [results, Tryz.results86, go_sem, hc]) rfl ⟨_, rfl, ⟨_, _, rfl, Src.nil _, Src.nil _, own_none, own_none⟩, ?_⟩
  exact ((((((Below.refl _ _).alloc (Nat.le_refl _) _).alloc (by simp) _).trans ((unhide Hb).mono (by simp; omega))).setCell (by simp) _).setCell (by simp) _).setCell (by simp) _
end Go.Proofs.YtgnlokmeohffaaaGreatDoor
/- Plan answers what each word of the language does. -/
namespace Go.Proofs.YtgnlokmeohffaaaGreatDoor
open Go.RowKit

abbrev TabOk (w : World) : Prop := Lib.TabIs Tryz.prog w "internal/strconv.uint64pow10" .u64 Lib.pow10Tab

theorem tabIs_of_block {w w' : World} (h : TabOk w) (hb : w'.heap[3]? = w.heap[3]?) : TabOk w' := by
  unfold TabOk Lib.TabIs World.var? at h ⊢
  have hg : (Tryz.prog).globalNamed "internal/strconv.uint64pow10" = some 3 := by kernel_rfl
  rw [hg] at h ⊢
  simp only [Option.bind_some] at h ⊢
  rw [hb]
  exact h
theorem tab_lt {w : World} (h : TabOk w) : 3 < w.heap.size := by
  unfold TabOk Lib.TabIs World.var? at h
  have hg : (Tryz.prog).globalNamed "internal/strconv.uint64pow10" = some 3 := by kernel_rfl
  rw [hg] at h
  simp only [Option.bind_some] at h
  rcases Nat.lt_or_ge 3 w.heap.size with h' | h'
  · exact h'
  · rw [Array.getElem?_eq_none h'] at h
    cases h

theorem src_one {w : World} {v : Value} {T : List Int} (h : Src w v (T.map (Value.int .i64))) (hl : T.length = 1) : ∃ b o c x, T = [x] ∧ v = .slice (some ⟨b, o, none⟩) 1 c ∧ w.cell? ⟨b, o, none⟩ = some (.int .i64 x) := by
  match T, hl with
  | [x], _ =>
    rcases h with ⟨_, h⟩ | ⟨b, o, c, rfl, _, hc⟩
    · cases h
    · exact ⟨b, o, c, x, rfl, rfl, hc 0 _ rfl⟩
theorem src_two {w : World} {v : Value} {T : List Int} (h : Src w v (T.map (Value.int .i64))) (hl : T.length = 2) : ∃ b o c x y, T = [x, y] ∧ v = .slice (some ⟨b, o, none⟩) 2 c ∧ w.cell? ⟨b, o, none⟩ = some (.int .i64 x) ∧ w.cell? ⟨b, o + 1, none⟩ = some (.int .i64 y) := by
  match T, hl with
  | [x, y], _ =>
    rcases h with ⟨_, h⟩ | ⟨b, o, c, rfl, _, hc⟩
    · cases h
    · exact ⟨b, o, c, x, y, rfl, rfl, hc 0 _ rfl, hc 1 _ rfl⟩
theorem src_three {w : World} {v : Value} {T : List Int} (h : Src w v (T.map (Value.int .i64))) (hl : T.length = 3) : ∃ b o c x y z, T = [x, y, z] ∧ v = .slice (some ⟨b, o, none⟩) 3 c ∧ w.cell? ⟨b, o, none⟩ = some (.int .i64 x) ∧ w.cell? ⟨b, o + 1, none⟩ = some (.int .i64 y) ∧ w.cell? ⟨b, o + 2, none⟩ = some (.int .i64 z) := by
  match T, hl with
  | [x, y, z], _ =>
    rcases h with ⟨_, h⟩ | ⟨b, o, c, rfl, _, hc⟩
    · cases h
    · exact ⟨b, o, c, x, y, z, rfl, rfl, hc 0 _ rfl, hc 1 _ rfl, hc 2 _ rfl⟩
theorem cell_below {w w1 : World} {b o : Nat} {v : Value} (h : w.cell? ⟨b, o, none⟩ = some v) (hb : Below w.heap.size w w1) : w1.cell? ⟨b, o, none⟩ = some v := (hb.cell (p := ⟨b, o, none⟩) (block_lt h)).trans h

/-- What Plan answers. -/
def PlanAt (p : L.Prim) (vT vA : Value) (T A : List Int) (d : Int) (w : World) : Prop :=
  Calls Tryz.prog 86 #[primVal p, vT, vA, .int .i64 d] w fun e w' => ∃ v, e = .returned (.tuple #[v, .int .i64 (L.plan p.name T A d).err]) ∧ EffAt w.heap.size w' v (L.plan p.name T A d).lays (L.plan p.name T A d).aside (L.plan p.name T A d).tells ∧ Below w.heap.size w w'

theorem planAt_add (d : Int) (w : World) (vT vA : Value) (T A : List Int) (hT : Src w vT (T.map (Value.int .i64))) (hTl : T.length = 2) : PlanAt ⟨[43], 2, 0, 0⟩ vT vA T A d w := by
  obtain ⟨b, o, c, x, y, rfl, rfl, h0, h1⟩ := src_two hT hTl
  exact plan_reckon_ok _ _ _ _ d _ _ w (hide fun w1 hb => reckon_add b o c x y w1 (cell_below h0 hb) (cell_below h1 hb))

theorem planAt_sub (d : Int) (w : World) (vT vA : Value) (T A : List Int) (hT : Src w vT (T.map (Value.int .i64))) (hTl : T.length = 2) : PlanAt ⟨[45], 2, 0, 0⟩ vT vA T A d w := by
  obtain ⟨b, o, c, x, y, rfl, rfl, h0, h1⟩ := src_two hT hTl
  exact plan_reckon_ok _ _ _ _ d _ _ w (hide fun w1 hb => reckon_sub b o c x y w1 (cell_below h0 hb) (cell_below h1 hb))

theorem planAt_mul (d : Int) (w : World) (vT vA : Value) (T A : List Int) (hT : Src w vT (T.map (Value.int .i64))) (hTl : T.length = 2) : PlanAt ⟨[42], 2, 0, 0⟩ vT vA T A d w := by
  obtain ⟨b, o, c, x, y, rfl, rfl, h0, h1⟩ := src_two hT hTl
  exact plan_reckon_ok _ _ _ _ d _ _ w (hide fun w1 hb => reckon_mul b o c x y w1 (cell_below h0 hb) (cell_below h1 hb))

theorem planAt_div (d : Int) (w : World) (vT vA : Value) (T A : List Int) (hT : Src w vT (T.map (Value.int .i64))) (hTl : T.length = 2) : PlanAt ⟨[47], 2, 0, 0⟩ vT vA T A d w := by
  obtain ⟨b, o, c, x, y, rfl, rfl, h0, h1⟩ := src_two hT hTl
  by_cases hy : y = 0
  · subst hy
    exact plan_reckon_err _ _ _ _ 8 d _ _ w rfl (hide fun w1 hb => reckon_div b o c x 0 w1 (cell_below h0 hb) (cell_below h1 hb))
  · have hp : L.plan [47] [x, y] A d = ⟨[wrap64 (x.tdiv y)], [], [], 0⟩ := if_neg hy
    have hr := fun w1 (hb : Below w.heap.size w w1) => reckon_div b o c x y w1 (cell_below h0 hb) (cell_below h1 hb)
    simp only [L.divOr, L.zeroErr, if_neg hy] at hr
    unfold PlanAt
    rw [show (L.Prim.name ⟨[47], 2, 0, 0⟩) = [47] from rfl, hp]
    exact plan_reckon_ok _ _ _ _ d _ _ w (hide hr)

theorem planAt_mod (d : Int) (w : World) (vT vA : Value) (T A : List Int) (hT : Src w vT (T.map (Value.int .i64))) (hTl : T.length = 2) : PlanAt ⟨[109, 111, 100], 2, 0, 0⟩ vT vA T A d w := by
  obtain ⟨b, o, c, x, y, rfl, rfl, h0, h1⟩ := src_two hT hTl
  by_cases hy : y = 0
  · subst hy
    exact plan_reckon_err _ _ _ _ 8 d _ _ w rfl (hide fun w1 hb => reckon_mod b o c x 0 w1 (cell_below h0 hb) (cell_below h1 hb))
  · have hp : L.plan [109, 111, 100] [x, y] A d = ⟨[x.tmod y], [], [], 0⟩ := if_neg hy
    have hr := fun w1 (hb : Below w.heap.size w w1) => reckon_mod b o c x y w1 (cell_below h0 hb) (cell_below h1 hb)
    simp only [L.divOr, L.zeroErr, if_neg hy] at hr
    unfold PlanAt
    rw [show (L.Prim.name ⟨[109, 111, 100], 2, 0, 0⟩) = [109, 111, 100] from rfl, hp]
    exact plan_reckon_ok _ _ _ _ d _ _ w (hide hr)

theorem planAt_eq (d : Int) (w : World) (vT vA : Value) (T A : List Int) (hT : Src w vT (T.map (Value.int .i64))) (hTl : T.length = 2) : PlanAt ⟨[61], 2, 0, 0⟩ vT vA T A d w := by
  obtain ⟨b, o, c, x, y, rfl, rfl, h0, h1⟩ := src_two hT hTl
  exact plan_reckon_ok _ _ _ _ d _ _ w (hide fun w1 hb => reckon_eq b o c x y w1 (cell_below h0 hb) (cell_below h1 hb))

theorem planAt_lt (d : Int) (w : World) (vT vA : Value) (T A : List Int) (hT : Src w vT (T.map (Value.int .i64))) (hTl : T.length = 2) : PlanAt ⟨[60], 2, 0, 0⟩ vT vA T A d w := by
  obtain ⟨b, o, c, x, y, rfl, rfl, h0, h1⟩ := src_two hT hTl
  exact plan_reckon_ok _ _ _ _ d _ _ w (hide fun w1 hb => reckon_lt b o c x y w1 (cell_below h0 hb) (cell_below h1 hb))

theorem planAt_gt (d : Int) (w : World) (vT vA : Value) (T A : List Int) (hT : Src w vT (T.map (Value.int .i64))) (hTl : T.length = 2) : PlanAt ⟨[62], 2, 0, 0⟩ vT vA T A d w := by
  obtain ⟨b, o, c, x, y, rfl, rfl, h0, h1⟩ := src_two hT hTl
  exact plan_reckon_ok _ _ _ _ d _ _ w (hide fun w1 hb => reckon_gt b o c x y w1 (cell_below h0 hb) (cell_below h1 hb))

theorem planAt_and (d : Int) (w : World) (vT vA : Value) (T A : List Int) (hT : Src w vT (T.map (Value.int .i64))) (hTl : T.length = 2) : PlanAt ⟨[97, 110, 100], 2, 0, 0⟩ vT vA T A d w := by
  obtain ⟨b, o, c, x, y, rfl, rfl, h0, h1⟩ := src_two hT hTl
  exact plan_reckon_ok _ _ _ _ d _ _ w (hide fun w1 hb => reckon_and b o c x y w1 (cell_below h0 hb) (cell_below h1 hb))

theorem planAt_or (d : Int) (w : World) (vT vA : Value) (T A : List Int) (hT : Src w vT (T.map (Value.int .i64))) (hTl : T.length = 2) : PlanAt ⟨[111, 114], 2, 0, 0⟩ vT vA T A d w := by
  obtain ⟨b, o, c, x, y, rfl, rfl, h0, h1⟩ := src_two hT hTl
  exact plan_reckon_ok _ _ _ _ d _ _ w (hide fun w1 hb => reckon_or b o c x y w1 (cell_below h0 hb) (cell_below h1 hb))

theorem planAt_xor (d : Int) (w : World) (vT vA : Value) (T A : List Int) (hT : Src w vT (T.map (Value.int .i64))) (hTl : T.length = 2) : PlanAt ⟨[120, 111, 114], 2, 0, 0⟩ vT vA T A d w := by
  obtain ⟨b, o, c, x, y, rfl, rfl, h0, h1⟩ := src_two hT hTl
  exact plan_reckon_ok _ _ _ _ d _ _ w (hide fun w1 hb => reckon_xor b o c x y w1 (cell_below h0 hb) (cell_below h1 hb))

theorem planAt_not (d : Int) (w : World) (vT vA : Value) (T A : List Int) (hT : Src w vT (T.map (Value.int .i64))) (hTl : T.length = 1) : PlanAt ⟨[110, 111, 116], 1, 0, 0⟩ vT vA T A d w := by
  obtain ⟨b, o, c, x, rfl, rfl, h0⟩ := src_one hT hTl
  exact plan_reckon_ok _ _ _ _ d _ _ w (hide fun w1 hb => reckon_not b o c x w1 (cell_below h0 hb))

theorem planAt_dup (d : Int) (w : World) (vT vA : Value) (T A : List Int) (hT : Src w vT (T.map (Value.int .i64))) (hTl : T.length = 1) : PlanAt ⟨[100, 117, 112], 1, 0, 1⟩ vT vA T A d w := by
  obtain ⟨b, o, c, x, rfl, rfl, h0⟩ := src_one hT hTl
  exact plan_move _ _ _ d _ _ _ _ w (hide fun w1 hb => move_dup b o c d _ x w1 (cell_below h0 hb))

theorem planAt_drop (d : Int) (w : World) (vT vA : Value) (T A : List Int) (hT : Src w vT (T.map (Value.int .i64))) (hTl : T.length = 1) : PlanAt ⟨[100, 114, 111, 112], 1, 0, 1⟩ vT vA T A d w := by
  obtain ⟨b, o, c, x, rfl, rfl, h0⟩ := src_one hT hTl
  exact plan_move _ _ _ d _ _ _ _ w (hide fun w1 hb => move_drop b o c d _ x w1 (cell_below h0 hb))

theorem planAt_to (d : Int) (w : World) (vT vA : Value) (T A : List Int) (hT : Src w vT (T.map (Value.int .i64))) (hTl : T.length = 1) : PlanAt ⟨[62, 114], 1, 0, 1⟩ vT vA T A d w := by
  obtain ⟨b, o, c, x, rfl, rfl, h0⟩ := src_one hT hTl
  exact plan_move _ _ _ d _ _ _ _ w (hide fun w1 hb => move_to b o c d _ x w1 (cell_below h0 hb))

theorem planAt_swap (d : Int) (w : World) (vT vA : Value) (T A : List Int) (hT : Src w vT (T.map (Value.int .i64))) (hTl : T.length = 2) : PlanAt ⟨[115, 119, 97, 112], 2, 0, 1⟩ vT vA T A d w := by
  obtain ⟨b, o, c, x, y, rfl, rfl, h0, h1⟩ := src_two hT hTl
  exact plan_move _ _ _ d _ _ _ _ w (hide fun w1 hb => move_swap b o c d _ x y w1 (cell_below h0 hb) (cell_below h1 hb))

theorem planAt_over (d : Int) (w : World) (vT vA : Value) (T A : List Int) (hT : Src w vT (T.map (Value.int .i64))) (hTl : T.length = 2) : PlanAt ⟨[111, 118, 101, 114], 2, 0, 1⟩ vT vA T A d w := by
  obtain ⟨b, o, c, x, y, rfl, rfl, h0, h1⟩ := src_two hT hTl
  exact plan_move _ _ _ d _ _ _ _ w (hide fun w1 hb => move_over b o c d _ x y w1 (cell_below h0 hb) (cell_below h1 hb))

theorem planAt_rot (d : Int) (w : World) (vT vA : Value) (T A : List Int) (hT : Src w vT (T.map (Value.int .i64))) (hTl : T.length = 3) : PlanAt ⟨[114, 111, 116], 3, 0, 1⟩ vT vA T A d w := by
  obtain ⟨b, o, c, x, y, z, rfl, rfl, h0, h1, h2⟩ := src_three hT hTl
  exact plan_move _ _ _ d _ _ _ _ w (hide fun w1 hb => move_rot b o c d _ x y z w1 (cell_below h0 hb) (cell_below h1 hb) (cell_below h2 hb))

theorem planAt_from (d : Int) (w : World) (vT vA : Value) (T A : List Int) (hA : Src w vA (A.map (Value.int .i64))) (hAl : A.length = 1) : PlanAt ⟨[114, 62], 0, 1, 1⟩ vT vA T A d w := by
  obtain ⟨b, o, c, x, rfl, rfl, h0⟩ := src_one hA hAl
  exact plan_move _ _ _ d _ _ _ _ w (hide fun w1 hb => move_from b o c d _ x w1 (cell_below h0 hb))

theorem planAt_peek (d : Int) (w : World) (vT vA : Value) (T A : List Int) (hA : Src w vA (A.map (Value.int .i64))) (hAl : A.length = 1) : PlanAt ⟨[114, 64], 0, 1, 1⟩ vT vA T A d w := by
  obtain ⟨b, o, c, x, rfl, rfl, h0⟩ := src_one hA hAl
  exact plan_move _ _ _ d _ _ _ _ w (hide fun w1 hb => move_peek b o c d _ x w1 (cell_below h0 hb))

theorem planAt_depth (d : Int) (w : World) (vT vA : Value) (T A : List Int) : PlanAt ⟨[100, 101, 112, 116, 104], 0, 0, 1⟩ vT vA T A d w := by
  exact plan_move _ _ _ d _ _ _ _ w (hide fun w1 hb => move_depth d _ _ w1)

theorem planAt_dot (d : Int) (w : World) (vT vA : Value) (T A : List Int) (hT : Src w vT (T.map (Value.int .i64))) (hTl : T.length = 1) (hin : ∀ x ∈ T, inI64 x) (htab : TabOk w) : PlanAt ⟨[46], 1, 0, 2⟩ vT vA T A d w := by
  obtain ⟨b, o, c, x, rfl, rfl, h0⟩ := src_one hT hTl
  have hx := hin x (by simp)
  exact plan_tell _ _ _ _ d _ _ _ w (hide fun w1 hb => tell_dot b o c x w1 hx.1 hx.2 (cell_below h0 hb) (tabIs_of_block htab (hb.block _ (tab_lt htab))))

theorem planAt_emit (d : Int) (w : World) (vT vA : Value) (T A : List Int) (hT : Src w vT (T.map (Value.int .i64))) (hTl : T.length = 1) : PlanAt ⟨[101, 109, 105, 116], 1, 0, 2⟩ vT vA T A d w := by
  obtain ⟨b, o, c, x, rfl, rfl, h0⟩ := src_one hT hTl
  by_cases hx : x < 32 ∨ 126 < x
  · have hp : L.plan [101, 109, 105, 116] [x] A d = ⟨[], [], [], 11⟩ := if_pos hx
    unfold PlanAt
    rw [show (L.Prim.name ⟨[101, 109, 105, 116], 1, 0, 2⟩) = [101, 109, 105, 116] from rfl, hp]
    exact plan_tell _ _ _ _ d _ _ _ w (hide fun w1 hb => (tell_emit_bad b o c x w1 (cell_below h0 hb) hx).mono fun e w' h => ⟨h.1, h.2 ▸ Below.refl _ _⟩)
  · have hp : L.plan [101, 109, 105, 116] [x] A d = ⟨[], [], [UInt8.ofNat x.toNat], 0⟩ := if_neg hx
    unfold PlanAt
    rw [show (L.Prim.name ⟨[101, 109, 105, 116], 1, 0, 2⟩) = [101, 109, 105, 116] from rfl, hp]
    exact plan_tell _ _ _ _ d _ _ _ w (hide fun w1 hb => (tell_emit_good b o c x w1 (cell_below h0 hb) (by omega) (by omega)).mono fun e w' h => ⟨h.1, h.2 ▸ Below.refl _ _⟩)

theorem planAt_cr (d : Int) (w : World) (vT vA : Value) (T A : List Int) : PlanAt ⟨[99, 114], 0, 0, 2⟩ vT vA T A d w := by
  exact plan_tell _ _ _ _ d _ _ _ w (hide fun w1 hb => (tell_cr _ w1).mono fun e w' h => ⟨h.1, h.2 ▸ Below.refl _ _⟩)


/-- Plan, at each word of the language. -/
theorem plan_any (p : L.Prim) (hp : p ∈ L.primTab) (d : Int) (w : World) (vT vA : Value) (T A : List Int) (hT : Src w vT (T.map (Value.int .i64))) (hTl : T.length = p.takes) (hA : Src w vA (A.map (Value.int .i64))) (hAl : A.length = p.aside) (hin : ∀ x ∈ T, inI64 x) (htab : TabOk w) : PlanAt p vT vA T A d w := by
  simp only [L.primTab, List.mem_cons, List.not_mem_nil, or_false] at hp
  rcases hp with rfl | rfl | rfl | rfl | rfl | rfl | rfl | rfl | rfl | rfl | rfl | rfl | rfl | rfl | rfl | rfl | rfl | rfl | rfl | rfl | rfl | rfl | rfl | rfl
  · exact planAt_add d w vT vA T A hT hTl
  · exact planAt_sub d w vT vA T A hT hTl
  · exact planAt_mul d w vT vA T A hT hTl
  · exact planAt_div d w vT vA T A hT hTl
  · exact planAt_mod d w vT vA T A hT hTl
  · exact planAt_eq d w vT vA T A hT hTl
  · exact planAt_lt d w vT vA T A hT hTl
  · exact planAt_gt d w vT vA T A hT hTl
  · exact planAt_and d w vT vA T A hT hTl
  · exact planAt_or d w vT vA T A hT hTl
  · exact planAt_xor d w vT vA T A hT hTl
  · exact planAt_not d w vT vA T A hT hTl
  · exact planAt_dup d w vT vA T A hT hTl
  · exact planAt_drop d w vT vA T A hT hTl
  · exact planAt_to d w vT vA T A hT hTl
  · exact planAt_swap d w vT vA T A hT hTl
  · exact planAt_over d w vT vA T A hT hTl
  · exact planAt_rot d w vT vA T A hT hTl
  · exact planAt_from d w vT vA T A hA hAl
  · exact planAt_peek d w vT vA T A hA hAl
  · exact planAt_depth d w vT vA T A 
  · exact planAt_dot d w vT vA T A hT hTl hin htab
  · exact planAt_emit d w vT vA T A hT hTl
  · exact planAt_cr d w vT vA T A 
end Go.Proofs.YtgnlokmeohffaaaGreatDoor
/- A run's steps: countStep, lay, doPrimitive. -/
namespace Go.Proofs.YtgnlokmeohffaaaGreatDoor
open Go.RowKit

namespace L
def countStep (s : RunS) : RunS × Int := if s.steps = 1000 then (s, 14) else ({ s with steps := s.steps + 1 }, 0)
end L

set_option maxRecDepth 100000 in
theorem countStep_any (w : World) (mb rb : Nat) (vO vB vW vS vR vT : Value) (s : L.RunS) (hrun : RunAt w mb rb vO vB vW vS vR vT s) (hst : s.steps ≤ 1000) :
    Calls Tryz.prog 51 #[.pointer (some ⟨rb, 0, none⟩)] w fun r w' => r = .returned (.int .i64 (L.countStep s).2) ∧ RunAt w' mb rb vO vB vW vS vR vT (L.countStep s).1 ∧ Mv (Foot mb rb vS vR vT) w w' := by
  have h3 : w.cell? ⟨rb, 3, none⟩ = some (.int .i64 s.steps) := cell_of_block hrun.r rfl
  have f3 : w.frozen? ⟨rb, 3, none⟩ = false := frozen_of_block 3 hrun.r
  have Hrun := hide hrun
  clear hrun
  by_cases hs : s.steps = 1000
  · have Hc := hide (show L.countStep s = (s, 14) from if_pos hs)
    have hb : ((s.steps : Int) == 1000) = true := by rw [beq_iff_eq]; omega
    clear hs
    go_enter Tryz.func51, Tryz.ntmps51
    go_wp2
    go_ret
    rw [unhide Hc]
    exact ⟨rfl, unhide Hrun, Mv.refl _ _⟩
  · have Hc := hide (show L.countStep s = ({ s with steps := s.steps + 1 }, 0) from if_neg hs)
    have hb : ((s.steps : Int) == 1000) = false := by rw [beq_eq_false_iff_ne]; omega
    clear hs
    go_enter Tryz.func51, Tryz.ntmps51
    go_wp2
    go_ret
    rw [unhide Hc]
    have hr := unhide Hrun
    refine ⟨rfl, ?_, (Mv.refl _ _).setCell (.inl (.inr (.inl rfl))) _⟩
    have hset := set_block hr.r 3 (.int .i64 ((s.steps : Int) + 1))
    have hoth : ∀ k, k ≠ rb → (w.setCell ⟨rb, 3, none⟩ (.int .i64 ((s.steps : Int) + 1))).heap[k]? = w.heap[k]? := fun k hk => Below.heap_setCell _ _ _ _ hk
    refine ⟨(hoth mb (ne_of_type hr.m hr.r (by decide))).trans hr.m, hset, ?_, ?_, ?_, ?_, hr.ap, hr.sl, hr.rl, hr.ol, hr.wl, hr.si, hr.ri⟩
    · exact owns_kept hr.st fun k e => hoth k fun h => own_ne_of_type hr.st hr.r (by decide) (h ▸ e)
    · exact owns_kept hr.asd fun k e => hoth k fun h => own_ne_of_type hr.asd hr.r (by decide) (h ▸ e)
    · exact owns_kept hr.ot fun k e => hoth k fun h => own_ne_of_type hr.ot hr.r (by decide) (h ▸ e)
    · exact owns_kept hr.wd fun k e => hoth k fun h => own_ne_of_type hr.wd hr.r (by decide) (h ▸ e)

set_option maxRecDepth 100000 in
theorem lay_any (w : World) (mb rb : Nat) (vO vB vW vS vR vT : Value) (s : L.RunS) (n : Int) (hrun : RunAt w mb rb vO vB vW vS vR vT s) (hn : inI64 n) :
    Calls Tryz.prog 62 #[.pointer (some ⟨rb, 0, none⟩), .int .i64 n] w fun r w' => r = .returned (.int .i64 (L.commit s 0 0 ⟨[n], [], [], 0⟩).2) ∧
      ∃ v1 v2 v3, RunAt w' mb rb vO vB vW v1 v2 v3 (L.commit s 0 0 ⟨[n], [], [], 0⟩).1 ∧ Mv (Foot mb rb vS vR vT) w w' ∧ Fresh w (Foot mb rb vS vR vT) (Foot mb rb v1 v2 v3) := by
  have hb : Below w.heap.size w (w.alloc (Obj.cells #[Value.int .i64 n] 3)) := (Below.refl _ _).alloc (Nat.le_refl _) _
  have hc := commit_any (w.alloc (Obj.cells #[Value.int .i64 n] 3)) mb rb vO vB vW vS vR vT (.agg #[.slice (some ⟨w.heap.size, 0, none⟩) 1 1, .slice none 0 0, .string ⟨#[]⟩]) s 0 0 w.heap.size ⟨[n], [], [], 0⟩ (hrun.below hb) (fun k hk => hrun.lt k (.inl hk))
    ⟨_, _, rfl, src_new w [Value.int .i64 n] 3 rfl rfl, Src.nil _, own_at (Nat.le_refl _), own_none⟩ (Nat.zero_le _) (Nat.zero_le _) (by simp) (by simp) (by simp) (by simpa using hn) (by simp)
  have Hc := hide hc
  have Hb := hide hb
  have Hrun := hide hrun
  clear hc hb hrun hn
  generalize L.commit s 0 0 ⟨[n], [], [], 0⟩ = out at *
  go_enter Tryz.func62, Tryz.ntmps62
  go_wp2_with fail
  refine (unhide Hc).mono ?_
  rintro e w' ⟨rfl, v1, v2, v3, h1, h2, h3⟩
  have H := hide (And.intro h1 (And.intro h2 h3))
  clear h1 h2 h3
  go_wp2
  go_ret
  refine ⟨rfl, v1, v2, v3, (unhide H).1, ?_, ?_⟩
  · exact (Mv.of_below (unhide Hb) _).trans (Fresh.refl _ _) (unhide H).2.1
  · exact (Fresh.refl _ _).trans (unhide Hb).size (unhide H).2.2
end Go.Proofs.YtgnlokmeohffaaaGreatDoor
/- doPrimitive: a word of the language is done: the walks, over what reach, Plan and commit answer. -/
namespace Go.Proofs.YtgnlokmeohffaaaGreatDoor
open Go.RowKit
attribute [local go_sem ↓] Go.wp_at_zero Go.wp_at_succ


namespace L
def doPrim (s : RunS) (p : Prim) : RunS × Int :=
  if s.S.length < p.takes ∨ s.R.length < p.aside then (s, 6)
  else if (plan p.name (s.S.drop (s.S.length - p.takes)) (s.R.drop (s.R.length - p.aside)) s.S.length).err ≠ 0 then (s, (plan p.name (s.S.drop (s.S.length - p.takes)) (s.R.drop (s.R.length - p.aside)) s.S.length).err)
  else commit s p.takes p.aside (plan p.name (s.S.drop (s.S.length - p.takes)) (s.R.drop (s.R.length - p.aside)) s.S.length)
end L

theorem cell_set3 {w : World} {b b' j' : Nat} {u0 u1 u2 v : Value} (h : w.cell? ⟨b', j', none⟩ = some v) (hne : b' ≠ b) : (((w.setCell ⟨b, 0, none⟩ u0).setCell ⟨b, 1, none⟩ u1).setCell ⟨b, 2, none⟩ u2).cell? ⟨b', j', none⟩ = some v :=
  cell_set_far (cell_set_far (cell_set_far h hne) hne) hne

set_option maxRecDepth 100000 in
theorem reaches_any (w : World) (nm : ByteArray) (t a g : Int) :
    Calls Tryz.prog 84 #[.agg #[.string nm, .int .i64 t, .int .i64 a, .int .i64 g]] w fun r w' => r = .returned (.bool (g == 3)) ∧ Below w.heap.size w w' := by
  go_enter Tryz.func84, Tryz.ntmps84
  go_wp2
  go_ret
  exact ⟨rfl, (Below.refl _ _).alloc (Nat.le_refl _) _⟩

set_option maxRecDepth 100000 in
theorem doPrim_under (w : World) (mb rb n m t a capS capR : Nat) (aS aR : Option Addr) (nm : ByteArray) (g : Int)
    (hr0 : ∀ o, (w.alloc o).cell? ⟨rb, 0, none⟩ = some (.pointer (some ⟨mb, 0, none⟩)))
    (hm0 : ∀ o, (w.alloc o).cell? ⟨mb, 0, none⟩ = some (.slice aS n capS)) (hm1 : ∀ o, (w.alloc o).cell? ⟨mb, 1, none⟩ = some (.slice aR m capR))
    (h : n < t ∨ m < a) :
    Calls Tryz.prog 63 #[.pointer (some ⟨rb, 0, none⟩), .agg #[.string nm, .int .i64 t, .int .i64 a, .int .i64 g]] w fun r w' => r = .returned (.int .i64 6) ∧ Below w.heap.size w w' := by
  go_enter Tryz.func63, Tryz.ntmps63
  go_wp2
  go_region_held3 (fun w' => w'.cell? ⟨rb, 0, none⟩ = some (.pointer (some ⟨mb, 0, none⟩)) ∧ w'.cell? ⟨mb, 0, none⟩ = some (.slice aS n capS) ∧ w'.cell? ⟨mb, 1, none⟩ = some (.slice aR m capR)) (first | exact ⟨hr0 _, hm0 _, hm1 _⟩ | go_keep) (fail)
  go_wp2
  all_goals first
    | (exfalso; omega)
    | (go_ret; exact ⟨rfl, ((Below.refl _ _).alloc (Nat.le_refl _) _).drew⟩)

/-- What Plan answers, with this error. -/
def PlanSays (w : World) (nm : ByteArray) (t a g : Int) (vT vA : Value) (n : Int) (lays aside : List Int) (tells : List UInt8) (E : Int) : Prop :=
  ∀ w1, Below w.heap.size w w1 → Calls Tryz.prog 86 #[.agg #[.string nm, .int .i64 t, .int .i64 a, .int .i64 g], vT, vA, .int .i64 n] w1 fun e w' => ∃ v, e = .returned (.tuple #[v, .int .i64 E]) ∧ EffAt w1.heap.size w' v lays aside tells ∧ Below w1.heap.size w1 w'
/-- What may come behind the slices that doPrimitive takes: reach; an error of Plan; commit. -/
def Tail (w : World) (rb : Nat) (nm : ByteArray) (t a : Nat) (g : Int) (vT vA : Value) (n : Int) (code : Int) (P : World → World → Prop) : Prop :=
  (g = 3 ∧ ∀ W, Below w.heap.size w W → Calls Tryz.prog 85 #[.pointer (some ⟨rb, 0, none⟩), .agg #[.string nm, .int .i64 t, .int .i64 a, .int .i64 g], vT] W fun r w' => r = .returned (.int .i64 code) ∧ P W w') ∨
  ((g == 3) = false ∧ (code != 0) = true ∧ (∃ lays aside tells, PlanSays w nm t a g vT vA n lays aside tells code) ∧ ∀ W, Below w.heap.size w W → P W W) ∨
  ((g == 3) = false ∧ ∃ lays aside tells, PlanSays w nm t a g vT vA n lays aside tells 0 ∧ ∀ W v, Below w.heap.size w W → EffAt w.heap.size W v lays aside tells → Calls Tryz.prog 83 #[.pointer (some ⟨rb, 0, none⟩), .int .i64 t, .int .i64 a, v] W fun r w' => r = .returned (.int .i64 code) ∧ P W w')

end Go.Proofs.YtgnlokmeohffaaaGreatDoor
/- The language in plain terms, of no program: which texts are bold. -/
namespace Go.Proofs.YtgnlokmeohffaaaGreatDoor
namespace L

def boldNames : List (List UInt8) := [[58], [59], [118, 97, 114, 105, 97, 98, 108, 101], [99, 111, 110, 115, 116, 97, 110, 116], [109, 97, 114, 107, 101, 114], [102, 111, 114, 103, 101, 116], [39], [114, 101, 99, 117, 114, 115, 101], [105, 102], [101, 108, 115, 101], [116, 104, 101, 110], [98, 101, 103, 105, 110], [117, 110, 116, 105, 108], [97, 103, 97, 105, 110], [119, 104, 105, 108, 101], [114, 101, 112, 101, 97, 116], [100, 111], [108, 111, 111, 112], [105], [108, 101, 97, 118, 101], [101, 120, 105, 116]]
def isBold (l : List UInt8) : Bool := boldNames.any fun b => l == b
end L
end Go.Proofs.YtgnlokmeohffaaaGreatDoor
/- Numbers as they are written, in plain terms, of no program. -/
namespace Go.Proofs.YtgnlokmeohffaaaGreatDoor
namespace L

def isDigit (c : UInt8) : Bool := decide (48 ≤ c.toNat) && decide (c.toNat ≤ 57)
def digVal (l : List UInt8) : Nat := l.foldl (fun n c => n * 10 + (c.toNat - 48)) 0
/-- The number that a word is, if it is one as it is written. -/
def number (l : List UInt8) : Option Int :=
  if (Lib.trimPrefix l [45]).length = 0 ∨ 18 < (Lib.trimPrefix l [45]).length ∨ (Lib.trimPrefix l [45]).all isDigit = false then none
  else some (if Lib.hasPrefix l [45] then -(digVal (Lib.trimPrefix l [45]) : Int) else digVal (Lib.trimPrefix l [45]))

theorem digVal_snoc (l : List UInt8) (c : UInt8) : digVal (l ++ [c]) = digVal l * 10 + (c.toNat - 48) := by simp [digVal]
theorem digFold_lt : ∀ (l : List UInt8) (n : Nat), l.all isDigit = true → l.foldl (fun n c => n * 10 + (c.toNat - 48)) n < (n + 1) * 10 ^ l.length
  | [], n, _ => by simp
  | c :: l, n, h => by
    simp only [List.all_cons, Bool.and_eq_true, isDigit, decide_eq_true_eq] at h
    have h1 := digFold_lt l (n * 10 + (c.toNat - 48)) h.2
    have h2 : (n * 10 + (c.toNat - 48) + 1) * 10 ^ l.length ≤ ((n + 1) * 10) * 10 ^ l.length := Nat.mul_le_mul_right _ (by omega)
    rw [List.foldl_cons, List.length_cons, Nat.pow_succ, Nat.mul_comm (10 ^ l.length) 10, ← Nat.mul_assoc]
    omega
theorem digVal_lt (l : List UInt8) (h : l.all isDigit = true) : digVal l < 10 ^ l.length := by
  have := digFold_lt l 0 h
  simpa [digVal] using this
theorem pow_le (k : Nat) (h : k ≤ 18) : 10 ^ k ≤ 1000000000000000000 := Nat.le_trans (Nat.pow_le_pow_right (by omega) h) (by decide)
theorem pow_le17 (k : Nat) (h : k ≤ 17) : 10 ^ k ≤ 100000000000000000 := Nat.le_trans (Nat.pow_le_pow_right (by omega) h) (by decide)
end L
end Go.Proofs.YtgnlokmeohffaaaGreatDoor
/- A run that goes on to another one; and what doing a word of a line comes to, in plain terms. -/
namespace Go.Proofs.YtgnlokmeohffaaaGreatDoor
open Go.RowKit

theorem tail_src {w : World} {e g n t cap : Nat} {xs : List Value} (h : w.ownsRow 0 e 1 (.slice (some ⟨g, 0, none⟩) n cap) n xs) (hn : n ≤ cap) :
    Src w (.slice (if cap = n - t then (some ⟨g, 0, none⟩ : Option Addr) else some ⟨g, n - t, none⟩) (n - (n - t)) (cap - (n - t))) (xs.drop (n - t)) := by
  have hl : xs.length = n := by simpa using h.1
  have hc := h.cells (g := g) rfl
  have hlt := (h.lt g rfl).2
  by_cases he : cap = n - t
  · have h0 : xs.drop (n - t) = [] := List.drop_eq_nil_of_le (by omega)
    rw [if_pos he, h0]
    exact .inr ⟨g, 0, _, by rw [show n - (n - t) = 0 by omega]; rfl, hlt, fun j u hu => by simp at hu⟩
  · rw [if_neg he]
    refine .inr ⟨g, n - t, _, by rw [List.length_drop, hl], hlt, fun j u hu => ?_⟩
    rw [List.getElem?_drop] at hu
    have := hc _ u hu
    rwa [add_lit, Nat.zero_add] at this

/-- A run goes on to another one. -/
def Goes (mb rb : Nat) (vO vB vW vS vR vT : Value) (s' : L.RunS) (w w' : World) : Prop :=
  ∃ v1 v2 v3, RunAt w' mb rb vO vB vW v1 v2 v3 s' ∧ Mv (Foot mb rb vS vR vT) w w' ∧ Fresh w (Foot mb rb vS vR vT) (Foot mb rb v1 v2 v3)

theorem Goes.stay {w w' : World} {mb rb : Nat} {vO vB vW vS vR vT : Value} {s : L.RunS} (h : RunAt w mb rb vO vB vW vS vR vT s) (hb : Below w.heap.size w w') : Goes mb rb vO vB vW vS vR vT s w w' :=
  ⟨_, _, _, h.below hb, Mv.of_below hb _, Fresh.refl _ _⟩

theorem Goes.after {w W w' : World} {mb rb : Nat} {vO vB vW vS vR vT : Value} {s' : L.RunS} (hb : Below w.heap.size w W) (h : Goes mb rb vO vB vW vS vR vT s' W w') : Goes mb rb vO vB vW vS vR vT s' w w' := by
  obtain ⟨v1, v2, v3, h1, h2, h3⟩ := h
  exact ⟨v1, v2, v3, h1, (Mv.of_below hb _).trans (Fresh.refl _ _) h2, (Fresh.refl _ _).trans hb.size h3⟩

theorem owns_cases {w : World} {e n : Nat} {v : Value} {xs : List Value} (h : w.ownsRow 0 e 1 v n xs) : (v = .slice none 0 0 ∧ n = 0 ∧ xs = []) ∨ ∃ g cap, v = .slice (some ⟨g, 0, none⟩) n cap ∧ n ≤ cap := by
  have hl := h.1
  rcases h.2 with ⟨h1, h2⟩ | ⟨g, cap, _, h1, _, _, h2, _⟩
  · exact .inl ⟨h1, h2, List.length_eq_zero_iff.1 (by omega)⟩
  · exact .inr ⟨g, cap, h1, h2⟩

theorem mem_getD {T : List Int} (h : ∀ x ∈ T, inI64 x) (k : Nat) : inI64 (T.getD k 0) := by
  rw [List.getD_eq_getElem?_getD]
  cases hk : T[k]? with
  | none => exact ⟨by simp, by simp⟩
  | some x => exact h x (List.mem_of_getElem? hk)

namespace L
def doWord (s : RunS) (l : List UInt8) : RunS × Int :=
  match find l with
  | some p => doPrim s p
  | none => match number l with
    | some n => commit s 0 0 ⟨[n], [], [], 0⟩
    | none => (s, 2)
def stepPlain (s : RunS) (l : List UInt8) : RunS × Int := if (countStep s).2 ≠ 0 then countStep s else doWord (countStep s).1 l

/-- What doing a word leaves alone. -/
def Same (s s' : RunS) : Prop := s'.words = s.words ∧ s'.pos = s.pos ∧ s'.steps = s.steps ∧ s'.depth = s.depth
theorem commit_same (s : RunS) (t a : Nat) (e : Eff) : Same s (commit s t a e).1 := by
  unfold commit
  split
  · exact ⟨rfl, rfl, rfl, rfl⟩
  · split <;> exact ⟨rfl, rfl, rfl, rfl⟩
theorem doPrim_same (s : RunS) (p : Prim) : Same s (doPrim s p).1 := by
  unfold doPrim
  split
  · exact ⟨rfl, rfl, rfl, rfl⟩
  · split
    · exact ⟨rfl, rfl, rfl, rfl⟩
    · exact commit_same _ _ _ _
theorem doWord_same (s : RunS) (l : List UInt8) : Same s (doWord s l).1 := by
  unfold doWord
  split
  · exact doPrim_same _ _
  · split
    · exact commit_same _ _ _ _
    · exact ⟨rfl, rfl, rfl, rfl⟩
theorem number_in {l : List UInt8} {n : Int} (h : number l = some n) : inI64 n := by
  unfold number at h
  split at h
  · cases h
  · rename_i hc
    have hd : (Lib.trimPrefix l [45]).all isDigit = true := by
      cases hh : (Lib.trimPrefix l [45]).all isDigit with
      | true => rfl
      | false => exact (hc (.inr (.inr hh))).elim
    have h1 := digVal_lt _ hd
    have h2 := pow_le (Lib.trimPrefix l [45]).length (by omega)
    injection h with h
    unfold inI64
    split at h <;> omega
end L

theorem tab_next {F : Nat → Prop} {w w' : World} (h : TabOk w) (hF : ¬ F 3) (hm : Mv F w w') : TabOk w' := tabIs_of_block h (hm.block _ (tab_lt h) hF)
theorem foot_next {F F' : Nat → Prop} {w : World} (h : TabOk w) (hF : ¬ F 3) (hf : Fresh w F F') : ¬ F' 3 := fun h' => by
  rcases hf _ h' with x | x
  · exact hF x
  · have := tab_lt h
    omega

theorem Goes.from {w W w' : World} {mb rb : Nat} {vO vB vW vS vR vT : Value} {s' : L.RunS} (hm : Mv (Foot mb rb vS vR vT) w W) (h : Goes mb rb vO vB vW vS vR vT s' W w') : Goes mb rb vO vB vW vS vR vT s' w w' := by
  obtain ⟨v1, v2, v3, h1, h2, h3⟩ := h
  exact ⟨v1, v2, v3, h1, hm.trans (Fresh.refl _ _) h2, (Fresh.refl _ _).trans hm.size h3⟩

/-- The cells of a run that step reads. -/
theorem RunAt.reads {w : World} {mb rb gW capW : Nat} {vO vB vS vR vT : Value} {s : L.RunS} {l : List UInt8} (h : RunAt w mb rb vO vB (.slice (some ⟨gW, 0, none⟩) s.words.length capW) vS vR vT s) (hl : s.words[s.pos]? = some l) :
    w.cell? ⟨rb, 0, none⟩ = some (.pointer (some ⟨mb, 0, none⟩)) ∧ w.cell? ⟨rb, 1, none⟩ = some (.slice (some ⟨gW, 0, none⟩) s.words.length capW) ∧ w.cell? ⟨rb, 2, none⟩ = some (.int .i64 s.pos) ∧ w.cell? ⟨gW, s.pos, none⟩ = some (.string ⟨l.toArray⟩) := by
  refine ⟨cell_of_block h.r rfl, cell_of_block h.r rfl, cell_of_block h.r rfl, ?_⟩
  have hc := h.wd.cells (g := gW) rfl s.pos (wordCell l) (by rw [List.getElem?_map, hl]; rfl)
  rwa [add_lit, Nat.zero_add] at hc

end Go.Proofs.YtgnlokmeohffaaaGreatDoor
/- doPrimitive: a word of the language is done: the stacks that there are (R3a). -/
namespace Go.Proofs.YtgnlokmeohffaaaGreatDoor
open Go.RowKit
attribute [local go_sem ↓] Go.wp_at_zero Go.wp_at_succ

set_option maxRecDepth 100000 in
set_option maxHeartbeats 1600000 in
theorem doPrim_nn (w : World) (mb rb n t capS m a capR : Nat) (nm : ByteArray) (g : Int) (code : Int) (P : World → World → Prop)
    (hr0 : ∀ o, (w.alloc o).cell? ⟨rb, 0, none⟩ = some (.pointer (some ⟨mb, 0, none⟩)))
    (hm0 : ∀ o, (w.alloc o).cell? ⟨mb, 0, none⟩ = some (.slice none n capS)) (hm1 : ∀ o, (w.alloc o).cell? ⟨mb, 1, none⟩ = some (.slice none m capR)) (hn : n ≤ 16) (ht : t ≤ n) (hcS : n ≤ capS) (hm : m ≤ 16) (ha : a ≤ m) (hcR : m ≤ capR)
    (HQ : Hid (Tail w rb nm t a g (.slice none (n - (n - t)) (capS - (n - t))) (.slice none (m - (m - a)) (capR - (m - a))) (n : Int) code P)) :
    Calls Tryz.prog 63 #[.pointer (some ⟨rb, 0, none⟩), .agg #[Value.string nm, Value.int .i64 t, Value.int .i64 a, Value.int .i64 g]] w fun r w' => r = .returned (.int .i64 code) ∧ ∃ W, Below w.heap.size w W ∧ P W w' := by
  have i0 : IntKind.i64.wrap ((n : Int) - (t : Int)) = (n : Int) - (t : Int) := by rw [IntKind.wrap_i64]; omega
  have i1 : (0 : Int) ≤ (n : Int) - (t : Int) := by omega
  have i2 : (n : Int) - (t : Int) ≤ (n : Int) := by omega
  have j1 : (n : Int) ≤ capS := by omega
  have i9 : IntKind.i64.wrap ((m : Int) - (a : Int)) = (m : Int) - (a : Int) := by rw [IntKind.wrap_i64]; omega
  have i3 : (0 : Int) ≤ (m : Int) - (a : Int) := by omega
  have i4 : (m : Int) - (a : Int) ≤ (m : Int) := by omega
  have j2 : (m : Int) ≤ capR := by omega
  go_enter Tryz.func63, Tryz.ntmps63
  go_wp2
  go_region_held3 (fun w' => w'.cell? ⟨rb, 0, none⟩ = some (.pointer (some ⟨mb, 0, none⟩)) ∧ w'.cell? ⟨mb, 0, none⟩ = some (.slice none n capS) ∧ w'.cell? ⟨mb, 1, none⟩ = some (.slice none m capR)) (first | exact ⟨hr0 _, hm0 _, hm1 _⟩ | go_keep) (fail)
  go_wp2
  have hb1 : Below w.heap.size w (w.alloc (Obj.cells #[Value.string nm, Value.int .i64 t, Value.int .i64 a, Value.int .i64 g] 120)).drew := ((Below.refl _ _).alloc (Nat.le_refl _) _).drew
  have hz1 : w.heap.size < (w.alloc (Obj.cells #[Value.string nm, Value.int .i64 t, Value.int .i64 a, Value.int .i64 g] 120)).drew.heap.size := by simp
  have c0 : (w.alloc (Obj.cells #[Value.string nm, Value.int .i64 t, Value.int .i64 a, Value.int .i64 g] 120)).drew.cell? ⟨w.heap.size, 0, none⟩ = some (.string nm) := cell_of_block (heap_alloc_new w _) rfl
  have c1 : (w.alloc (Obj.cells #[Value.string nm, Value.int .i64 t, Value.int .i64 a, Value.int .i64 g] 120)).drew.cell? ⟨w.heap.size, 1, none⟩ = some (.int .i64 t) := cell_of_block (heap_alloc_new w _) rfl
  have c2 : (w.alloc (Obj.cells #[Value.string nm, Value.int .i64 t, Value.int .i64 a, Value.int .i64 g] 120)).drew.cell? ⟨w.heap.size, 2, none⟩ = some (.int .i64 a) := cell_of_block (heap_alloc_new w _) rfl
  have c3 : (w.alloc (Obj.cells #[Value.string nm, Value.int .i64 t, Value.int .i64 a, Value.int .i64 g] 120)).drew.cell? ⟨w.heap.size, 3, none⟩ = some (.int .i64 g) := cell_of_block (heap_alloc_new w _) rfl
  generalize (w.alloc (Obj.cells #[Value.string nm, Value.int .i64 t, Value.int .i64 a, Value.int .i64 g] 120)).drew = w1 at *
  clear hr0 hm0 hm1
  go_region_held3 (fun w' => w'.cell? ⟨w.heap.size, 0, none⟩ = some (.string nm) ∧ w'.cell? ⟨w.heap.size, 1, none⟩ = some (.int .i64 t) ∧ w'.cell? ⟨w.heap.size, 2, none⟩ = some (.int .i64 a) ∧ w'.cell? ⟨w.heap.size, 3, none⟩ = some (.int .i64 g)) (first | exact ⟨c0, c1, c2, c3⟩ | go_keep) (fail)
  go_wp2_with fail
  refine (reaches_any _ nm t a g).mono ?_
  rintro e w2 ⟨rfl, hb2⟩
  have hz2 := hb2.size
  have c0 := ((bcell hb2).1 w.heap.size 0 hz1).trans c0
  have c1 := ((bcell hb2).1 w.heap.size 1 hz1).trans c1
  have c2 := ((bcell hb2).1 w.heap.size 2 hz1).trans c2
  have c3 := ((bcell hb2).1 w.heap.size 3 hz1).trans c3
  have hb2 := hb1.drew.trans (hb2.mono (Nat.le_of_lt hz1))
  have hz2 : w.heap.size < w2.heap.size := Nat.lt_of_lt_of_le hz1 hz2
  clear hb1 hz1
  rcases unhide HQ with ⟨rfl, hreach⟩ | ⟨hg, hc, ⟨lays, aside, tells, hplan⟩, hP⟩ | ⟨hg, lays, aside, tells, hplan, hcom⟩
  · have H := hide (hreach w2 hb2)
    have HB := hide hb2
    clear hreach hb2
    go_wp2_with fail
    refine (unhide H).mono ?_
    rintro e w3 ⟨rfl, hP⟩
    have HP := hide hP
    clear hP
    go_wp2
    go_ret
    exact ⟨rfl, w2, unhide HB, unhide HP⟩
  · have HPP := hide hP
    clear hP
    rw [hg]
    have H := hide (hplan w2 hb2)
    have HB := hide hb2
    clear hplan hb2 hg
    go_wp2_with fail
    refine (unhide H).mono ?_
    rintro e w3 ⟨v, rfl, hE, hb3⟩
    have hz3 := hb3.size
    have c0 := ((bcell hb3).1 w.heap.size 0 hz2).trans c0
    have c1 := ((bcell hb3).1 w.heap.size 1 hz2).trans c1
    have c2 := ((bcell hb3).1 w.heap.size 2 hz2).trans c2
    have c3 := ((bcell hb3).1 w.heap.size 3 hz2).trans c3
    have hb3 := (unhide HB).trans (hb3.mono (Nat.le_of_lt hz2))
    obtain ⟨vL, vA, rfl, sL, sA, oL, oA⟩ := hE
    obtain ⟨aL, cL, eL⟩ := sL.len
    obtain ⟨aA, cA, eA⟩ := sA.len
    subst eL eA
    simp only [List.length_map] at sL sA oL oA ⊢
    have hb4 : Below w.heap.size w (w3.alloc (Obj.cells #[Value.slice aL lays.length cL, Value.slice aA aside.length cA, Value.string ⟨tells.toArray⟩] 157)) := hb3.alloc (Nat.le_trans (Nat.le_of_lt hz2) hz3) _
    have HB4 := hide hb4
    clear hb4 hb3 sL sA oL oA
    go_wp2
    go_ret
    exact ⟨rfl, _, unhide HB4, unhide HPP _ (unhide HB4)⟩
  · have HC := hide hcom
    clear hcom
    rw [hg]
    have H := hide (hplan w2 hb2)
    have HB := hide hb2
    clear hplan hb2 hg
    go_wp2_with fail
    refine (unhide H).mono ?_
    rintro e w3 ⟨v, rfl, hE, hb3⟩
    have hz3 := hb3.size
    have c0 := ((bcell hb3).1 w.heap.size 0 hz2).trans c0
    have c1 := ((bcell hb3).1 w.heap.size 1 hz2).trans c1
    have c2 := ((bcell hb3).1 w.heap.size 2 hz2).trans c2
    have c3 := ((bcell hb3).1 w.heap.size 3 hz2).trans c3
    have hb3 := (unhide HB).trans (hb3.mono (Nat.le_of_lt hz2))
    obtain ⟨vL, vA, rfl, sL, sA, oL, oA⟩ := hE
    obtain ⟨aL, cL, eL⟩ := sL.len
    obtain ⟨aA, cA, eA⟩ := sA.len
    subst eL eA
    simp only [List.length_map] at sL sA oL oA ⊢
    have hb4 : Below w.heap.size w (w3.alloc (Obj.cells #[Value.slice aL lays.length cL, Value.slice aA aside.length cA, Value.string ⟨tells.toArray⟩] 157)) := hb3.alloc (Nat.le_trans (Nat.le_of_lt hz2) hz3) _
    have d1 := cell_alloc c1 (Obj.cells #[Value.slice aL lays.length cL, Value.slice aA aside.length cA, Value.string ⟨tells.toArray⟩] 157)
    have d2 := cell_alloc c2 (Obj.cells #[Value.slice aL lays.length cL, Value.slice aA aside.length cA, Value.string ⟨tells.toArray⟩] 157)
    have e0 : (w3.alloc (Obj.cells #[Value.slice aL lays.length cL, Value.slice aA aside.length cA, Value.string ⟨tells.toArray⟩] 157)).cell? ⟨w3.heap.size, 0, none⟩ = some (.slice aL lays.length cL) := cell_of_block (heap_alloc_new w3 _) rfl
    have e1 : (w3.alloc (Obj.cells #[Value.slice aL lays.length cL, Value.slice aA aside.length cA, Value.string ⟨tells.toArray⟩] 157)).cell? ⟨w3.heap.size, 1, none⟩ = some (.slice aA aside.length cA) := cell_of_block (heap_alloc_new w3 _) rfl
    have e2 : (w3.alloc (Obj.cells #[Value.slice aL lays.length cL, Value.slice aA aside.length cA, Value.string ⟨tells.toArray⟩] 157)).cell? ⟨w3.heap.size, 2, none⟩ = some (.string ⟨tells.toArray⟩) := cell_of_block (heap_alloc_new w3 _) rfl
    have ef : EffAt w.heap.size (w3.alloc (Obj.cells #[Value.slice aL lays.length cL, Value.slice aA aside.length cA, Value.string ⟨tells.toArray⟩] 157)) (.agg #[.slice aL lays.length cL, .slice aA aside.length cA, .string ⟨tells.toArray⟩]) lays aside tells := ⟨_, _, rfl, sL.alloc _, sA.alloc _, fun k e => Nat.le_trans (Nat.le_of_lt hz2) (oL k e), fun k e => Nat.le_trans (Nat.le_of_lt hz2) (oA k e)⟩
    have H4 := hide (unhide HC _ _ hb4 ef)
    have HB4 := hide hb4
    clear hb4 ef hb3 sL sA oL oA c0 c1 c2 c3
    go_wp2_with fail
    refine (unhide H4).mono ?_
    rintro e w4 ⟨rfl, hP⟩
    have HPP := hide hP
    clear hP
    go_wp2
    go_ret
    exact ⟨rfl, _, unhide HB4, unhide HPP⟩

set_option maxRecDepth 100000 in
set_option maxHeartbeats 1600000 in
theorem doPrim_ns (w : World) (mb rb n t capS m a capR gR : Nat) (nm : ByteArray) (g : Int) (code : Int) (P : World → World → Prop)
    (hr0 : ∀ o, (w.alloc o).cell? ⟨rb, 0, none⟩ = some (.pointer (some ⟨mb, 0, none⟩)))
    (hm0 : ∀ o, (w.alloc o).cell? ⟨mb, 0, none⟩ = some (.slice none n capS)) (hm1 : ∀ o, (w.alloc o).cell? ⟨mb, 1, none⟩ = some (.slice (some ⟨gR, 0, none⟩) m capR)) (hn : n ≤ 16) (ht : t ≤ n) (hcS : n ≤ capS) (xR : Option Addr) (hxR : (if capR = m - a then (some ⟨gR, 0, none⟩ : Option Addr) else some ⟨gR, m - a, none⟩) = xR) (hm : m ≤ 16) (ha : a ≤ m) (hcR : m ≤ capR)
    (HQ : Hid (Tail w rb nm t a g (.slice none (n - (n - t)) (capS - (n - t))) (.slice xR (m - (m - a)) (capR - (m - a))) (n : Int) code P)) :
    Calls Tryz.prog 63 #[.pointer (some ⟨rb, 0, none⟩), .agg #[Value.string nm, Value.int .i64 t, Value.int .i64 a, Value.int .i64 g]] w fun r w' => r = .returned (.int .i64 code) ∧ ∃ W, Below w.heap.size w W ∧ P W w' := by
  have i0 : IntKind.i64.wrap ((n : Int) - (t : Int)) = (n : Int) - (t : Int) := by rw [IntKind.wrap_i64]; omega
  have i1 : (0 : Int) ≤ (n : Int) - (t : Int) := by omega
  have i2 : (n : Int) - (t : Int) ≤ (n : Int) := by omega
  have j1 : (n : Int) ≤ capS := by omega
  have i9 : IntKind.i64.wrap ((m : Int) - (a : Int)) = (m : Int) - (a : Int) := by rw [IntKind.wrap_i64]; omega
  have i3 : (0 : Int) ≤ (m : Int) - (a : Int) := by omega
  have i4 : (m : Int) - (a : Int) ≤ (m : Int) := by omega
  have j2 : (m : Int) ≤ capR := by omega
  go_enter Tryz.func63, Tryz.ntmps63
  go_wp2
  go_region_held3 (fun w' => w'.cell? ⟨rb, 0, none⟩ = some (.pointer (some ⟨mb, 0, none⟩)) ∧ w'.cell? ⟨mb, 0, none⟩ = some (.slice none n capS) ∧ w'.cell? ⟨mb, 1, none⟩ = some (.slice (some ⟨gR, 0, none⟩) m capR)) (first | exact ⟨hr0 _, hm0 _, hm1 _⟩ | go_keep) (fail)
  go_wp2
  have hb1 : Below w.heap.size w (w.alloc (Obj.cells #[Value.string nm, Value.int .i64 t, Value.int .i64 a, Value.int .i64 g] 120)).drew := ((Below.refl _ _).alloc (Nat.le_refl _) _).drew
  have hz1 : w.heap.size < (w.alloc (Obj.cells #[Value.string nm, Value.int .i64 t, Value.int .i64 a, Value.int .i64 g] 120)).drew.heap.size := by simp
  have c0 : (w.alloc (Obj.cells #[Value.string nm, Value.int .i64 t, Value.int .i64 a, Value.int .i64 g] 120)).drew.cell? ⟨w.heap.size, 0, none⟩ = some (.string nm) := cell_of_block (heap_alloc_new w _) rfl
  have c1 : (w.alloc (Obj.cells #[Value.string nm, Value.int .i64 t, Value.int .i64 a, Value.int .i64 g] 120)).drew.cell? ⟨w.heap.size, 1, none⟩ = some (.int .i64 t) := cell_of_block (heap_alloc_new w _) rfl
  have c2 : (w.alloc (Obj.cells #[Value.string nm, Value.int .i64 t, Value.int .i64 a, Value.int .i64 g] 120)).drew.cell? ⟨w.heap.size, 2, none⟩ = some (.int .i64 a) := cell_of_block (heap_alloc_new w _) rfl
  have c3 : (w.alloc (Obj.cells #[Value.string nm, Value.int .i64 t, Value.int .i64 a, Value.int .i64 g] 120)).drew.cell? ⟨w.heap.size, 3, none⟩ = some (.int .i64 g) := cell_of_block (heap_alloc_new w _) rfl
  generalize (w.alloc (Obj.cells #[Value.string nm, Value.int .i64 t, Value.int .i64 a, Value.int .i64 g] 120)).drew = w1 at *
  clear hr0 hm0 hm1
  go_region_held3 (fun w' => w'.cell? ⟨w.heap.size, 0, none⟩ = some (.string nm) ∧ w'.cell? ⟨w.heap.size, 1, none⟩ = some (.int .i64 t) ∧ w'.cell? ⟨w.heap.size, 2, none⟩ = some (.int .i64 a) ∧ w'.cell? ⟨w.heap.size, 3, none⟩ = some (.int .i64 g)) (first | exact ⟨c0, c1, c2, c3⟩ | go_keep) (fail)
  go_wp2_with fail
  refine (reaches_any _ nm t a g).mono ?_
  rintro e w2 ⟨rfl, hb2⟩
  have hz2 := hb2.size
  have c0 := ((bcell hb2).1 w.heap.size 0 hz1).trans c0
  have c1 := ((bcell hb2).1 w.heap.size 1 hz1).trans c1
  have c2 := ((bcell hb2).1 w.heap.size 2 hz1).trans c2
  have c3 := ((bcell hb2).1 w.heap.size 3 hz1).trans c3
  have hb2 := hb1.drew.trans (hb2.mono (Nat.le_of_lt hz1))
  have hz2 : w.heap.size < w2.heap.size := Nat.lt_of_lt_of_le hz1 hz2
  clear hb1 hz1
  rcases unhide HQ with ⟨rfl, hreach⟩ | ⟨hg, hc, ⟨lays, aside, tells, hplan⟩, hP⟩ | ⟨hg, lays, aside, tells, hplan, hcom⟩
  · have H := hide (hreach w2 hb2)
    have HB := hide hb2
    clear hreach hb2
    go_wp2_with fail
    refine (unhide H).mono ?_
    rintro e w3 ⟨rfl, hP⟩
    have HP := hide hP
    clear hP
    go_wp2
    go_ret
    exact ⟨rfl, w2, unhide HB, unhide HP⟩
  · have HPP := hide hP
    clear hP
    rw [hg]
    have H := hide (hplan w2 hb2)
    have HB := hide hb2
    clear hplan hb2 hg
    go_wp2_with fail
    refine (unhide H).mono ?_
    rintro e w3 ⟨v, rfl, hE, hb3⟩
    have hz3 := hb3.size
    have c0 := ((bcell hb3).1 w.heap.size 0 hz2).trans c0
    have c1 := ((bcell hb3).1 w.heap.size 1 hz2).trans c1
    have c2 := ((bcell hb3).1 w.heap.size 2 hz2).trans c2
    have c3 := ((bcell hb3).1 w.heap.size 3 hz2).trans c3
    have hb3 := (unhide HB).trans (hb3.mono (Nat.le_of_lt hz2))
    obtain ⟨vL, vA, rfl, sL, sA, oL, oA⟩ := hE
    obtain ⟨aL, cL, eL⟩ := sL.len
    obtain ⟨aA, cA, eA⟩ := sA.len
    subst eL eA
    simp only [List.length_map] at sL sA oL oA ⊢
    have hb4 : Below w.heap.size w (w3.alloc (Obj.cells #[Value.slice aL lays.length cL, Value.slice aA aside.length cA, Value.string ⟨tells.toArray⟩] 157)) := hb3.alloc (Nat.le_trans (Nat.le_of_lt hz2) hz3) _
    have HB4 := hide hb4
    clear hb4 hb3 sL sA oL oA
    go_wp2
    go_ret
    exact ⟨rfl, _, unhide HB4, unhide HPP _ (unhide HB4)⟩
  · have HC := hide hcom
    clear hcom
    rw [hg]
    have H := hide (hplan w2 hb2)
    have HB := hide hb2
    clear hplan hb2 hg
    go_wp2_with fail
    refine (unhide H).mono ?_
    rintro e w3 ⟨v, rfl, hE, hb3⟩
    have hz3 := hb3.size
    have c0 := ((bcell hb3).1 w.heap.size 0 hz2).trans c0
    have c1 := ((bcell hb3).1 w.heap.size 1 hz2).trans c1
    have c2 := ((bcell hb3).1 w.heap.size 2 hz2).trans c2
    have c3 := ((bcell hb3).1 w.heap.size 3 hz2).trans c3
    have hb3 := (unhide HB).trans (hb3.mono (Nat.le_of_lt hz2))
    obtain ⟨vL, vA, rfl, sL, sA, oL, oA⟩ := hE
    obtain ⟨aL, cL, eL⟩ := sL.len
    obtain ⟨aA, cA, eA⟩ := sA.len
    subst eL eA
    simp only [List.length_map] at sL sA oL oA ⊢
    have hb4 : Below w.heap.size w (w3.alloc (Obj.cells #[Value.slice aL lays.length cL, Value.slice aA aside.length cA, Value.string ⟨tells.toArray⟩] 157)) := hb3.alloc (Nat.le_trans (Nat.le_of_lt hz2) hz3) _
    have d1 := cell_alloc c1 (Obj.cells #[Value.slice aL lays.length cL, Value.slice aA aside.length cA, Value.string ⟨tells.toArray⟩] 157)
    have d2 := cell_alloc c2 (Obj.cells #[Value.slice aL lays.length cL, Value.slice aA aside.length cA, Value.string ⟨tells.toArray⟩] 157)
    have e0 : (w3.alloc (Obj.cells #[Value.slice aL lays.length cL, Value.slice aA aside.length cA, Value.string ⟨tells.toArray⟩] 157)).cell? ⟨w3.heap.size, 0, none⟩ = some (.slice aL lays.length cL) := cell_of_block (heap_alloc_new w3 _) rfl
    have e1 : (w3.alloc (Obj.cells #[Value.slice aL lays.length cL, Value.slice aA aside.length cA, Value.string ⟨tells.toArray⟩] 157)).cell? ⟨w3.heap.size, 1, none⟩ = some (.slice aA aside.length cA) := cell_of_block (heap_alloc_new w3 _) rfl
    have e2 : (w3.alloc (Obj.cells #[Value.slice aL lays.length cL, Value.slice aA aside.length cA, Value.string ⟨tells.toArray⟩] 157)).cell? ⟨w3.heap.size, 2, none⟩ = some (.string ⟨tells.toArray⟩) := cell_of_block (heap_alloc_new w3 _) rfl
    have ef : EffAt w.heap.size (w3.alloc (Obj.cells #[Value.slice aL lays.length cL, Value.slice aA aside.length cA, Value.string ⟨tells.toArray⟩] 157)) (.agg #[.slice aL lays.length cL, .slice aA aside.length cA, .string ⟨tells.toArray⟩]) lays aside tells := ⟨_, _, rfl, sL.alloc _, sA.alloc _, fun k e => Nat.le_trans (Nat.le_of_lt hz2) (oL k e), fun k e => Nat.le_trans (Nat.le_of_lt hz2) (oA k e)⟩
    have H4 := hide (unhide HC _ _ hb4 ef)
    have HB4 := hide hb4
    clear hb4 ef hb3 sL sA oL oA c0 c1 c2 c3
    go_wp2_with fail
    refine (unhide H4).mono ?_
    rintro e w4 ⟨rfl, hP⟩
    have HPP := hide hP
    clear hP
    go_wp2
    go_ret
    exact ⟨rfl, _, unhide HB4, unhide HPP⟩

end Go.Proofs.YtgnlokmeohffaaaGreatDoor
/- doPrimitive: a word of the language is done: the stacks that there are (R3b). -/
namespace Go.Proofs.YtgnlokmeohffaaaGreatDoor
open Go.RowKit
attribute [local go_sem ↓] Go.wp_at_zero Go.wp_at_succ

set_option maxRecDepth 100000 in
set_option maxHeartbeats 1600000 in
theorem doPrim_sn (w : World) (mb rb n t capS gS m a capR : Nat) (nm : ByteArray) (g : Int) (code : Int) (P : World → World → Prop)
    (hr0 : ∀ o, (w.alloc o).cell? ⟨rb, 0, none⟩ = some (.pointer (some ⟨mb, 0, none⟩)))
    (hm0 : ∀ o, (w.alloc o).cell? ⟨mb, 0, none⟩ = some (.slice (some ⟨gS, 0, none⟩) n capS)) (hm1 : ∀ o, (w.alloc o).cell? ⟨mb, 1, none⟩ = some (.slice none m capR)) (xS : Option Addr) (hxS : (if capS = n - t then (some ⟨gS, 0, none⟩ : Option Addr) else some ⟨gS, n - t, none⟩) = xS) (hn : n ≤ 16) (ht : t ≤ n) (hcS : n ≤ capS) (hm : m ≤ 16) (ha : a ≤ m) (hcR : m ≤ capR)
    (HQ : Hid (Tail w rb nm t a g (.slice xS (n - (n - t)) (capS - (n - t))) (.slice none (m - (m - a)) (capR - (m - a))) (n : Int) code P)) :
    Calls Tryz.prog 63 #[.pointer (some ⟨rb, 0, none⟩), .agg #[Value.string nm, Value.int .i64 t, Value.int .i64 a, Value.int .i64 g]] w fun r w' => r = .returned (.int .i64 code) ∧ ∃ W, Below w.heap.size w W ∧ P W w' := by
  have i0 : IntKind.i64.wrap ((n : Int) - (t : Int)) = (n : Int) - (t : Int) := by rw [IntKind.wrap_i64]; omega
  have i1 : (0 : Int) ≤ (n : Int) - (t : Int) := by omega
  have i2 : (n : Int) - (t : Int) ≤ (n : Int) := by omega
  have j1 : (n : Int) ≤ capS := by omega
  have i9 : IntKind.i64.wrap ((m : Int) - (a : Int)) = (m : Int) - (a : Int) := by rw [IntKind.wrap_i64]; omega
  have i3 : (0 : Int) ≤ (m : Int) - (a : Int) := by omega
  have i4 : (m : Int) - (a : Int) ≤ (m : Int) := by omega
  have j2 : (m : Int) ≤ capR := by omega
  go_enter Tryz.func63, Tryz.ntmps63
  go_wp2
  go_region_held3 (fun w' => w'.cell? ⟨rb, 0, none⟩ = some (.pointer (some ⟨mb, 0, none⟩)) ∧ w'.cell? ⟨mb, 0, none⟩ = some (.slice (some ⟨gS, 0, none⟩) n capS) ∧ w'.cell? ⟨mb, 1, none⟩ = some (.slice none m capR)) (first | exact ⟨hr0 _, hm0 _, hm1 _⟩ | go_keep) (fail)
  go_wp2
  have hb1 : Below w.heap.size w (w.alloc (Obj.cells #[Value.string nm, Value.int .i64 t, Value.int .i64 a, Value.int .i64 g] 120)).drew := ((Below.refl _ _).alloc (Nat.le_refl _) _).drew
  have hz1 : w.heap.size < (w.alloc (Obj.cells #[Value.string nm, Value.int .i64 t, Value.int .i64 a, Value.int .i64 g] 120)).drew.heap.size := by simp
  have c0 : (w.alloc (Obj.cells #[Value.string nm, Value.int .i64 t, Value.int .i64 a, Value.int .i64 g] 120)).drew.cell? ⟨w.heap.size, 0, none⟩ = some (.string nm) := cell_of_block (heap_alloc_new w _) rfl
  have c1 : (w.alloc (Obj.cells #[Value.string nm, Value.int .i64 t, Value.int .i64 a, Value.int .i64 g] 120)).drew.cell? ⟨w.heap.size, 1, none⟩ = some (.int .i64 t) := cell_of_block (heap_alloc_new w _) rfl
  have c2 : (w.alloc (Obj.cells #[Value.string nm, Value.int .i64 t, Value.int .i64 a, Value.int .i64 g] 120)).drew.cell? ⟨w.heap.size, 2, none⟩ = some (.int .i64 a) := cell_of_block (heap_alloc_new w _) rfl
  have c3 : (w.alloc (Obj.cells #[Value.string nm, Value.int .i64 t, Value.int .i64 a, Value.int .i64 g] 120)).drew.cell? ⟨w.heap.size, 3, none⟩ = some (.int .i64 g) := cell_of_block (heap_alloc_new w _) rfl
  generalize (w.alloc (Obj.cells #[Value.string nm, Value.int .i64 t, Value.int .i64 a, Value.int .i64 g] 120)).drew = w1 at *
  clear hr0 hm0 hm1
  go_region_held3 (fun w' => w'.cell? ⟨w.heap.size, 0, none⟩ = some (.string nm) ∧ w'.cell? ⟨w.heap.size, 1, none⟩ = some (.int .i64 t) ∧ w'.cell? ⟨w.heap.size, 2, none⟩ = some (.int .i64 a) ∧ w'.cell? ⟨w.heap.size, 3, none⟩ = some (.int .i64 g)) (first | exact ⟨c0, c1, c2, c3⟩ | go_keep) (fail)
  go_wp2_with fail
  refine (reaches_any _ nm t a g).mono ?_
  rintro e w2 ⟨rfl, hb2⟩
  have hz2 := hb2.size
  have c0 := ((bcell hb2).1 w.heap.size 0 hz1).trans c0
  have c1 := ((bcell hb2).1 w.heap.size 1 hz1).trans c1
  have c2 := ((bcell hb2).1 w.heap.size 2 hz1).trans c2
  have c3 := ((bcell hb2).1 w.heap.size 3 hz1).trans c3
  have hb2 := hb1.drew.trans (hb2.mono (Nat.le_of_lt hz1))
  have hz2 : w.heap.size < w2.heap.size := Nat.lt_of_lt_of_le hz1 hz2
  clear hb1 hz1
  rcases unhide HQ with ⟨rfl, hreach⟩ | ⟨hg, hc, ⟨lays, aside, tells, hplan⟩, hP⟩ | ⟨hg, lays, aside, tells, hplan, hcom⟩
  · have H := hide (hreach w2 hb2)
    have HB := hide hb2
    clear hreach hb2
    go_wp2_with fail
    refine (unhide H).mono ?_
    rintro e w3 ⟨rfl, hP⟩
    have HP := hide hP
    clear hP
    go_wp2
    go_ret
    exact ⟨rfl, w2, unhide HB, unhide HP⟩
  · have HPP := hide hP
    clear hP
    rw [hg]
    have H := hide (hplan w2 hb2)
    have HB := hide hb2
    clear hplan hb2 hg
    go_wp2_with fail
    refine (unhide H).mono ?_
    rintro e w3 ⟨v, rfl, hE, hb3⟩
    have hz3 := hb3.size
    have c0 := ((bcell hb3).1 w.heap.size 0 hz2).trans c0
    have c1 := ((bcell hb3).1 w.heap.size 1 hz2).trans c1
    have c2 := ((bcell hb3).1 w.heap.size 2 hz2).trans c2
    have c3 := ((bcell hb3).1 w.heap.size 3 hz2).trans c3
    have hb3 := (unhide HB).trans (hb3.mono (Nat.le_of_lt hz2))
    obtain ⟨vL, vA, rfl, sL, sA, oL, oA⟩ := hE
    obtain ⟨aL, cL, eL⟩ := sL.len
    obtain ⟨aA, cA, eA⟩ := sA.len
    subst eL eA
    simp only [List.length_map] at sL sA oL oA ⊢
    have hb4 : Below w.heap.size w (w3.alloc (Obj.cells #[Value.slice aL lays.length cL, Value.slice aA aside.length cA, Value.string ⟨tells.toArray⟩] 157)) := hb3.alloc (Nat.le_trans (Nat.le_of_lt hz2) hz3) _
    have HB4 := hide hb4
    clear hb4 hb3 sL sA oL oA
    go_wp2
    go_ret
    exact ⟨rfl, _, unhide HB4, unhide HPP _ (unhide HB4)⟩
  · have HC := hide hcom
    clear hcom
    rw [hg]
    have H := hide (hplan w2 hb2)
    have HB := hide hb2
    clear hplan hb2 hg
    go_wp2_with fail
    refine (unhide H).mono ?_
    rintro e w3 ⟨v, rfl, hE, hb3⟩
    have hz3 := hb3.size
    have c0 := ((bcell hb3).1 w.heap.size 0 hz2).trans c0
    have c1 := ((bcell hb3).1 w.heap.size 1 hz2).trans c1
    have c2 := ((bcell hb3).1 w.heap.size 2 hz2).trans c2
    have c3 := ((bcell hb3).1 w.heap.size 3 hz2).trans c3
    have hb3 := (unhide HB).trans (hb3.mono (Nat.le_of_lt hz2))
    obtain ⟨vL, vA, rfl, sL, sA, oL, oA⟩ := hE
    obtain ⟨aL, cL, eL⟩ := sL.len
    obtain ⟨aA, cA, eA⟩ := sA.len
    subst eL eA
    simp only [List.length_map] at sL sA oL oA ⊢
    have hb4 : Below w.heap.size w (w3.alloc (Obj.cells #[Value.slice aL lays.length cL, Value.slice aA aside.length cA, Value.string ⟨tells.toArray⟩] 157)) := hb3.alloc (Nat.le_trans (Nat.le_of_lt hz2) hz3) _
    have d1 := cell_alloc c1 (Obj.cells #[Value.slice aL lays.length cL, Value.slice aA aside.length cA, Value.string ⟨tells.toArray⟩] 157)
    have d2 := cell_alloc c2 (Obj.cells #[Value.slice aL lays.length cL, Value.slice aA aside.length cA, Value.string ⟨tells.toArray⟩] 157)
    have e0 : (w3.alloc (Obj.cells #[Value.slice aL lays.length cL, Value.slice aA aside.length cA, Value.string ⟨tells.toArray⟩] 157)).cell? ⟨w3.heap.size, 0, none⟩ = some (.slice aL lays.length cL) := cell_of_block (heap_alloc_new w3 _) rfl
    have e1 : (w3.alloc (Obj.cells #[Value.slice aL lays.length cL, Value.slice aA aside.length cA, Value.string ⟨tells.toArray⟩] 157)).cell? ⟨w3.heap.size, 1, none⟩ = some (.slice aA aside.length cA) := cell_of_block (heap_alloc_new w3 _) rfl
    have e2 : (w3.alloc (Obj.cells #[Value.slice aL lays.length cL, Value.slice aA aside.length cA, Value.string ⟨tells.toArray⟩] 157)).cell? ⟨w3.heap.size, 2, none⟩ = some (.string ⟨tells.toArray⟩) := cell_of_block (heap_alloc_new w3 _) rfl
    have ef : EffAt w.heap.size (w3.alloc (Obj.cells #[Value.slice aL lays.length cL, Value.slice aA aside.length cA, Value.string ⟨tells.toArray⟩] 157)) (.agg #[.slice aL lays.length cL, .slice aA aside.length cA, .string ⟨tells.toArray⟩]) lays aside tells := ⟨_, _, rfl, sL.alloc _, sA.alloc _, fun k e => Nat.le_trans (Nat.le_of_lt hz2) (oL k e), fun k e => Nat.le_trans (Nat.le_of_lt hz2) (oA k e)⟩
    have H4 := hide (unhide HC _ _ hb4 ef)
    have HB4 := hide hb4
    clear hb4 ef hb3 sL sA oL oA c0 c1 c2 c3
    go_wp2_with fail
    refine (unhide H4).mono ?_
    rintro e w4 ⟨rfl, hP⟩
    have HPP := hide hP
    clear hP
    go_wp2
    go_ret
    exact ⟨rfl, _, unhide HB4, unhide HPP⟩

set_option maxRecDepth 100000 in
set_option maxHeartbeats 1600000 in
theorem doPrim_ss (w : World) (mb rb n t capS gS m a capR gR : Nat) (nm : ByteArray) (g : Int) (code : Int) (P : World → World → Prop)
    (hr0 : ∀ o, (w.alloc o).cell? ⟨rb, 0, none⟩ = some (.pointer (some ⟨mb, 0, none⟩)))
    (hm0 : ∀ o, (w.alloc o).cell? ⟨mb, 0, none⟩ = some (.slice (some ⟨gS, 0, none⟩) n capS)) (hm1 : ∀ o, (w.alloc o).cell? ⟨mb, 1, none⟩ = some (.slice (some ⟨gR, 0, none⟩) m capR)) (xS : Option Addr) (hxS : (if capS = n - t then (some ⟨gS, 0, none⟩ : Option Addr) else some ⟨gS, n - t, none⟩) = xS) (hn : n ≤ 16) (ht : t ≤ n) (hcS : n ≤ capS) (xR : Option Addr) (hxR : (if capR = m - a then (some ⟨gR, 0, none⟩ : Option Addr) else some ⟨gR, m - a, none⟩) = xR) (hm : m ≤ 16) (ha : a ≤ m) (hcR : m ≤ capR)
    (HQ : Hid (Tail w rb nm t a g (.slice xS (n - (n - t)) (capS - (n - t))) (.slice xR (m - (m - a)) (capR - (m - a))) (n : Int) code P)) :
    Calls Tryz.prog 63 #[.pointer (some ⟨rb, 0, none⟩), .agg #[Value.string nm, Value.int .i64 t, Value.int .i64 a, Value.int .i64 g]] w fun r w' => r = .returned (.int .i64 code) ∧ ∃ W, Below w.heap.size w W ∧ P W w' := by
  have i0 : IntKind.i64.wrap ((n : Int) - (t : Int)) = (n : Int) - (t : Int) := by rw [IntKind.wrap_i64]; omega
  have i1 : (0 : Int) ≤ (n : Int) - (t : Int) := by omega
  have i2 : (n : Int) - (t : Int) ≤ (n : Int) := by omega
  have j1 : (n : Int) ≤ capS := by omega
  have i9 : IntKind.i64.wrap ((m : Int) - (a : Int)) = (m : Int) - (a : Int) := by rw [IntKind.wrap_i64]; omega
  have i3 : (0 : Int) ≤ (m : Int) - (a : Int) := by omega
  have i4 : (m : Int) - (a : Int) ≤ (m : Int) := by omega
  have j2 : (m : Int) ≤ capR := by omega
  go_enter Tryz.func63, Tryz.ntmps63
  go_wp2
  go_region_held3 (fun w' => w'.cell? ⟨rb, 0, none⟩ = some (.pointer (some ⟨mb, 0, none⟩)) ∧ w'.cell? ⟨mb, 0, none⟩ = some (.slice (some ⟨gS, 0, none⟩) n capS) ∧ w'.cell? ⟨mb, 1, none⟩ = some (.slice (some ⟨gR, 0, none⟩) m capR)) (first | exact ⟨hr0 _, hm0 _, hm1 _⟩ | go_keep) (fail)
  go_wp2
  have hb1 : Below w.heap.size w (w.alloc (Obj.cells #[Value.string nm, Value.int .i64 t, Value.int .i64 a, Value.int .i64 g] 120)).drew := ((Below.refl _ _).alloc (Nat.le_refl _) _).drew
  have hz1 : w.heap.size < (w.alloc (Obj.cells #[Value.string nm, Value.int .i64 t, Value.int .i64 a, Value.int .i64 g] 120)).drew.heap.size := by simp
  have c0 : (w.alloc (Obj.cells #[Value.string nm, Value.int .i64 t, Value.int .i64 a, Value.int .i64 g] 120)).drew.cell? ⟨w.heap.size, 0, none⟩ = some (.string nm) := cell_of_block (heap_alloc_new w _) rfl
  have c1 : (w.alloc (Obj.cells #[Value.string nm, Value.int .i64 t, Value.int .i64 a, Value.int .i64 g] 120)).drew.cell? ⟨w.heap.size, 1, none⟩ = some (.int .i64 t) := cell_of_block (heap_alloc_new w _) rfl
  have c2 : (w.alloc (Obj.cells #[Value.string nm, Value.int .i64 t, Value.int .i64 a, Value.int .i64 g] 120)).drew.cell? ⟨w.heap.size, 2, none⟩ = some (.int .i64 a) := cell_of_block (heap_alloc_new w _) rfl
  have c3 : (w.alloc (Obj.cells #[Value.string nm, Value.int .i64 t, Value.int .i64 a, Value.int .i64 g] 120)).drew.cell? ⟨w.heap.size, 3, none⟩ = some (.int .i64 g) := cell_of_block (heap_alloc_new w _) rfl
  generalize (w.alloc (Obj.cells #[Value.string nm, Value.int .i64 t, Value.int .i64 a, Value.int .i64 g] 120)).drew = w1 at *
  clear hr0 hm0 hm1
  go_region_held3 (fun w' => w'.cell? ⟨w.heap.size, 0, none⟩ = some (.string nm) ∧ w'.cell? ⟨w.heap.size, 1, none⟩ = some (.int .i64 t) ∧ w'.cell? ⟨w.heap.size, 2, none⟩ = some (.int .i64 a) ∧ w'.cell? ⟨w.heap.size, 3, none⟩ = some (.int .i64 g)) (first | exact ⟨c0, c1, c2, c3⟩ | go_keep) (fail)
  go_wp2_with fail
  refine (reaches_any _ nm t a g).mono ?_
  rintro e w2 ⟨rfl, hb2⟩
  have hz2 := hb2.size
  have c0 := ((bcell hb2).1 w.heap.size 0 hz1).trans c0
  have c1 := ((bcell hb2).1 w.heap.size 1 hz1).trans c1
  have c2 := ((bcell hb2).1 w.heap.size 2 hz1).trans c2
  have c3 := ((bcell hb2).1 w.heap.size 3 hz1).trans c3
  have hb2 := hb1.drew.trans (hb2.mono (Nat.le_of_lt hz1))
  have hz2 : w.heap.size < w2.heap.size := Nat.lt_of_lt_of_le hz1 hz2
  clear hb1 hz1
  rcases unhide HQ with ⟨rfl, hreach⟩ | ⟨hg, hc, ⟨lays, aside, tells, hplan⟩, hP⟩ | ⟨hg, lays, aside, tells, hplan, hcom⟩
  · have H := hide (hreach w2 hb2)
    have HB := hide hb2
    clear hreach hb2
    go_wp2_with fail
    refine (unhide H).mono ?_
    rintro e w3 ⟨rfl, hP⟩
    have HP := hide hP
    clear hP
    go_wp2
    go_ret
    exact ⟨rfl, w2, unhide HB, unhide HP⟩
  · have HPP := hide hP
    clear hP
    rw [hg]
    have H := hide (hplan w2 hb2)
    have HB := hide hb2
    clear hplan hb2 hg
    go_wp2_with fail
    refine (unhide H).mono ?_
    rintro e w3 ⟨v, rfl, hE, hb3⟩
    have hz3 := hb3.size
    have c0 := ((bcell hb3).1 w.heap.size 0 hz2).trans c0
    have c1 := ((bcell hb3).1 w.heap.size 1 hz2).trans c1
    have c2 := ((bcell hb3).1 w.heap.size 2 hz2).trans c2
    have c3 := ((bcell hb3).1 w.heap.size 3 hz2).trans c3
    have hb3 := (unhide HB).trans (hb3.mono (Nat.le_of_lt hz2))
    obtain ⟨vL, vA, rfl, sL, sA, oL, oA⟩ := hE
    obtain ⟨aL, cL, eL⟩ := sL.len
    obtain ⟨aA, cA, eA⟩ := sA.len
    subst eL eA
    simp only [List.length_map] at sL sA oL oA ⊢
    have hb4 : Below w.heap.size w (w3.alloc (Obj.cells #[Value.slice aL lays.length cL, Value.slice aA aside.length cA, Value.string ⟨tells.toArray⟩] 157)) := hb3.alloc (Nat.le_trans (Nat.le_of_lt hz2) hz3) _
    have HB4 := hide hb4
    clear hb4 hb3 sL sA oL oA
    go_wp2
    go_ret
    exact ⟨rfl, _, unhide HB4, unhide HPP _ (unhide HB4)⟩
  · have HC := hide hcom
    clear hcom
    rw [hg]
    have H := hide (hplan w2 hb2)
    have HB := hide hb2
    clear hplan hb2 hg
    go_wp2_with fail
    refine (unhide H).mono ?_
    rintro e w3 ⟨v, rfl, hE, hb3⟩
    have hz3 := hb3.size
    have c0 := ((bcell hb3).1 w.heap.size 0 hz2).trans c0
    have c1 := ((bcell hb3).1 w.heap.size 1 hz2).trans c1
    have c2 := ((bcell hb3).1 w.heap.size 2 hz2).trans c2
    have c3 := ((bcell hb3).1 w.heap.size 3 hz2).trans c3
    have hb3 := (unhide HB).trans (hb3.mono (Nat.le_of_lt hz2))
    obtain ⟨vL, vA, rfl, sL, sA, oL, oA⟩ := hE
    obtain ⟨aL, cL, eL⟩ := sL.len
    obtain ⟨aA, cA, eA⟩ := sA.len
    subst eL eA
    simp only [List.length_map] at sL sA oL oA ⊢
    have hb4 : Below w.heap.size w (w3.alloc (Obj.cells #[Value.slice aL lays.length cL, Value.slice aA aside.length cA, Value.string ⟨tells.toArray⟩] 157)) := hb3.alloc (Nat.le_trans (Nat.le_of_lt hz2) hz3) _
    have d1 := cell_alloc c1 (Obj.cells #[Value.slice aL lays.length cL, Value.slice aA aside.length cA, Value.string ⟨tells.toArray⟩] 157)
    have d2 := cell_alloc c2 (Obj.cells #[Value.slice aL lays.length cL, Value.slice aA aside.length cA, Value.string ⟨tells.toArray⟩] 157)
    have e0 : (w3.alloc (Obj.cells #[Value.slice aL lays.length cL, Value.slice aA aside.length cA, Value.string ⟨tells.toArray⟩] 157)).cell? ⟨w3.heap.size, 0, none⟩ = some (.slice aL lays.length cL) := cell_of_block (heap_alloc_new w3 _) rfl
    have e1 : (w3.alloc (Obj.cells #[Value.slice aL lays.length cL, Value.slice aA aside.length cA, Value.string ⟨tells.toArray⟩] 157)).cell? ⟨w3.heap.size, 1, none⟩ = some (.slice aA aside.length cA) := cell_of_block (heap_alloc_new w3 _) rfl
    have e2 : (w3.alloc (Obj.cells #[Value.slice aL lays.length cL, Value.slice aA aside.length cA, Value.string ⟨tells.toArray⟩] 157)).cell? ⟨w3.heap.size, 2, none⟩ = some (.string ⟨tells.toArray⟩) := cell_of_block (heap_alloc_new w3 _) rfl
    have ef : EffAt w.heap.size (w3.alloc (Obj.cells #[Value.slice aL lays.length cL, Value.slice aA aside.length cA, Value.string ⟨tells.toArray⟩] 157)) (.agg #[.slice aL lays.length cL, .slice aA aside.length cA, .string ⟨tells.toArray⟩]) lays aside tells := ⟨_, _, rfl, sL.alloc _, sA.alloc _, fun k e => Nat.le_trans (Nat.le_of_lt hz2) (oL k e), fun k e => Nat.le_trans (Nat.le_of_lt hz2) (oA k e)⟩
    have H4 := hide (unhide HC _ _ hb4 ef)
    have HB4 := hide hb4
    clear hb4 ef hb3 sL sA oL oA c0 c1 c2 c3
    go_wp2_with fail
    refine (unhide H4).mono ?_
    rintro e w4 ⟨rfl, hP⟩
    have HPP := hide hP
    clear hP
    go_wp2
    go_ret
    exact ⟨rfl, _, unhide HB4, unhide HPP⟩

end Go.Proofs.YtgnlokmeohffaaaGreatDoor
/- What the words of the language lay is in range, and little, of no program. -/
namespace Go.Proofs.YtgnlokmeohffaaaGreatDoor
open Go.RowKit

theorem in_wrap (x : Int) : inI64 (wrap64 x) := by unfold inI64 wrap64; omega
theorem in_bits (o : BinOp) (x y : Int) : inI64 (bits o .i64 x y) := by
  unfold bits
  rw [IntKind.wrap_i64]
  unfold inI64
  omega
theorem in_truth (b : Bool) : inI64 (L.truth b) := by unfold L.truth inI64; split <;> omega
theorem in_tmod {x : Int} (h : inI64 x) (y : Int) : inI64 (x.tmod y) := by
  have h1 : (x.tmod y).natAbs ≤ x.natAbs := by rw [Int.natAbs_tmod]; exact Nat.mod_le _ _
  unfold inI64 at *
  by_cases hx : 0 ≤ x
  · have := Int.tmod_nonneg y hx
    omega
  · have h2 := Int.tmod_nonneg y (show 0 ≤ -x by omega)
    rw [Int.neg_tmod] at h2
    omega

theorem itoa_len' (x : Int) (h0 : -9223372036854775808 ≤ x) (h1 : x ≤ 9223372036854775807) : (Lib.itoa x).length ≤ 20 := by
  unfold Lib.itoa
  split
  · have := dec_len x.natAbs (by omega)
    simp; omega
  · have := dec_len x.toNat (by omega)
    omega

/-- What is laid is in range, and at most three; what is told is short. -/
def Modest' (e : L.Eff) : Prop := e.lays.length ≤ 3 ∧ e.aside.length ≤ 3 ∧ e.tells.length ≤ 100 ∧ (∀ x ∈ e.lays, inI64 x) ∧ (∀ x ∈ e.aside, inI64 x)

theorem ite_modest {c : Prop} [Decidable c] {a b : L.Eff} (h1 : Modest' a) (h2 : Modest' b) : Modest' (if c then a else b) := by split <;> assumption

theorem plan_modest (n : List UInt8) (x y z a d : Int) (hx : inI64 x) (hy : inI64 y) (hz : inI64 z) (ha : inI64 a) (hd : inI64 d) : Modest' (L.planOf n x y z a d) := by
  have hl := itoa_len' x hx.1 hx.2
  unfold L.planOf
  repeat' (refine ite_modest ?_ ?_)
  all_goals
    refine ⟨by simp, by simp, ?_, ?_, ?_⟩
    · first
        | (simp; done)
        | (simp; omega)
    · simp only [List.mem_cons, List.not_mem_nil, or_false, forall_eq_or_imp, forall_eq, false_implies, implies_true]
      try first
        | exact in_wrap _
        | exact in_bits _ _ _
        | exact in_truth _
        | exact in_tmod hx _
        | assumption
        | exact ⟨by assumption, by assumption⟩
        | exact ⟨by assumption, by assumption, by assumption⟩
    · simp only [List.mem_cons, List.not_mem_nil, or_false, forall_eq, false_implies, implies_true]
      try assumption
end Go.Proofs.YtgnlokmeohffaaaGreatDoor
