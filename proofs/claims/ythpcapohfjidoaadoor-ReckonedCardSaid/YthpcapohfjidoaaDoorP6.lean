/- What the method Plan of package lexicon answers: whatever reckon, move and tell answer, put into an effect. -/
import Derived.Test.YthpcapohfjidoaaDoorP4
import Derived.Test.YthpcapohfjidoaaDoorP5
namespace Go.Proofs.YthpcapohfjidoaaDoor
open Go.RowKit

theorem below_drewN {B : Nat} {a w : World} (h : Below B a w) : ∀ n, Below B a (w.drewN n)
  | 0 => h
  | n + 1 => (below_drewN h n).drew

set_option maxRecDepth 100000 in
theorem plan_reckon_ok (nm : ByteArray) (t a V d : Int) (vT vA : Value) (w : World)
    (H : Hid (∀ w1, Below w.heap.size w w1 → Calls Tryd.prog 38 #[.string nm, vT] w1 fun e w' => e = .returned (.tuple #[.int .i64 V, .int .i64 0]) ∧ ∃ n, w' = w1.drewN n)) :
    Calls Tryd.prog 30 #[.agg #[.string nm, .int .i64 t, .int .i64 a, .int .i64 0], vT, vA, .int .i64 d] w fun e w' => ∃ v, e = .returned (.tuple #[v, .int .i64 0]) ∧ EffAt w.heap.size w' v [V] [] [] ∧ Below w.heap.size w w' := by
  go_enter Tryd.func30, Tryd.ntmps30
  go_wp2_with fail
  refine (unhide H _ (((Below.refl _ _).alloc (Nat.le_refl _) _).alloc (by simp) _)).mono ?_
  rintro e w' ⟨rfl, n, rfl⟩
  go_wp2
  refine bodyPost_ret (v := .tuple #[.agg #[.slice (some ⟨w.heap.size + 1 + 1, 0, none⟩) 1 1, .slice none 0 0, .string ⟨#[]⟩], .int .i64 0]) (by simp [results, Tryd.results30, go_sem]) rfl ⟨_, rfl, ⟨_, _, rfl, src_new _ _ 3 rfl (by simp [go_sem]), Src.nil _, own_at (by omega), own_none⟩, ?_⟩
  repeat (first | exact Below.refl _ _ | refine below_drewN ?_ _ | refine Below.drew ?_ | refine Below.alloc ?_ (by first | (simp [World.setCell]; done) | (simp [World.setCell]; omega)) _ | refine Below.setCell ?_ (by simp; done) _)

set_option maxRecDepth 100000 in
theorem plan_reckon_err (nm : ByteArray) (t a V E d : Int) (vT vA : Value) (w : World) (hE : (E != 0) = true)
    (H : Hid (∀ w1, Below w.heap.size w w1 → Calls Tryd.prog 38 #[.string nm, vT] w1 fun e w' => e = .returned (.tuple #[.int .i64 V, .int .i64 E]) ∧ ∃ n, w' = w1.drewN n)) :
    Calls Tryd.prog 30 #[.agg #[.string nm, .int .i64 t, .int .i64 a, .int .i64 0], vT, vA, .int .i64 d] w fun e w' => ∃ v, e = .returned (.tuple #[v, .int .i64 E]) ∧ EffAt w.heap.size w' v [] [] [] ∧ Below w.heap.size w w' := by
  go_enter Tryd.func30, Tryd.ntmps30
  go_wp2_with fail
  refine (unhide H _ (((Below.refl _ _).alloc (Nat.le_refl _) _).alloc (by simp) _)).mono ?_
  rintro e w' ⟨rfl, n, rfl⟩
  go_wp2
  refine bodyPost_ret (v := .tuple #[.agg #[.slice none 0 0, .slice none 0 0, .string ⟨#[]⟩], .int .i64 E]) (by simp [results, Tryd.results30, go_sem]) rfl ⟨_, rfl, ⟨_, _, rfl, Src.nil _, Src.nil _, own_none, own_none⟩, ?_⟩
  repeat (first | exact Below.refl _ _ | refine below_drewN ?_ _ | refine Below.drew ?_ | refine Below.alloc ?_ (by simp) _ | refine Below.setCell ?_ (by simp; done) _)

set_option maxRecDepth 100000 in
theorem plan_move (nm : ByteArray) (t a d : Int) (vT vA : Value) (lays aside : List Int) (w : World)
    (H : Hid (∀ w1, Below w.heap.size w w1 → Calls Tryd.prog 39 #[.string nm, vT, vA, .int .i64 d] w1 fun e w' => ∃ v, e = .returned v ∧ EffAt w1.heap.size w' v lays aside [] ∧ Below w1.heap.size w1 w')) :
    Calls Tryd.prog 30 #[.agg #[.string nm, .int .i64 t, .int .i64 a, .int .i64 1], vT, vA, .int .i64 d] w fun e w' => ∃ v, e = .returned (.tuple #[v, .int .i64 0]) ∧ EffAt w.heap.size w' v lays aside [] ∧ Below w.heap.size w w' := by
  go_enter Tryd.func30, Tryd.ntmps30
  go_wp2_with fail
  refine (unhide H _ (((Below.refl _ _).alloc (Nat.le_refl _) _).alloc (by simp) _)).mono ?_
  rintro e w' ⟨v, rfl, ⟨vL, vA', rfl, h1, h2, h3, h4⟩, hb⟩
  obtain ⟨hc, hf⟩ := bcell hb
  obtain ⟨aL, cL, hvL⟩ := h1.len
  obtain ⟨aA, cA, hvA⟩ := h2.len
  have hz := hb.size
  simp only [World.size_alloc] at hz h3 h4
  have H1 := hide h1
  have H2 := hide h2
  have H3 := hide h3
  have H4 := hide h4
  have Hb := hide hb
  clear h1 h2 h3 h4 hb
  subst hvL hvA
  go_wp2
  refine bodyPost_ret (v := .tuple #[.agg #[.slice aL (lays.map (Value.int .i64)).length cL, .slice aA (aside.map (Value.int .i64)).length cA, .string ⟨#[]⟩], .int .i64 0]) (by simp [results, Tryd.results30, go_sem, hc]) rfl ⟨_, rfl, ⟨_, _, rfl, ?_, ?_, ?_, ?_⟩, ?_⟩
  · exact (((unhide H1).setCell (unhide H3) (by simp) _).setCell (unhide H3) (by simp) _).setCell (unhide H3) (by simp) _
  · exact (((unhide H2).setCell (unhide H4) (by simp) _).setCell (unhide H4) (by simp) _).setCell (unhide H4) (by simp) _
  · exact fun k e => by have := unhide H3 k e; omega
  · exact fun k e => by have := unhide H4 k e; omega
  · exact ((((((Below.refl _ _).alloc (Nat.le_refl _) _).alloc (by simp) _).trans ((unhide Hb).mono (by simp; omega))).setCell (by simp) _).setCell (by simp) _).setCell (by simp) _

set_option maxRecDepth 100000 in
theorem plan_tell (nm txt : ByteArray) (t a d E : Int) (vT vA : Value) (w : World)
    (H : Hid (∀ w1, Below w.heap.size w w1 → Calls Tryd.prog 40 #[.string nm, vT] w1 fun e w' => e = .returned (.tuple #[.string txt, .int .i64 E]) ∧ Below w1.heap.size w1 w')) :
    Calls Tryd.prog 30 #[.agg #[.string nm, .int .i64 t, .int .i64 a, .int .i64 2], vT, vA, .int .i64 d] w fun e w' => ∃ v, e = .returned (.tuple #[v, .int .i64 E]) ∧ EffAt w.heap.size w' v [] [] txt.data.toList ∧ Below w.heap.size w w' := by
  go_enter Tryd.func30, Tryd.ntmps30
  go_wp2_with fail
  refine (unhide H _ (((Below.refl _ _).alloc (Nat.le_refl _) _).alloc (by simp) _)).mono ?_
  rintro e w' ⟨rfl, hb⟩
  obtain ⟨hc, hf⟩ := bcell hb
  have hz := hb.size
  simp only [World.size_alloc] at hz
  have Hb := hide hb
  clear hb
  go_wp2
  refine bodyPost_ret (v := .tuple #[.agg #[.slice none 0 0, .slice none 0 0, .string txt], .int .i64 E]) (by simp [results, Tryd.results30, go_sem, hc]) rfl ⟨_, rfl, ⟨_, _, rfl, Src.nil _, Src.nil _, own_none, own_none⟩, ?_⟩
  exact ((((((Below.refl _ _).alloc (Nat.le_refl _) _).alloc (by simp) _).trans ((unhide Hb).mono (by simp; omega))).setCell (by simp) _).setCell (by simp) _).setCell (by simp) _
end Go.Proofs.YthpcapohfjidoaaDoor
