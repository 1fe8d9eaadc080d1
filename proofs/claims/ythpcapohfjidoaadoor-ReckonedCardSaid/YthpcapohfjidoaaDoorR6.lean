/- step: a word of the line is done. -/
import Derived.Test.YthpcapohfjidoaaDoorR2
namespace Go.Proofs.YthpcapohfjidoaaDoor
open Go.RowKit
attribute [local go_sem ↓] Go.wp_at_zero Go.wp_at_succ

set_option maxRecDepth 100000 in
theorem step_stop (w : World) (rb : Nat) (code : Int) (hc : (code != 0) = true) (P : World → Prop)
    (H : Hid (Calls Tryd.prog 18 #[.pointer (some ⟨rb, 0, none⟩)] w fun r w' => r = .returned (.int .i64 code) ∧ P w')) :
    Calls Tryd.prog 16 #[.pointer (some ⟨rb, 0, none⟩)] w fun r w' => r = .returned (.int .i64 code) ∧ P w' := by
  go_enter Tryd.func16, Tryd.ntmps16
  go_wp2_with fail
  refine (unhide H).mono ?_
  rintro e w' ⟨rfl, hP⟩
  have HP := hide hP
  clear hP
  go_wp2
  go_ret
  exact ⟨rfl, unhide HP⟩

set_option maxRecDepth 100000 in
set_option maxHeartbeats 1600000 in
theorem step_walk (w : World) (rb mb gW nW capW pos : Nat) (txt : ByteArray) (V : Value) (code : Int) (P : World → World → Prop) (Q : World → Prop) (hpos : pos < nW)
    (H : Hid (Calls Tryd.prog 18 #[.pointer (some ⟨rb, 0, none⟩)] w fun r w' => r = .returned (.int .i64 0) ∧
      (w'.cell? ⟨rb, 0, none⟩ = some (.pointer (some ⟨mb, 0, none⟩)) ∧ w'.cell? ⟨rb, 1, none⟩ = some (.slice (some ⟨gW, 0, none⟩) nW capW) ∧ w'.cell? ⟨rb, 2, none⟩ = some (.int .i64 pos) ∧ w'.cell? ⟨gW, pos, none⟩ = some (.string txt)) ∧ Q w'))
    (HM : Hid (∀ w1 W, Q w1 → Below w1.heap.size w1 W → Calls Tryd.prog 20 #[.pointer (some ⟨mb, 0, none⟩), .string txt] W fun r w' => r = .returned V ∧ Below W.heap.size W w'))
    (HD : Hid (∀ w1 W, Q w1 → Below w1.heap.size w1 W → Calls Tryd.prog 19 #[.pointer (some ⟨rb, 0, none⟩), V] W fun r w' => r = .returned (.int .i64 code) ∧ (w'.cell? ⟨rb, 0, none⟩ = some (.pointer (some ⟨mb, 0, none⟩)) ∧ w'.cell? ⟨rb, 1, none⟩ = some (.slice (some ⟨gW, 0, none⟩) nW capW) ∧ w'.cell? ⟨rb, 2, none⟩ = some (.int .i64 pos) ∧ w'.cell? ⟨gW, pos, none⟩ = some (.string txt)) ∧ P w1 w')) :
    Calls Tryd.prog 16 #[.pointer (some ⟨rb, 0, none⟩)] w fun r w' => r = .returned (.int .i64 code) ∧ ∃ w1, Q w1 ∧ P w1 w' := by
  have k0 : (0 : Int) ≤ (pos : Int) := by omega
  have k1 : (pos : Int) < (nW : Int) := by omega
  go_enter Tryd.func16, Tryd.ntmps16
  go_wp2_with fail
  refine (unhide H).mono ?_
  rintro e w1 ⟨rfl, ⟨c0, c1, c2, c3⟩, hQ⟩
  have HQ := hide hQ
  clear hQ
  go_wp2
  have hz1 : rb < w1.heap.size := block_lt c0
  have hz2 : gW < w1.heap.size := block_lt c3
  go_region_held3 (fun w' => w'.cell? ⟨rb, 0, none⟩ = some (.pointer (some ⟨mb, 0, none⟩)) ∧ w'.cell? ⟨rb, 1, none⟩ = some (.slice (some ⟨gW, 0, none⟩) nW capW) ∧ w'.cell? ⟨rb, 2, none⟩ = some (.int .i64 pos) ∧ w'.cell? ⟨gW, pos, none⟩ = some (.string txt))
    (first | exact ⟨c0, c1, c2, c3⟩ | exact (by assumption) | go_keep)
    (first
      | ((go_at_call 20; refine (unhide HM w1 _ (unhide HQ) (Below.refl _ _).drew).mono ?_
          rintro e w2 ⟨rfl, hb2⟩
          have c0 := ((bcell hb2).1 rb 0 hz1).trans c0
          have c1 := ((bcell hb2).1 rb 1 hz1).trans c1
          have c2 := ((bcell hb2).1 rb 2 hz1).trans c2
          have c3 := ((bcell hb2).1 gW pos hz2).trans c3))
      | ((go_at_call 19; refine (unhide HD w1 _ (unhide HQ) (by first | exact hb2 | exact ((Below.refl _ _).drew).trans hb2)).mono ?_
          rintro e w3 ⟨rfl, ⟨c0, c1, c2, c3⟩, hP⟩
          have HP := hide hP
          clear hP)))
  go_wp2
  go_ret
  exact ⟨rfl, w1, unhide HQ, unhide HP⟩
end Go.Proofs.YthpcapohfjidoaaDoor
