/- What a text means on a machine without words of one's own: newest, meaning; and countStep. -/
import Derived.Test.YthpcapohfjidoaaDoorP1
import Derived.Test.YthpcapohfjidoaaDoorP2
import Derived.Test.YthpcapohfjidoaaDoorP3
import Derived.Test.YthpcapohfjidoaaDoorS0
namespace Go.Proofs.YthpcapohfjidoaaDoor
open Go.RowKit

/-- Find: the word of the language of that name, if there is one. -/
theorem find_any (s : ByteArray) (w : World) :
    Calls Tryd.prog 27 #[.string s] w fun e w' => e = .returned (.tuple #[((L.find s.data.toList).map primVal).getD (.agg #[.string ⟨#[]⟩, .int .i64 0, .int .i64 0, .int .i64 0]), .bool (L.find s.data.toList).isSome]) ∧ Below w.heap.size w w' := by
  have hl : s.toList = s.data.toList := Go.ByteArray.toList_eq s
  cases hf : L.find s.data.toList with
  | none => exact find_miss s w (by rw [hl]; exact hf)
  | some p =>
    have hm := List.mem_of_find?_eq_some hf
    have hn := List.find?_some hf
    have hs : s = ⟨p.name.toArray⟩ := by
      apply ByteArray.ext
      rw [beq_iff_eq] at hn
      rw [← hn]
    subst hs
    exact find_hit p hm w

theorem newest_nil (w : World) (mb : Nat) (s : ByteArray) (h2 : w.cell? ⟨mb, 2, none⟩ = some (.slice none 0 0)) :
    Calls Tryd.prog 26 #[.pointer (some ⟨mb, 0, none⟩), .string s] w fun e w' => e = .returned .nilIface ∧ w' = w := by
  go_enter Tryd.func26, Tryd.ntmps26
  go_wp2
  go_loop [5] (fun i => i = .int .i64 (-1)) (fun _ => 0)
  case atStart => rfl
  case round =>
    obtain rfl := hrel
    go_wp2
    go_ret
    exact ⟨rfl, rfl⟩

theorem ret_val {a b : Value} (h : a = b) : Ending.returned a = .returned b := by rw [h]

/-- The meaning of a text that is not bold, where there are no words of one's own. -/
def meansAt (l : List UInt8) : Value :=
  match L.find l with
  | some p => .iface 61 (primVal p)
  | none => match L.number l with
    | some n => .iface 57 (.int .i64 n)
    | none => .nilIface

set_option maxHeartbeats 800000 in
set_option maxRecDepth 100000 in
theorem meaning_plain (w : World) (mb : Nat) (s : ByteArray) (h2 : w.cell? ⟨mb, 2, none⟩ = some (.slice none 0 0)) (hb : L.isBold s.data.toList = false) :
    Calls Tryd.prog 20 #[.pointer (some ⟨mb, 0, none⟩), .string s] w fun e w' => e = .returned (meansAt s.data.toList) ∧ Below w.heap.size w w' := by
  have hl : s.toList = s.data.toList := Go.ByteArray.toList_eq s
  have Hb := hide hb
  have Hl := hide hl
  have H2 := hide h2
  clear hb hl
  go_enter Tryd.func20, Tryd.ntmps20
  go_wp2_with fail
  refine (isBold_any s _).mono ?_
  rintro e w' ⟨rfl, rfl⟩
  rw [unhide Hl, unhide Hb]
  go_wp2_with fail
  refine (newest_nil _ mb s (unhide H2)).mono ?_
  rintro e w' ⟨rfl, rfl⟩
  go_wp2_with fail
  refine (find_any s _).mono ?_
  rintro e w1 ⟨rfl, hb1⟩
  cases hf : L.find s.data.toList with
  | some p =>
    have hm : meansAt s.data.toList = .iface 61 (primVal p) := by unfold meansAt; rw [hf]
    have Hm := hide hm
    clear hm hf
    simp only [Option.map_some, Option.getD_some, Option.isSome_some, primVal]
    go_wp2
    go_ret
    exact ⟨ret_val (by rw [unhide Hm]; rfl), hb1.alloc hb1.size _⟩
  | none =>
    simp only [Option.map_none, Option.getD_none, Option.isSome_none]
    go_wp2_with fail
    refine (number_any s _).mono ?_
    rintro e w2 ⟨rfl, rfl⟩
    cases hn : L.number s.data.toList with
    | some n =>
      have hm : meansAt s.data.toList = .iface 57 (.int .i64 n) := by unfold meansAt; rw [hf, hn]
      have Hm := hide hm
      clear hm hf hn
      simp only [Option.getD_some, Option.isSome_some]
      go_wp2
      go_ret
      exact ⟨ret_val (by rw [unhide Hm]; rfl), hb1.alloc hb1.size _⟩
    | none =>
      have hm : meansAt s.data.toList = .nilIface := by unfold meansAt; rw [hf, hn]
      have Hm := hide hm
      clear hm hf hn
      simp only [Option.getD_none, Option.isSome_none]
      go_wp2
      go_ret
      exact ⟨ret_val (by rw [unhide Hm]; rfl), hb1.alloc hb1.size _⟩
end Go.Proofs.YthpcapohfjidoaaDoor
