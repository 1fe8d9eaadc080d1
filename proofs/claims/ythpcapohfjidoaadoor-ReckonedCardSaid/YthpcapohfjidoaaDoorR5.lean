/- do: what a meaning does: a number, a word of the language, nothing. -/
import Derived.Test.YthpcapohfjidoaaDoorR2
namespace Go.Proofs.YthpcapohfjidoaaDoor
open Go.RowKit

theorem as_nn (v : Value) (W : World) : (Instr.typeAssert (.iface 57 v) 55 57 true).run Tryd.prog W = .ok (.tuple #[v, .bool true]) W := by kernel_rfl
theorem as_pn (v : Value) (W : World) : (Instr.typeAssert (.iface 61 v) 55 57 true).run Tryd.prog W = .ok (.tuple #[.int .i64 0, .bool false]) W := by kernel_rfl
theorem as_pp (v : Value) (W : World) : (Instr.typeAssert (.iface 61 v) 55 61 true).run Tryd.prog W = .ok (.tuple #[v, .bool true]) W := by kernel_rfl
theorem as_0n (W : World) : (Instr.typeAssert .nilIface 55 57 true).run Tryd.prog W = .ok (.tuple #[.int .i64 0, .bool false]) W := by kernel_rfl
theorem as_0p (W : World) : (Instr.typeAssert .nilIface 55 61 true).run Tryd.prog W = .ok (.tuple #[.agg #[.string ⟨#[]⟩, .int .i64 0, .int .i64 0, .int .i64 0], .bool false]) W := by kernel_rfl
theorem as_0d (W : World) : (Instr.typeAssert .nilIface 55 63 true).run Tryd.prog W = .ok (.tuple #[.pointer none, .bool false]) W := by kernel_rfl
theorem as_0b (W : World) : (Instr.typeAssert .nilIface 55 65 true).run Tryd.prog W = .ok (.tuple #[.string ⟨#[]⟩, .bool false]) W := by kernel_rfl

set_option maxRecDepth 100000 in
theorem do_num (w : World) (rb : Nat) (n code : Int) (P : World → Prop)
    (H : Hid (Calls Tryd.prog 21 #[.pointer (some ⟨rb, 0, none⟩), .int .i64 n] w fun r w' => r = .returned (.int .i64 code) ∧ P w')) :
    Calls Tryd.prog 19 #[.pointer (some ⟨rb, 0, none⟩), .iface 57 (.int .i64 n)] w fun r w' => r = .returned (.int .i64 code) ∧ P w' := by
  have a1 := as_nn (.int .i64 n)
  go_enter Tryd.func19, Tryd.ntmps19
  go_wp2_with fail
  refine (unhide H).mono ?_
  rintro e w' ⟨rfl, hP⟩
  have HP := hide hP
  clear hP
  go_wp2
  go_ret
  exact ⟨rfl, unhide HP⟩

set_option maxRecDepth 100000 in
theorem do_prim (w : World) (rb : Nat) (nm : ByteArray) (t a g code : Int) (P : World → Prop)
    (H : Hid (∀ W, Below w.heap.size w W → Calls Tryd.prog 22 #[.pointer (some ⟨rb, 0, none⟩), .agg #[.string nm, .int .i64 t, .int .i64 a, .int .i64 g]] W fun r w' => r = .returned (.int .i64 code) ∧ P w')) :
    Calls Tryd.prog 19 #[.pointer (some ⟨rb, 0, none⟩), .iface 61 (.agg #[.string nm, .int .i64 t, .int .i64 a, .int .i64 g])] w fun r w' => r = .returned (.int .i64 code) ∧ P w' := by
  have a1 := as_pn (.agg #[.string nm, .int .i64 t, .int .i64 a, .int .i64 g])
  have a2 := as_pp (.agg #[.string nm, .int .i64 t, .int .i64 a, .int .i64 g])
  go_enter Tryd.func19, Tryd.ntmps19
  go_wp2_with fail
  refine (unhide H _ ((Below.refl _ _).alloc (Nat.le_refl _) _)).mono ?_
  rintro e w' ⟨rfl, hP⟩
  have HP := hide hP
  clear hP
  go_wp2
  go_ret
  exact ⟨rfl, unhide HP⟩

set_option maxRecDepth 100000 in
theorem do_nil (w : World) (rb : Nat) :
    Calls Tryd.prog 19 #[.pointer (some ⟨rb, 0, none⟩), .nilIface] w fun r w' => r = .returned (.int .i64 2) ∧ w' = w := by
  have a1 := as_0n
  have a2 := as_0p
  have a3 := as_0d
  have a4 := as_0b
  go_enter Tryd.func19, Tryd.ntmps19
  go_wp2
  go_ret
  exact ⟨rfl, rfl⟩
end Go.Proofs.YthpcapohfjidoaaDoor
