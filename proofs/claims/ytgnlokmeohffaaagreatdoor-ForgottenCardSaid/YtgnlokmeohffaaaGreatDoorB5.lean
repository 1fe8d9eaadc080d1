/- Parts of the proof: see the last text. -/
import Derived.Test.YtgnlokmeohffaaaGreatDoorB4
/- meaning: what a text means when it is read. -/
namespace Go.Proofs.YtgnlokmeohffaaaGreatDoor
open Go.RowKit
attribute [local go_sem ↓] Go.wp_at_zero Go.wp_at_succ

/-- What a text means, as a value. -/
def meansVal (all : List N.Ent) (wv : List Own) (l : List UInt8) : Value :=
  if L.isBold l then .iface 134 (.string ⟨l.toArray⟩)
  else match N.newestOf all l all.length with
    | some k => ownAt wv (some k)
    | none => meansAt l

set_option maxHeartbeats 800000 in
set_option maxRecDepth 100000 in
theorem meaning_bold (w : World) (mb : Nat) (s : ByteArray) (hb : L.isBold s.data.toList = true) :
    Calls Tryz.prog 53 #[.pointer (some ⟨mb, 0, none⟩), .string s] w fun e w' => e = .returned (.iface 134 (.string s)) ∧ w' = w := by
  have hl : s.toList = s.data.toList := Go.ByteArray.toList_eq s
  have Hb := hide hb
  have Hl := hide hl
  clear hb hl
  go_enter Tryz.func53, Tryz.ntmps53
  go_wp2_with fail
  refine (isBold_any s _).mono ?_
  rintro e w' ⟨rfl, rfl⟩
  rw [unhide Hl, unhide Hb]
  go_wp2
  go_ret
  exact ⟨rfl, rfl⟩

set_option maxHeartbeats 800000 in
set_option maxRecDepth 100000 in
theorem meaning_own (w : World) (mb : Nat) (s : ByteArray) (T : TypeId) (v : Value) (P : World → Prop) (hb : L.isBold s.data.toList = false)
    (H : Hid (Calls Tryz.prog 30 #[.pointer (some ⟨mb, 0, none⟩), .string s] w fun e w' => e = .returned (.iface T v) ∧ P w')) :
    Calls Tryz.prog 53 #[.pointer (some ⟨mb, 0, none⟩), .string s] w fun e w' => e = .returned (.iface T v) ∧ P w' := by
  have hl : s.toList = s.data.toList := Go.ByteArray.toList_eq s
  have Hb := hide hb
  have Hl := hide hl
  clear hb hl
  go_enter Tryz.func53, Tryz.ntmps53
  go_wp2_with fail
  refine (isBold_any s _).mono ?_
  rintro e w' ⟨rfl, rfl⟩
  rw [unhide Hl, unhide Hb]
  go_wp2_with fail
  refine (unhide H).mono ?_
  rintro e w' ⟨rfl, hP⟩
  have HP := hide hP
  clear hP
  go_wp2
  go_ret
  exact ⟨rfl, unhide HP⟩

set_option maxHeartbeats 800000 in
set_option maxRecDepth 100000 in
theorem meaning_else (w : World) (mb : Nat) (s : ByteArray) (hb : L.isBold s.data.toList = false)
    (H : Hid (Calls Tryz.prog 30 #[.pointer (some ⟨mb, 0, none⟩), .string s] w fun e w' => e = .returned .nilIface ∧ Below w.heap.size w w')) :
    Calls Tryz.prog 53 #[.pointer (some ⟨mb, 0, none⟩), .string s] w fun e w' => e = .returned (meansAt s.data.toList) ∧ Below w.heap.size w w' := by
  have hl : s.toList = s.data.toList := Go.ByteArray.toList_eq s
  have Hb := hide hb
  have Hl := hide hl
  clear hb hl
  go_enter Tryz.func53, Tryz.ntmps53
  go_wp2_with fail
  refine (isBold_any s _).mono ?_
  rintro e w' ⟨rfl, rfl⟩
  rw [unhide Hl, unhide Hb]
  go_wp2_with fail
  refine (unhide H).mono ?_
  rintro e w0 ⟨rfl, hb0⟩
  go_wp2_with fail
  refine (find_any s _).mono ?_
  rintro e w1 ⟨rfl, hb1⟩
  have hb1 := hb0.trans (hb1.mono hb0.size)
  cases hf : L.find s.data.toList with
  | some p =>
    have hm : meansAt s.data.toList = .iface 120 (primVal p) := by unfold meansAt; rw [hf]
    have Hm := hide hm
    clear hm hf
    simp only [Option.map_some, Option.getD_some, Option.isSome_some, primVal]
    go_wp2
    go_ret
    exact ⟨retv (by rw [unhide Hm]; rfl), hb1.alloc hb1.size _⟩
  | none =>
    simp only [Option.map_none, Option.getD_none, Option.isSome_none]
    go_wp2_with fail
    refine (number_any s _).mono ?_
    rintro e w2 ⟨rfl, rfl⟩
    cases hn : L.number s.data.toList with
    | some n =>
      have hm : meansAt s.data.toList = .iface 117 (.int .i64 n) := by unfold meansAt; rw [hf, hn]
      have Hm := hide hm
      clear hm hf hn
      simp only [Option.getD_some, Option.isSome_some]
      go_wp2
      go_ret
      exact ⟨retv (by rw [unhide Hm]; rfl), hb1.alloc hb1.size _⟩
    | none =>
      have hm : meansAt s.data.toList = .nilIface := by unfold meansAt; rw [hf, hn]
      have Hm := hide hm
      clear hm hf hn
      simp only [Option.getD_none, Option.isSome_none]
      go_wp2
      go_ret
      exact ⟨retv (by rw [unhide Hm]; rfl), hb1.alloc hb1.size _⟩

theorem ownVal_iface (o : Own) : ∃ T v, ownVal o = .iface T v := by cases o <;> exact ⟨_, _, rfl⟩

theorem newest_lt (all : List N.Ent) (l : List UInt8) : ∀ n k, N.newestOf all l n = some k → k < n ∧ ∃ e, all[k]? = some e ∧ e.name = l ∧ N.there e = true
  | 0, _, h => by cases h
  | n + 1, k, h => by
    unfold N.newestOf at h
    cases ha : all[n]? with
    | none =>
      rw [ha] at h
      have := newest_lt all l n k h
      exact ⟨by omega, this.2⟩
    | some e =>
      rw [ha] at h
      simp only at h
      split at h
      · rename_i hc
        rw [Bool.and_eq_true, beq_iff_eq] at hc
        injection h with h
        subst h
        exact ⟨by omega, e, ha, hc⟩
      · have := newest_lt all l n k h
        exact ⟨by omega, this.2⟩

theorem meaning_any (w : World) (mb : Nat) (s : ByteArray) (all : List N.Ent) (wv : List Own) (vO vB : Value) (h2 : w.cell? ⟨mb, 2, none⟩ = some vO) (h : OwnAt w all wv vO vB) :
    Calls Tryz.prog 53 #[.pointer (some ⟨mb, 0, none⟩), .string s] w fun e w' => e = .returned (meansVal all wv s.data.toList) ∧ Below w.heap.size w w' := by
  unfold meansVal
  by_cases hb : L.isBold s.data.toList = true
  · rw [if_pos hb]
    exact (meaning_bold w mb s hb).mono fun e w' hh => ⟨hh.1, by rw [hh.2]; exact Below.refl _ _⟩
  · rw [if_neg hb]
    rw [Bool.not_eq_true] at hb
    have hn := newest_any w mb s all wv vO vB h2 h
    cases hk : N.newestOf all s.data.toList all.length with
    | none =>
      rw [hk] at hn
      exact meaning_else w mb s hb (hide hn)
    | some k =>
      rw [hk] at hn
      obtain ⟨hlt, _⟩ := newest_lt all _ _ _ hk
      obtain ⟨o, hw⟩ : ∃ o, wv[k]? = some o := ⟨_, List.getElem?_eq_getElem (by rw [h.len]; exact hlt)⟩
      have hv : ownAt wv (some k) = ownVal o := by unfold ownAt; rw [Option.bind_some, hw]; rfl
      obtain ⟨T, v, he⟩ := ownVal_iface o
      rw [hv, he] at hn
      show Calls _ _ _ _ fun e w' => e = .returned (ownAt wv (some k)) ∧ _
      rw [hv, he]
      exact meaning_own w mb s T v _ hb (hide hn)
end Go.Proofs.YtgnlokmeohffaaaGreatDoor
/- do: what a word means is done, a walk a kind of word. (Written by tools/mkdo.py.) -/
namespace Go.Proofs.YtgnlokmeohffaaaGreatDoor
open Go.RowKit
attribute [local go_sem ↓] Go.wp_at_zero Go.wp_at_succ

theorem as_number_number (v : Value) (W : World) : (Instr.typeAssert (.iface 117 v) 107 117 true).run Tryz.prog W = .ok (.tuple #[v, .bool true]) W := by kernel_rfl
theorem as_prim_number (v : Value) (W : World) : (Instr.typeAssert (.iface 120 v) 107 117 true).run Tryz.prog W = .ok (.tuple #[.int .i64 0, .bool false]) W := by kernel_rfl
theorem as_prim_prim (v : Value) (W : World) : (Instr.typeAssert (.iface 120 v) 107 120 true).run Tryz.prog W = .ok (.tuple #[v, .bool true]) W := by kernel_rfl
theorem as_defn_number (v : Value) (W : World) : (Instr.typeAssert (.iface 122 v) 107 117 true).run Tryz.prog W = .ok (.tuple #[.int .i64 0, .bool false]) W := by kernel_rfl
theorem as_defn_prim (v : Value) (W : World) : (Instr.typeAssert (.iface 122 v) 107 120 true).run Tryz.prog W = .ok (.tuple #[.agg #[.string ⟨#[]⟩, .int .i64 0, .int .i64 0, .int .i64 0], .bool false]) W := by kernel_rfl
theorem as_defn_defn (v : Value) (W : World) : (Instr.typeAssert (.iface 122 v) 107 122 true).run Tryz.prog W = .ok (.tuple #[v, .bool true]) W := by kernel_rfl
theorem as_vari_number (v : Value) (W : World) : (Instr.typeAssert (.iface 124 v) 107 117 true).run Tryz.prog W = .ok (.tuple #[.int .i64 0, .bool false]) W := by kernel_rfl
theorem as_vari_prim (v : Value) (W : World) : (Instr.typeAssert (.iface 124 v) 107 120 true).run Tryz.prog W = .ok (.tuple #[.agg #[.string ⟨#[]⟩, .int .i64 0, .int .i64 0, .int .i64 0], .bool false]) W := by kernel_rfl
theorem as_vari_defn (v : Value) (W : World) : (Instr.typeAssert (.iface 124 v) 107 122 true).run Tryz.prog W = .ok (.tuple #[.pointer none, .bool false]) W := by kernel_rfl
theorem as_vari_vari (v : Value) (W : World) : (Instr.typeAssert (.iface 124 v) 107 124 true).run Tryz.prog W = .ok (.tuple #[v, .bool true]) W := by kernel_rfl
theorem as_cons_number (v : Value) (W : World) : (Instr.typeAssert (.iface 130 v) 107 117 true).run Tryz.prog W = .ok (.tuple #[.int .i64 0, .bool false]) W := by kernel_rfl
theorem as_cons_prim (v : Value) (W : World) : (Instr.typeAssert (.iface 130 v) 107 120 true).run Tryz.prog W = .ok (.tuple #[.agg #[.string ⟨#[]⟩, .int .i64 0, .int .i64 0, .int .i64 0], .bool false]) W := by kernel_rfl
theorem as_cons_defn (v : Value) (W : World) : (Instr.typeAssert (.iface 130 v) 107 122 true).run Tryz.prog W = .ok (.tuple #[.pointer none, .bool false]) W := by kernel_rfl
theorem as_cons_vari (v : Value) (W : World) : (Instr.typeAssert (.iface 130 v) 107 124 true).run Tryz.prog W = .ok (.tuple #[.pointer none, .bool false]) W := by kernel_rfl
theorem as_cons_cons (v : Value) (W : World) : (Instr.typeAssert (.iface 130 v) 107 130 true).run Tryz.prog W = .ok (.tuple #[v, .bool true]) W := by kernel_rfl
theorem as_mark_number (v : Value) (W : World) : (Instr.typeAssert (.iface 132 v) 107 117 true).run Tryz.prog W = .ok (.tuple #[.int .i64 0, .bool false]) W := by kernel_rfl
theorem as_mark_prim (v : Value) (W : World) : (Instr.typeAssert (.iface 132 v) 107 120 true).run Tryz.prog W = .ok (.tuple #[.agg #[.string ⟨#[]⟩, .int .i64 0, .int .i64 0, .int .i64 0], .bool false]) W := by kernel_rfl
theorem as_mark_defn (v : Value) (W : World) : (Instr.typeAssert (.iface 132 v) 107 122 true).run Tryz.prog W = .ok (.tuple #[.pointer none, .bool false]) W := by kernel_rfl
theorem as_mark_vari (v : Value) (W : World) : (Instr.typeAssert (.iface 132 v) 107 124 true).run Tryz.prog W = .ok (.tuple #[.pointer none, .bool false]) W := by kernel_rfl
theorem as_mark_cons (v : Value) (W : World) : (Instr.typeAssert (.iface 132 v) 107 130 true).run Tryz.prog W = .ok (.tuple #[.agg #[.string ⟨#[]⟩, .int .i64 0, .int .i64 0], .bool false]) W := by kernel_rfl
theorem as_mark_mark (v : Value) (W : World) : (Instr.typeAssert (.iface 132 v) 107 132 true).run Tryz.prog W = .ok (.tuple #[v, .bool true]) W := by kernel_rfl
theorem as_bold_number (v : Value) (W : World) : (Instr.typeAssert (.iface 134 v) 107 117 true).run Tryz.prog W = .ok (.tuple #[.int .i64 0, .bool false]) W := by kernel_rfl
theorem as_bold_prim (v : Value) (W : World) : (Instr.typeAssert (.iface 134 v) 107 120 true).run Tryz.prog W = .ok (.tuple #[.agg #[.string ⟨#[]⟩, .int .i64 0, .int .i64 0, .int .i64 0], .bool false]) W := by kernel_rfl
theorem as_bold_defn (v : Value) (W : World) : (Instr.typeAssert (.iface 134 v) 107 122 true).run Tryz.prog W = .ok (.tuple #[.pointer none, .bool false]) W := by kernel_rfl
theorem as_bold_vari (v : Value) (W : World) : (Instr.typeAssert (.iface 134 v) 107 124 true).run Tryz.prog W = .ok (.tuple #[.pointer none, .bool false]) W := by kernel_rfl
theorem as_bold_cons (v : Value) (W : World) : (Instr.typeAssert (.iface 134 v) 107 130 true).run Tryz.prog W = .ok (.tuple #[.agg #[.string ⟨#[]⟩, .int .i64 0, .int .i64 0], .bool false]) W := by kernel_rfl
theorem as_bold_mark (v : Value) (W : World) : (Instr.typeAssert (.iface 134 v) 107 132 true).run Tryz.prog W = .ok (.tuple #[.agg #[.string ⟨#[]⟩, .int .i64 0], .bool false]) W := by kernel_rfl
theorem as_bold_bold (v : Value) (W : World) : (Instr.typeAssert (.iface 134 v) 107 134 true).run Tryz.prog W = .ok (.tuple #[v, .bool true]) W := by kernel_rfl
theorem as_nil_number (W : World) : (Instr.typeAssert .nilIface 107 117 true).run Tryz.prog W = .ok (.tuple #[.int .i64 0, .bool false]) W := by kernel_rfl
theorem as_nil_prim (W : World) : (Instr.typeAssert .nilIface 107 120 true).run Tryz.prog W = .ok (.tuple #[.agg #[.string ⟨#[]⟩, .int .i64 0, .int .i64 0, .int .i64 0], .bool false]) W := by kernel_rfl
theorem as_nil_defn (W : World) : (Instr.typeAssert .nilIface 107 122 true).run Tryz.prog W = .ok (.tuple #[.pointer none, .bool false]) W := by kernel_rfl
theorem as_nil_vari (W : World) : (Instr.typeAssert .nilIface 107 124 true).run Tryz.prog W = .ok (.tuple #[.pointer none, .bool false]) W := by kernel_rfl
theorem as_nil_cons (W : World) : (Instr.typeAssert .nilIface 107 130 true).run Tryz.prog W = .ok (.tuple #[.agg #[.string ⟨#[]⟩, .int .i64 0, .int .i64 0], .bool false]) W := by kernel_rfl
theorem as_nil_mark (W : World) : (Instr.typeAssert .nilIface 107 132 true).run Tryz.prog W = .ok (.tuple #[.agg #[.string ⟨#[]⟩, .int .i64 0], .bool false]) W := by kernel_rfl
theorem as_nil_bold (W : World) : (Instr.typeAssert .nilIface 107 134 true).run Tryz.prog W = .ok (.tuple #[.string ⟨#[]⟩, .bool false]) W := by kernel_rfl

set_option maxRecDepth 100000 in
theorem token_any (w : World) (nm : ByteArray) (tok : Int) : Calls Tryz.prog 65 #[.agg #[.string nm, .int .i64 tok]] w fun r w' => r = .returned (.int .i64 tok) ∧ Below w.heap.size w w' := by
  go_enter Tryz.func65, Tryz.ntmps65
  go_wp2
  go_ret
  exact ⟨rfl, (Below.refl _ _).alloc (Nat.le_refl _) _⟩

set_option maxRecDepth 100000 in
theorem do_num (w : World) (rb : Nat) (n : Int) (code : Int) (P : World → Prop)
    (H : Hid (Calls Tryz.prog 62 #[.pointer (some ⟨rb, 0, none⟩), .int .i64 n] w fun r w' => r = .returned (.int .i64 code) ∧ P w')) :
    Calls Tryz.prog 52 #[.pointer (some ⟨rb, 0, none⟩), .iface 117 (.int .i64 n)] w fun r w' => r = .returned (.int .i64 code) ∧ P w' := by
  have a0 := as_number_number (.int .i64 n)
  go_enter Tryz.func52, Tryz.ntmps52
  go_wp2_with fail
  refine (unhide H).mono ?_
  rintro e w' ⟨rfl, hP⟩
  have HP := hide hP
  clear hP
  go_wp2
  go_ret
  exact ⟨rfl, unhide HP⟩

set_option maxRecDepth 100000 in
theorem do_prim (w : World) (rb : Nat) (nm : ByteArray) (t a g : Int) (code : Int) (P : World → Prop)
    (H : Hid (∀ W, Below w.heap.size w W → Calls Tryz.prog 63 #[.pointer (some ⟨rb, 0, none⟩), .agg #[.string nm, .int .i64 t, .int .i64 a, .int .i64 g]] W fun r w' => r = .returned (.int .i64 code) ∧ P w')) :
    Calls Tryz.prog 52 #[.pointer (some ⟨rb, 0, none⟩), .iface 120 (.agg #[.string nm, .int .i64 t, .int .i64 a, .int .i64 g])] w fun r w' => r = .returned (.int .i64 code) ∧ P w' := by
  have a0 := as_prim_number (.agg #[.string nm, .int .i64 t, .int .i64 a, .int .i64 g])
  have a1 := as_prim_prim (.agg #[.string nm, .int .i64 t, .int .i64 a, .int .i64 g])
  go_enter Tryz.func52, Tryz.ntmps52
  go_wp2_with fail
  refine (unhide H _ ((Below.refl _ _).alloc (Nat.le_refl _) _)).mono ?_
  rintro e w' ⟨rfl, hP⟩
  have HP := hide hP
  clear hP
  go_wp2
  go_ret
  exact ⟨rfl, unhide HP⟩

set_option maxRecDepth 100000 in
theorem do_defn (w : World) (rb b : Nat) (code : Int) (P : World → Prop)
    (H : Hid (Calls Tryz.prog 64 #[.pointer (some ⟨rb, 0, none⟩), .pointer (some ⟨b, 0, none⟩)] w fun r w' => r = .returned (.int .i64 code) ∧ P w')) :
    Calls Tryz.prog 52 #[.pointer (some ⟨rb, 0, none⟩), .iface 122 (.pointer (some ⟨b, 0, none⟩))] w fun r w' => r = .returned (.int .i64 code) ∧ P w' := by
  have a0 := as_defn_number (.pointer (some ⟨b, 0, none⟩))
  have a1 := as_defn_prim (.pointer (some ⟨b, 0, none⟩))
  have a2 := as_defn_defn (.pointer (some ⟨b, 0, none⟩))
  go_enter Tryz.func52, Tryz.ntmps52
  go_wp2_with fail
  refine (unhide H).mono ?_
  rintro e w' ⟨rfl, hP⟩
  have HP := hide hP
  clear hP
  go_wp2
  go_ret
  exact ⟨rfl, unhide HP⟩

set_option maxRecDepth 100000 in
theorem do_vari (w : World) (rb b : Nat) (nm : ByteArray) (tok : Int) (h0 : w.cell? ⟨b, 0, none⟩ = some (.string nm)) (h1 : w.cell? ⟨b, 1, none⟩ = some (.int .i64 tok)) (code : Int) (P : World → Prop)
    (H : Hid (∀ W, Below w.heap.size w W → Calls Tryz.prog 62 #[.pointer (some ⟨rb, 0, none⟩), .int .i64 tok] W fun r w' => r = .returned (.int .i64 code) ∧ P w')) :
    Calls Tryz.prog 52 #[.pointer (some ⟨rb, 0, none⟩), .iface 124 (.pointer (some ⟨b, 0, none⟩))] w fun r w' => r = .returned (.int .i64 code) ∧ P w' := by
  have a0 := as_vari_number (.pointer (some ⟨b, 0, none⟩))
  have a1 := as_vari_prim (.pointer (some ⟨b, 0, none⟩))
  have a2 := as_vari_defn (.pointer (some ⟨b, 0, none⟩))
  have a3 := as_vari_vari (.pointer (some ⟨b, 0, none⟩))
  go_enter Tryz.func52, Tryz.ntmps52
  go_wp2_with fail
  refine (token_any _ nm tok).mono ?_
  rintro e w1 ⟨rfl, hb⟩
  have HB := hide hb
  clear hb
  go_wp2_with fail
  refine (unhide H _ (unhide HB)).mono ?_
  rintro e w' ⟨rfl, hP⟩
  have HP := hide hP
  clear hP
  go_wp2
  go_ret
  exact ⟨rfl, unhide HP⟩

set_option maxRecDepth 100000 in
theorem do_cons (w : World) (rb : Nat) (nm : ByteArray) (tok n : Int) (code : Int) (P : World → Prop)
    (H : Hid (∀ W, Below w.heap.size w W → Calls Tryz.prog 62 #[.pointer (some ⟨rb, 0, none⟩), .int .i64 n] W fun r w' => r = .returned (.int .i64 code) ∧ P w')) :
    Calls Tryz.prog 52 #[.pointer (some ⟨rb, 0, none⟩), .iface 130 (.agg #[.string nm, .int .i64 tok, .int .i64 n])] w fun r w' => r = .returned (.int .i64 code) ∧ P w' := by
  have a0 := as_cons_number (.agg #[.string nm, .int .i64 tok, .int .i64 n])
  have a1 := as_cons_prim (.agg #[.string nm, .int .i64 tok, .int .i64 n])
  have a2 := as_cons_defn (.agg #[.string nm, .int .i64 tok, .int .i64 n])
  have a3 := as_cons_vari (.agg #[.string nm, .int .i64 tok, .int .i64 n])
  have a4 := as_cons_cons (.agg #[.string nm, .int .i64 tok, .int .i64 n])
  go_enter Tryz.func52, Tryz.ntmps52
  go_wp2_with fail
  refine (unhide H _ ((Below.refl _ _).alloc (Nat.le_refl _) _)).mono ?_
  rintro e w' ⟨rfl, hP⟩
  have HP := hide hP
  clear hP
  go_wp2
  go_ret
  exact ⟨rfl, unhide HP⟩

set_option maxRecDepth 100000 in
theorem do_bold (w : World) (rb : Nat) (s : ByteArray) (code : Int) (P : World → Prop)
    (H : Hid (Calls Tryz.prog 67 #[.pointer (some ⟨rb, 0, none⟩), .string s] w fun r w' => r = .returned (.int .i64 code) ∧ P w')) :
    Calls Tryz.prog 52 #[.pointer (some ⟨rb, 0, none⟩), .iface 134 (.string s)] w fun r w' => r = .returned (.int .i64 code) ∧ P w' := by
  have a0 := as_bold_number (.string s)
  have a1 := as_bold_prim (.string s)
  have a2 := as_bold_defn (.string s)
  have a3 := as_bold_vari (.string s)
  have a4 := as_bold_cons (.string s)
  have a5 := as_bold_mark (.string s)
  have a6 := as_bold_bold (.string s)
  go_enter Tryz.func52, Tryz.ntmps52
  go_wp2_with fail
  refine (unhide H).mono ?_
  rintro e w' ⟨rfl, hP⟩
  have HP := hide hP
  clear hP
  go_wp2
  go_ret
  exact ⟨rfl, unhide HP⟩

set_option maxRecDepth 100000 in
theorem do_nil (w : World) (rb : Nat) :
    Calls Tryz.prog 52 #[.pointer (some ⟨rb, 0, none⟩), .nilIface] w fun r w' => r = .returned (.int .i64 2) ∧ w' = w := by
  have a0 := as_nil_number
  have a1 := as_nil_prim
  have a2 := as_nil_defn
  have a3 := as_nil_vari
  have a4 := as_nil_cons
  have a5 := as_nil_mark
  have a6 := as_nil_bold
  go_enter Tryz.func52, Tryz.ntmps52
  go_wp2
  go_ret
  exact ⟨rfl, rfl⟩
end Go.Proofs.YtgnlokmeohffaaaGreatDoor
/- take: numbers are taken from the stack. -/
namespace Go.Proofs.YtgnlokmeohffaaaGreatDoor
open Go.RowKit
attribute [local go_sem ↓] Go.wp_at_zero Go.wp_at_succ

set_option maxRecDepth 100000 in
theorem take_under (w : World) (mb rb n k capS : Nat) (aS : Option Addr) (hr0 : w.cell? ⟨rb, 0, none⟩ = some (.pointer (some ⟨mb, 0, none⟩))) (hm0 : w.cell? ⟨mb, 0, none⟩ = some (.slice aS n capS)) (hn : n ≤ 16) (hk : k ≤ 2) (h : n < k) :
    Calls Tryz.prog 114 #[.pointer (some ⟨rb, 0, none⟩), .int .i64 k] w fun r w' => r = .returned (.tuple #[.slice none 0 0, .int .i64 6]) ∧ w' = w := by
  have h1 : (n : Int) - (k : Int) < 0 := by omega
  have i0 : IntKind.i64.wrap ((n : Int) - (k : Int)) = (n : Int) - (k : Int) := by rw [IntKind.wrap_i64]; omega
  go_enter Tryz.func114, Tryz.ntmps114
  go_wp2
  go_ret2
  exact ⟨rfl, rfl⟩

set_option maxRecDepth 100000 in
set_option maxHeartbeats 1600000 in
theorem take_walk (w : World) (mb rb g n k capS : Nat) (hr0 : w.cell? ⟨rb, 0, none⟩ = some (.pointer (some ⟨mb, 0, none⟩))) (hm0 : w.cell? ⟨mb, 0, none⟩ = some (.slice (some ⟨g, 0, none⟩) n capS)) (fm0 : w.frozen? ⟨mb, 0, none⟩ = false) (hn : n ≤ 16) (hk : k ≤ n) (hc : n ≤ capS)
    (x : Option Addr) (hx : (if capS = n - k then (some ⟨g, 0, none⟩ : Option Addr) else some ⟨g, n - k, none⟩) = x) :
    Calls Tryz.prog 114 #[.pointer (some ⟨rb, 0, none⟩), .int .i64 k] w fun r w' => r = .returned (.tuple #[.slice x (n - (n - k)) (capS - (n - k)), .int .i64 0]) ∧ w' = (w.setCell ⟨mb, 0, none⟩ (.slice (some ⟨g, 0, none⟩) (n - k) capS)).drew := by
  have i0 : IntKind.i64.wrap ((n : Int) - (k : Int)) = (n : Int) - (k : Int) := by rw [IntKind.wrap_i64]; omega
  have i1 : (0 : Int) ≤ (n : Int) - (k : Int) := by omega
  have i3 : ¬ ((n : Int) - (k : Int) < 0) := by omega
  have i2 : (n : Int) - (k : Int) ≤ (n : Int) := by omega
  have i4 : (n : Int) ≤ (capS : Int) := by omega
  have i5 : (n : Int) - (k : Int) ≤ (capS : Int) := by omega
  go_enter Tryz.func114, Tryz.ntmps114
  go_wp2
  go_region_law (fail)
  all_goals (go_wp2; go_ret2; exact ⟨rfl, rfl⟩)

/-- The run behind a taking. -/
theorem RunAt.taken {w : World} {mb rb g capS : Nat} {vO vB vW vR vT : Value} {s : L.RunS} (h : RunAt w mb rb vO vB vW (.slice (some ⟨g, 0, none⟩) s.S.length capS) vR vT s) (k : Nat) :
    RunAt ((w.setCell ⟨mb, 0, none⟩ (.slice (some ⟨g, 0, none⟩) (s.S.length - k) capS)).drew) mb rb vO vB vW (.slice (some ⟨g, 0, none⟩) (s.S.length - k) capS) vR vT { s with S := s.S.take (s.S.length - k) } := by
  have hset := set_block h.m 0 (.slice (some ⟨g, 0, none⟩) (s.S.length - k) capS)
  have hoth : ∀ j, j ≠ mb → (w.setCell ⟨mb, 0, none⟩ (.slice (some ⟨g, 0, none⟩) (s.S.length - k) capS)).heap[j]? = w.heap[j]? := fun j hj => Below.heap_setCell _ _ _ _ hj
  have hlen : (s.S.take (s.S.length - k)).length = s.S.length - k := by rw [List.length_take]; omega
  refine ⟨hset, (hoth rb (ne_of_type h.r h.m (by decide))).trans h.r, ?_, ?_, ?_, ?_, h.ap, ?_, h.rl, h.ol, h.wl, fun x hx => h.si x (List.mem_of_mem_take hx), h.ri⟩
  · show World.ownsRow _ _ _ _ _ (s.S.take (s.S.length - k)).length _
    rw [hlen]
    show World.ownsRow _ _ _ _ _ _ ((s.S.take (s.S.length - k)).map (Value.int .i64))
    rw [List.map_take]
    have := owns_take h.st (s.S.length - k) (Nat.sub_le _ _)
    exact owns_kept this fun j e => hoth j fun x => own_ne_of_type h.st h.m (by decide) (x ▸ e)
  · exact owns_kept h.asd fun j e => hoth j fun x => own_ne_of_type h.asd h.m (by decide) (x ▸ e)
  · exact owns_kept h.ot fun j e => hoth j fun x => own_ne_of_type h.ot h.m (by decide) (x ▸ e)
  · exact owns_kept h.wd fun j e => hoth j fun x => own_ne_of_type h.wd h.m (by decide) (x ▸ e)
  · show (s.S.take (s.S.length - k)).length ≤ 16
    have := h.sl
    omega

/-- take: what is taken can be read; the run has it no more. -/
theorem take_any (w : World) (mb rb k : Nat) (vO vB vW vS vR vT : Value) (s : L.RunS) (hrun : RunAt w mb rb vO vB vW vS vR vT s) (hk : 1 ≤ k) (hk2 : k ≤ 2) :
    Calls Tryz.prog 114 #[.pointer (some ⟨rb, 0, none⟩), .int .i64 k] w fun r w' =>
      if s.S.length < k then r = .returned (.tuple #[.slice none 0 0, .int .i64 6]) ∧ w' = w
      else ∃ g o c v1, r = .returned (.tuple #[.slice (some ⟨g, o, none⟩) k c, .int .i64 0]) ∧ (∀ j u, (s.S.drop (s.S.length - k))[j]? = some u → w'.cell? ⟨g, o + j, none⟩ = some (.int .i64 u)) ∧
        RunAt w' mb rb vO vB vW v1 vR vT { s with S := s.S.take (s.S.length - k) } ∧ Mv (Foot mb rb vS vR vT) w w' ∧ Fresh w (Foot mb rb vS vR vT) (Foot mb rb v1 vR vT) := by
  by_cases h : s.S.length < k
  · simp only [if_pos h]
    obtain ⟨aS, capS, aR, capR, aT, capT, rfl, rfl, rfl, lS, lR⟩ := hrun.slices
    exact take_under w mb rb _ k capS aS (cell_of_block hrun.r rfl) (cell_of_block hrun.m rfl) hrun.sl hk2 h
  · simp only [if_neg h]
    rcases owns_cases hrun.st with ⟨_, h0, _⟩ | ⟨g, capS, rfl, lS⟩
    · omega
    have hs := tail_src (t := k) hrun.st lS
    have hmm := cell_of_block (j := 0) hrun.m rfl
    generalize hx : (if capS = s.S.length - k then (some ⟨g, 0, none⟩ : Option Addr) else some ⟨g, s.S.length - k, none⟩) = x at hs
    refine (take_walk w mb rb g s.S.length k capS (cell_of_block hrun.r rfl) hmm (frozen_of_block 0 hrun.m) hrun.sl (by omega) lS x hx).mono ?_
    rintro r w' ⟨rfl, rfl⟩
    have hkk : s.S.length - (s.S.length - k) = k := by omega
    rw [hkk] at hs ⊢
    have hxs : ∃ o, x = some ⟨g, o, none⟩ := by
      rw [← hx]
      split
      · exact ⟨_, rfl⟩
      · exact ⟨_, rfl⟩
    obtain ⟨o, rfl⟩ := hxs
    refine ⟨g, o, _, _, rfl, fun j u hu => ?_, hrun.taken k, ((Mv.refl _ _).setCell (.inl (.inl rfl)) _).drew, Fresh.refl _ _⟩
    rcases hs with ⟨h1, _⟩ | ⟨b, o', c', h1, h2, h3⟩
    · cases h1
    · injection h1 with h1
      injection h1 with h1
      injection h1 with h4 h5
      subst h4 h5
      have hne : g ≠ mb := fun e => own_ne_of_type hrun.st hrun.m (by decide) (by rw [e]; rfl)
      have := h3 j (.int .i64 u) (by rw [← List.map_drop, List.getElem?_map, hu]; rfl)
      exact cell_set_far this hne
end Go.Proofs.YtgnlokmeohffaaaGreatDoor
/- reach, fetch, store, execute: words of the language that come to a word of one's own by its token: the walks. (Written by tools/mkreach.py.) -/
namespace Go.Proofs.YtgnlokmeohffaaaGreatDoor
open Go.RowKit
attribute [local go_sem ↓] Go.wp_at_zero Go.wp_at_succ

set_option maxRecDepth 100000 in
set_option maxHeartbeats 1600000 in
theorem reach_fetch (w : World) (mb rb b o c k j : Nat) (hj : k = j + 1) (hk2 : k ≤ 2) (tok : Int) (V : Value) (code : Int) (P : World → World → Prop) (hr : w.cell? ⟨rb, 0, none⟩ = some (.pointer (some ⟨mb, 0, none⟩))) (ht : w.cell? ⟨b, o + j, none⟩ = some (.int .i64 tok))
    (HT : Hid (∀ W, Below w.heap.size w W → Calls Tryz.prog 101 #[.pointer (some ⟨mb, 0, none⟩), .int .i64 tok] W fun r w' => r = .returned V ∧ Below W.heap.size W w'))
    (HF : Hid (∀ W, Below w.heap.size w W → Calls Tryz.prog 102 #[.pointer (some ⟨rb, 0, none⟩), V] W fun r w' => r = .returned (.int .i64 code) ∧ P W w')) :
    Calls Tryz.prog 85 #[.pointer (some ⟨rb, 0, none⟩), .agg #[Value.string ⟨#[64]⟩, Value.int .i64 (k : Nat), Value.int .i64 0, Value.int .i64 3], .slice (some ⟨b, o, none⟩) k c] w fun r w' => r = .returned (.int .i64 code) ∧ ∃ W, Below w.heap.size w W ∧ P W w' := by
  have hb1 : Below w.heap.size w (w.alloc (Obj.cells #[Value.string ⟨#[64]⟩, Value.int .i64 (k : Nat), Value.int .i64 0, Value.int .i64 3] 120)) := (Below.refl _ _).alloc (Nat.le_refl _) _
  have i0 : IntKind.i64.wrap ((k : Int) - 1) = (j : Int) := by rw [IntKind.wrap_i64]; omega
  have i1 : (0 : Int) ≤ (j : Int) := by omega
  have i2 : (j : Int) < (k : Int) := by omega
  have i3 : (0 : Int) < (k : Int) := by omega
  clear hj hk2
  have hz1 : w.heap.size < (w.alloc (Obj.cells #[Value.string ⟨#[64]⟩, Value.int .i64 (k : Nat), Value.int .i64 0, Value.int .i64 3] 120)).heap.size := by simp
  have c0 : (w.alloc (Obj.cells #[Value.string ⟨#[64]⟩, Value.int .i64 (k : Nat), Value.int .i64 0, Value.int .i64 3] 120)).cell? ⟨w.heap.size, 0, none⟩ = some (.string ⟨#[64]⟩) := cell_of_block (heap_alloc_new w _) rfl
  have r0 := cell_alloc hr (Obj.cells #[Value.string ⟨#[64]⟩, Value.int .i64 (k : Nat), Value.int .i64 0, Value.int .i64 3] 120)
  have t0 := cell_alloc ht (Obj.cells #[Value.string ⟨#[64]⟩, Value.int .i64 (k : Nat), Value.int .i64 0, Value.int .i64 3] 120)
  go_enter Tryz.func85, Tryz.ntmps85
  go_wp2
  generalize (w.alloc (Obj.cells #[Value.string ⟨#[64]⟩, Value.int .i64 (k : Nat), Value.int .i64 0, Value.int .i64 3] 120)) = w1 at *
  clear hr ht
  go_region_held3 (fun w' => w'.cell? ⟨rb, 0, none⟩ = some (.pointer (some ⟨mb, 0, none⟩)) ∧ w'.cell? ⟨b, o + j, none⟩ = some (.int .i64 tok)) (first | exact ⟨r0, t0⟩ | exact (by assumption) | go_keep)
    ((go_at_call 101; refine (unhide HT _ hb1.drew).mono ?_
      rintro e w2 ⟨rfl, hb2⟩
      have hb3 : Below w.heap.size w w2 := hb1.drew.trans (hb2.mono (Nat.le_of_lt hz1))
      have c0 := ((bcell hb2).1 w.heap.size 0 hz1).trans c0
      have r0 := ((bcell hb2).1 rb 0 (block_lt (w := w1) r0)).trans r0
      have t0 := ((bcell hb2).1 b (o + j) (block_lt (w := w1) t0)).trans t0
      have hz2 : w.heap.size < w2.heap.size := Nat.lt_of_lt_of_le hz1 hb2.size))
  go_wp2_with fail
  refine (unhide HF _ (by first | exact hb3 | exact hb3.drew)).mono ?_
  rintro e w3 ⟨rfl, hP⟩
  have HP := hide hP
  clear hP
  go_wp2
  go_ret
  exact ⟨rfl, _, by first | exact hb3 | exact hb3.drew, unhide HP⟩

set_option maxRecDepth 100000 in
set_option maxHeartbeats 1600000 in
theorem reach_store (w : World) (mb rb b o c k j : Nat) (hj : k = j + 1) (hk2 : k ≤ 2) (tok x : Int) (V : Value) (code : Int) (P : World → World → Prop) (hr : w.cell? ⟨rb, 0, none⟩ = some (.pointer (some ⟨mb, 0, none⟩))) (ht : w.cell? ⟨b, o + j, none⟩ = some (.int .i64 tok)) (h0 : w.cell? ⟨b, o, none⟩ = some (.int .i64 x))
    (HT : Hid (∀ W, Below w.heap.size w W → Calls Tryz.prog 101 #[.pointer (some ⟨mb, 0, none⟩), .int .i64 tok] W fun r w' => r = .returned V ∧ Below W.heap.size W w'))
    (HF : Hid (∀ W, Below w.heap.size w W → Calls Tryz.prog 103 #[.pointer (some ⟨rb, 0, none⟩), V, .int .i64 x] W fun r w' => r = .returned (.int .i64 code) ∧ P W w')) :
    Calls Tryz.prog 85 #[.pointer (some ⟨rb, 0, none⟩), .agg #[Value.string ⟨#[33]⟩, Value.int .i64 (k : Nat), Value.int .i64 0, Value.int .i64 3], .slice (some ⟨b, o, none⟩) k c] w fun r w' => r = .returned (.int .i64 code) ∧ ∃ W, Below w.heap.size w W ∧ P W w' := by
  have hb1 : Below w.heap.size w (w.alloc (Obj.cells #[Value.string ⟨#[33]⟩, Value.int .i64 (k : Nat), Value.int .i64 0, Value.int .i64 3] 120)) := (Below.refl _ _).alloc (Nat.le_refl _) _
  have i0 : IntKind.i64.wrap ((k : Int) - 1) = (j : Int) := by rw [IntKind.wrap_i64]; omega
  have i1 : (0 : Int) ≤ (j : Int) := by omega
  have i2 : (j : Int) < (k : Int) := by omega
  have i3 : (0 : Int) < (k : Int) := by omega
  clear hj hk2
  have hz1 : w.heap.size < (w.alloc (Obj.cells #[Value.string ⟨#[33]⟩, Value.int .i64 (k : Nat), Value.int .i64 0, Value.int .i64 3] 120)).heap.size := by simp
  have c0 : (w.alloc (Obj.cells #[Value.string ⟨#[33]⟩, Value.int .i64 (k : Nat), Value.int .i64 0, Value.int .i64 3] 120)).cell? ⟨w.heap.size, 0, none⟩ = some (.string ⟨#[33]⟩) := cell_of_block (heap_alloc_new w _) rfl
  have r0 := cell_alloc hr (Obj.cells #[Value.string ⟨#[33]⟩, Value.int .i64 (k : Nat), Value.int .i64 0, Value.int .i64 3] 120)
  have t0 := cell_alloc ht (Obj.cells #[Value.string ⟨#[33]⟩, Value.int .i64 (k : Nat), Value.int .i64 0, Value.int .i64 3] 120)
  have x0 := cell_alloc h0 (Obj.cells #[Value.string ⟨#[33]⟩, Value.int .i64 (k : Nat), Value.int .i64 0, Value.int .i64 3] 120)
  have zb : b < (w.alloc (Obj.cells #[Value.string ⟨#[33]⟩, Value.int .i64 (k : Nat), Value.int .i64 0, Value.int .i64 3] 120)).heap.size := block_lt x0
  go_enter Tryz.func85, Tryz.ntmps85
  go_wp2
  generalize (w.alloc (Obj.cells #[Value.string ⟨#[33]⟩, Value.int .i64 (k : Nat), Value.int .i64 0, Value.int .i64 3] 120)) = w1 at *
  clear hr ht h0
  go_region_held3 (fun w' => w'.cell? ⟨rb, 0, none⟩ = some (.pointer (some ⟨mb, 0, none⟩)) ∧ w'.cell? ⟨b, o + j, none⟩ = some (.int .i64 tok)) (first | exact ⟨r0, t0⟩ | exact (by assumption) | go_keep)
    ((go_at_call 101; refine (unhide HT _ hb1.drew).mono ?_
      rintro e w2 ⟨rfl, hb2⟩
      have hb3 : Below w.heap.size w w2 := hb1.drew.trans (hb2.mono (Nat.le_of_lt hz1))
      have c0 := ((bcell hb2).1 w.heap.size 0 hz1).trans c0
      have r0 := ((bcell hb2).1 rb 0 (block_lt (w := w1) r0)).trans r0
      have t0 := ((bcell hb2).1 b (o + j) (block_lt (w := w1) t0)).trans t0
      have x0 := ((bcell hb2).1 b o zb).trans x0
      have hz2 : w.heap.size < w2.heap.size := Nat.lt_of_lt_of_le hz1 hb2.size))
  go_wp2_with fail
  refine (unhide HF _ (by first | exact hb3 | exact hb3.drew)).mono ?_
  rintro e w3 ⟨rfl, hP⟩
  have HP := hide hP
  clear hP
  go_wp2
  go_ret
  exact ⟨rfl, _, by first | exact hb3 | exact hb3.drew, unhide HP⟩

set_option maxRecDepth 100000 in
set_option maxHeartbeats 1600000 in
theorem reach_execute (w : World) (mb rb b o c k j : Nat) (hj : k = j + 1) (hk2 : k ≤ 2) (tok : Int) (V : Value) (code : Int) (P : World → World → Prop) (hr : w.cell? ⟨rb, 0, none⟩ = some (.pointer (some ⟨mb, 0, none⟩))) (ht : w.cell? ⟨b, o + j, none⟩ = some (.int .i64 tok))
    (HT : Hid (∀ W, Below w.heap.size w W → Calls Tryz.prog 101 #[.pointer (some ⟨mb, 0, none⟩), .int .i64 tok] W fun r w' => r = .returned V ∧ Below W.heap.size W w'))
    (HF : Hid (∀ W, Below w.heap.size w W → Calls Tryz.prog 104 #[.pointer (some ⟨rb, 0, none⟩), V] W fun r w' => r = .returned (.int .i64 code) ∧ P W w')) :
    Calls Tryz.prog 85 #[.pointer (some ⟨rb, 0, none⟩), .agg #[Value.string ⟨#[101, 120, 101, 99, 117, 116, 101]⟩, Value.int .i64 (k : Nat), Value.int .i64 0, Value.int .i64 3], .slice (some ⟨b, o, none⟩) k c] w fun r w' => r = .returned (.int .i64 code) ∧ ∃ W, Below w.heap.size w W ∧ P W w' := by
  have hb1 : Below w.heap.size w (w.alloc (Obj.cells #[Value.string ⟨#[101, 120, 101, 99, 117, 116, 101]⟩, Value.int .i64 (k : Nat), Value.int .i64 0, Value.int .i64 3] 120)) := (Below.refl _ _).alloc (Nat.le_refl _) _
  have i0 : IntKind.i64.wrap ((k : Int) - 1) = (j : Int) := by rw [IntKind.wrap_i64]; omega
  have i1 : (0 : Int) ≤ (j : Int) := by omega
  have i2 : (j : Int) < (k : Int) := by omega
  have i3 : (0 : Int) < (k : Int) := by omega
  clear hj hk2
  have hz1 : w.heap.size < (w.alloc (Obj.cells #[Value.string ⟨#[101, 120, 101, 99, 117, 116, 101]⟩, Value.int .i64 (k : Nat), Value.int .i64 0, Value.int .i64 3] 120)).heap.size := by simp
  have c0 : (w.alloc (Obj.cells #[Value.string ⟨#[101, 120, 101, 99, 117, 116, 101]⟩, Value.int .i64 (k : Nat), Value.int .i64 0, Value.int .i64 3] 120)).cell? ⟨w.heap.size, 0, none⟩ = some (.string ⟨#[101, 120, 101, 99, 117, 116, 101]⟩) := cell_of_block (heap_alloc_new w _) rfl
  have r0 := cell_alloc hr (Obj.cells #[Value.string ⟨#[101, 120, 101, 99, 117, 116, 101]⟩, Value.int .i64 (k : Nat), Value.int .i64 0, Value.int .i64 3] 120)
  have t0 := cell_alloc ht (Obj.cells #[Value.string ⟨#[101, 120, 101, 99, 117, 116, 101]⟩, Value.int .i64 (k : Nat), Value.int .i64 0, Value.int .i64 3] 120)
  go_enter Tryz.func85, Tryz.ntmps85
  go_wp2
  generalize (w.alloc (Obj.cells #[Value.string ⟨#[101, 120, 101, 99, 117, 116, 101]⟩, Value.int .i64 (k : Nat), Value.int .i64 0, Value.int .i64 3] 120)) = w1 at *
  clear hr ht
  go_region_held3 (fun w' => w'.cell? ⟨rb, 0, none⟩ = some (.pointer (some ⟨mb, 0, none⟩)) ∧ w'.cell? ⟨b, o + j, none⟩ = some (.int .i64 tok)) (first | exact ⟨r0, t0⟩ | exact (by assumption) | go_keep)
    ((go_at_call 101; refine (unhide HT _ hb1.drew).mono ?_
      rintro e w2 ⟨rfl, hb2⟩
      have hb3 : Below w.heap.size w w2 := hb1.drew.trans (hb2.mono (Nat.le_of_lt hz1))
      have c0 := ((bcell hb2).1 w.heap.size 0 hz1).trans c0
      have r0 := ((bcell hb2).1 rb 0 (block_lt (w := w1) r0)).trans r0
      have t0 := ((bcell hb2).1 b (o + j) (block_lt (w := w1) t0)).trans t0
      have hz2 : w.heap.size < w2.heap.size := Nat.lt_of_lt_of_le hz1 hb2.size))
  go_wp2_with fail
  refine (unhide HF _ (by first | exact hb3 | exact hb3.drew)).mono ?_
  rintro e w3 ⟨rfl, hP⟩
  have HP := hide hP
  clear hP
  go_wp2
  go_ret
  exact ⟨rfl, _, by first | exact hb3 | exact hb3.drew, unhide HP⟩


/-- Asked whether a word of one's own is a variable. -/
def varPtr : Value → Value
  | .iface t v => if t = 124 then v else .pointer none
  | _ => .pointer none
theorem asv_defn (v : Value) (W : World) : (Instr.typeAssert (.iface 122 v) 62 124 true).run Tryz.prog W = .ok (.tuple #[.pointer none, .bool false]) W := by kernel_rfl
theorem asv_cons (v : Value) (W : World) : (Instr.typeAssert (.iface 130 v) 62 124 true).run Tryz.prog W = .ok (.tuple #[.pointer none, .bool false]) W := by kernel_rfl
theorem asv_mark (v : Value) (W : World) : (Instr.typeAssert (.iface 132 v) 62 124 true).run Tryz.prog W = .ok (.tuple #[.pointer none, .bool false]) W := by kernel_rfl
theorem asv_vari (v : Value) (W : World) : (Instr.typeAssert (.iface 124 v) 62 124 true).run Tryz.prog W = .ok (.tuple #[v, .bool true]) W := by kernel_rfl
theorem asv_nil (W : World) : (Instr.typeAssert .nilIface 62 124 true).run Tryz.prog W = .ok (.tuple #[.pointer none, .bool false]) W := by kernel_rfl

set_option maxRecDepth 100000 in
theorem fetch_not (w : World) (rb : Nat) (V : Value) (hv : ∀ W, (Instr.typeAssert V 62 124 true).run Tryz.prog W = .ok (.tuple #[.pointer none, .bool false]) W) :
    Calls Tryz.prog 102 #[.pointer (some ⟨rb, 0, none⟩), V] w fun r w' => r = .returned (.int .i64 9) ∧ w' = w := by
  go_enter Tryz.func102, Tryz.ntmps102
  go_wp2
  go_ret
  exact ⟨rfl, rfl⟩
set_option maxRecDepth 100000 in
theorem store_not (w : World) (rb : Nat) (V : Value) (x : Int) (hv : ∀ W, (Instr.typeAssert V 62 124 true).run Tryz.prog W = .ok (.tuple #[.pointer none, .bool false]) W) :
    Calls Tryz.prog 103 #[.pointer (some ⟨rb, 0, none⟩), V, .int .i64 x] w fun r w' => r = .returned (.int .i64 9) ∧ w' = w := by
  go_enter Tryz.func103, Tryz.ntmps103
  go_wp2
  go_ret
  exact ⟨rfl, rfl⟩

set_option maxRecDepth 100000 in
theorem fetch_walk (w : World) (rb b : Nat) (n code : Int) (P : World → Prop) (h2 : w.cell? ⟨b, 2, none⟩ = some (.int .i64 n))
    (H : Hid (Calls Tryz.prog 83 #[.pointer (some ⟨rb, 0, none⟩), .int .i64 1, .int .i64 0, .agg #[.slice (some ⟨w.heap.size, 0, none⟩) 1 1, .slice none 0 0, .string ⟨#[]⟩]] (w.alloc (Obj.cells #[Value.int .i64 n] 3)) fun r w' => r = .returned (.int .i64 code) ∧ P w')) :
    Calls Tryz.prog 102 #[.pointer (some ⟨rb, 0, none⟩), .iface 124 (.pointer (some ⟨b, 0, none⟩))] w fun r w' => r = .returned (.int .i64 code) ∧ P w' := by
  have hv := asv_vari (.pointer (some ⟨b, 0, none⟩))
  go_enter Tryz.func102, Tryz.ntmps102
  go_wp2_with fail
  refine (unhide H).mono ?_
  rintro e w' ⟨rfl, hP⟩
  have HP := hide hP
  clear hP
  go_wp2
  go_ret
  exact ⟨rfl, unhide HP⟩

set_option maxRecDepth 100000 in
theorem store_walk (w : World) (rb b : Nat) (n x code : Int) (P : World → Prop) (h2 : w.cell? ⟨b, 2, none⟩ = some (.int .i64 n)) (f2 : w.frozen? ⟨b, 2, none⟩ = false)
    (H : Hid (Calls Tryz.prog 83 #[.pointer (some ⟨rb, 0, none⟩), .int .i64 2, .int .i64 0, .agg #[.slice none 0 0, .slice none 0 0, .string ⟨#[]⟩]] (w.setCell ⟨b, 2, none⟩ (.int .i64 x)) fun r w' => r = .returned (.int .i64 code) ∧ P w')) :
    Calls Tryz.prog 103 #[.pointer (some ⟨rb, 0, none⟩), .iface 124 (.pointer (some ⟨b, 0, none⟩)), .int .i64 x] w fun r w' => r = .returned (.int .i64 code) ∧ P w' := by
  have hv := asv_vari (.pointer (some ⟨b, 0, none⟩))
  go_enter Tryz.func103, Tryz.ntmps103
  go_wp2_with fail
  refine (unhide H).mono ?_
  rintro e w' ⟨rfl, hP⟩
  have HP := hide hP
  clear hP
  go_wp2
  go_ret
  exact ⟨rfl, unhide HP⟩

set_option maxRecDepth 100000 in
theorem execute_nil (w : World) (rb : Nat) :
    Calls Tryz.prog 104 #[.pointer (some ⟨rb, 0, none⟩), .nilIface] w fun r w' => r = .returned (.int .i64 10) ∧ w' = w := by
  go_enter Tryz.func104, Tryz.ntmps104
  go_wp2
  go_ret
  exact ⟨rfl, rfl⟩
set_option maxRecDepth 100000 in
theorem execute_walk (w : World) (rb : Nat) (T : TypeId) (v : Value) (code : Int) (P : World → Prop)
    (H : Hid (Calls Tryz.prog 114 #[.pointer (some ⟨rb, 0, none⟩), .int .i64 1] w fun r w' => ∃ vT, r = .returned (.tuple #[vT, .int .i64 0]) ∧ Calls Tryz.prog 52 #[.pointer (some ⟨rb, 0, none⟩), .iface T v] w' fun r w' => r = .returned (.int .i64 code) ∧ P w')) :
    Calls Tryz.prog 104 #[.pointer (some ⟨rb, 0, none⟩), .iface T v] w fun r w' => r = .returned (.int .i64 code) ∧ P w' := by
  go_enter Tryz.func104, Tryz.ntmps104
  go_wp2_with fail
  refine (unhide H).mono ?_
  rintro e w' ⟨vT, rfl, hD⟩
  have HD := hide hD
  clear hD
  go_wp2_with fail
  refine (unhide HD).mono ?_
  rintro e w' ⟨rfl, hP⟩
  have HP := hide hP
  clear hP
  go_wp2
  go_ret
  exact ⟨rfl, unhide HP⟩
end Go.Proofs.YtgnlokmeohffaaaGreatDoor
/- A word of the language that comes to no word of one's own: the document's machine does what was planned and committed. -/
namespace Go.Proofs.YtgnlokmeohffaaaGreatDoor
open Go.RowKit

theorem take_last (R : List Int) (h : R ≠ []) : R.take (R.length - 1) ++ [R.getLast?.getD 0] = R := by
  rcases List.eq_nil_or_concat R with rfl | ⟨l, x, rfl⟩
  · exact (h rfl).elim
  · simp
theorem prim_plain (s : L.RunS) (all : List N.Ent) (p : L.Prim) (hp : p ∈ L.primTab) : N.prim (toM s all) p.name = (toM (L.doPrim s p).1 all, (L.doPrim s p).2, none) := by
  obtain ⟨S, R, ws, pos, steps, depth, out⟩ := s
  have hR := take_last R
  simp only [L.primTab, List.mem_cons, List.not_mem_nil, or_false] at hp
  rcases hp with rfl | rfl | rfl | rfl | rfl | rfl | rfl | rfl | rfl | rfl | rfl | rfl | rfl | rfl | rfl | rfl | rfl | rfl | rfl | rfl | rfl | rfl | rfl | rfl
  all_goals
    simp [N.prim, N.takes, N.wrong, N.told, N.does, N.reckoned, L.doPrim, L.plan, L.planOf, L.commit, toM]
  all_goals (repeat' split)
  all_goals first
    | rfl
    | (exfalso; omega)
    | (exfalso; simp only [List.length_cons, List.length_nil] at *; omega)
    | (simp_all; done)
    | (rw [List.getLast?_eq_getElem?, List.dropLast_eq_take]; done)
    | (have h1 := hR (by assumption); rw [List.getLast?_eq_getElem?] at h1 ⊢; simp only [h1])
end Go.Proofs.YtgnlokmeohffaaaGreatDoor
/- What holds between the steps of a run; numbers are laid; @ and !. -/
namespace Go.Proofs.YtgnlokmeohffaaaGreatDoor
open Go.RowKit

/-- A run that may go on. -/
structure Ready (w : World) (mb rb : Nat) (vO vB vW vS vR vT : Value) (wv : List Own) (s : L.RunS) (all : List N.Ent) : Prop where
  run : RunAt w mb rb vO vB vW vS vR vT s
  own : OwnAt w all wv vO vB
  tab : TabOk w
  nof : ¬ FootN mb rb vO vS vR vT wv 3
  st : s.steps ≤ 1000
  dp : s.depth ≤ 12

theorem Ready.below {w w' : World} {mb rb : Nat} {vO vB vW vS vR vT : Value} {wv : List Own} {s : L.RunS} {all : List N.Ent} (h : Ready w mb rb vO vB vW vS vR vT wv s all) (hb : Below w.heap.size w w') : Ready w' mb rb vO vB vW vS vR vT wv s all :=
  ⟨h.run.below hb, h.own.below hb, tabIs_of_block h.tab (hb.block _ (tab_lt h.tab)), h.nof, h.st, h.dp⟩

theorem footN_fresh {w : World} {mb rb : Nat} {vO vS vR vT v1 v2 v3 : Value} {wv : List Own} (h : Fresh w (Foot mb rb vS vR vT) (Foot mb rb v1 v2 v3)) : Fresh w (FootN mb rb vO vS vR vT wv) (FootN mb rb vO v1 v2 v3 wv) := fun k hk => by
  rcases hk with hk | hk
  · rcases h k hk with x | x
    · exact .inl (.inl x)
    · exact .inr x
  · exact .inl (.inr hk)

theorem GoesN.of_goes {w w' : World} {mb rb : Nat} {vO vB vW vS vR vT : Value} {wv : List Own} {s s' : L.RunS} {all : List N.Ent} {code : Int} (hr : RunAt w mb rb vO vB vW vS vR vT s) (ho : OwnAt w all wv vO vB)
    (h : Goes mb rb vO vB vW vS vR vT s' w w') (hs : L.Same s s') : GoesN mb rb vO vB vW vS vR vT wv s (toM s' all) code w w' := by
  obtain ⟨v1, v2, v3, h1, h2, h3⟩ := h
  exact ⟨vO, v1, v2, v3, s', h1, ho.mv hr h2, h2.weaken fun k hk => .inl hk, footN_fresh h3, hs.1, hs.2.1, hs.2.2.2, rfl, fun _ => ⟨rfl, rfl, rfl⟩⟩

theorem GoesN.stay {w w' : World} {mb rb : Nat} {vO vB vW vS vR vT : Value} {wv : List Own} {s : L.RunS} {all : List N.Ent} {code : Int} (hr : RunAt w mb rb vO vB vW vS vR vT s) (ho : OwnAt w all wv vO vB) (hb : Below w.heap.size w w') : GoesN mb rb vO vB vW vS vR vT wv s (toM s all) code w w' :=
  GoesN.of_goes hr ho (Goes.stay hr hb) ⟨rfl, rfl, rfl, rfl⟩

theorem GoesN.after {w W w' : World} {mb rb : Nat} {vO vB vW vS vR vT : Value} {wv : List Own} {s : L.RunS} {m : N.Mach} {code : Int} (hb : Below w.heap.size w W) (h : GoesN mb rb vO vB vW vS vR vT wv s m code W w') : GoesN mb rb vO vB vW vS vR vT wv s m code w w' := by
  obtain ⟨vO', v1, v2, v3, s', h1, h2, h3, h4, h5⟩ := h
  exact ⟨vO', v1, v2, v3, s', h1, h2, (Mv.of_below hb _).trans (Fresh.refl _ _) h3, (Fresh.refl _ _).trans hb.size h4, h5⟩

/-- The run that goes with a machine. -/
def upd (s : L.RunS) (m : N.Mach) : L.RunS := { s with S := m.S, R := m.R, out := m.out, steps := m.steps }

theorem GoesN.open {w w' : World} {mb rb : Nat} {vO vB vW vS vR vT : Value} {wv : List Own} {s : L.RunS} {all : List N.Ent} {m : N.Mach} (hr : Ready w mb rb vO vB vW vS vR vT wv s all) (h : GoesN mb rb vO vB vW vS vR vT wv s m 0 w w') (hst : m.steps ≤ 1000) :
    ∃ vO' v1 v2 v3, Ready w' mb rb vO' vB vW v1 v2 v3 wv (upd s m) m.all ∧ Mv (FootN mb rb vO vS vR vT wv) w w' ∧ Fresh w (FootN mb rb vO vS vR vT wv) (FootN mb rb vO' v1 v2 v3 wv) := by
  obtain ⟨vO', v1, v2, v3, s', h1, h2, h3, h4, h5, h6, h12, h7, h8⟩ := h
  obtain ⟨h9, h10, h11⟩ := h8 rfl
  have hs : s' = upd s m := by
    obtain ⟨S, R, ws, p, st, d, out⟩ := s'
    obtain ⟨S', R', ws', p', st', d', out'⟩ := s
    simp only at h5 h6 h7 h9 h10 h11 h12
    subst h5 h6 h7 h9 h10 h11 h12
    rfl
  subst hs
  refine ⟨vO', v1, v2, v3, ⟨h1, h2, ?_, ?_, hst, hr.dp⟩, h3, h4⟩
  · exact tabIs_of_block hr.tab (h3.block _ (tab_lt hr.tab) hr.nof)
  · intro hf
    rcases h4 _ hf with x | x
    · exact hr.nof x
    · have := tab_lt hr.tab
      omega

theorem GoesN.trans {w w1 w2 : World} {mb rb : Nat} {vO vO' vB vW vS vR vT v1 v2 v3 : Value} {wv : List Own} {s : L.RunS} {m m2 : N.Mach} {code : Int} (hm : Mv (FootN mb rb vO vS vR vT wv) w w1) (hf : Fresh w (FootN mb rb vO vS vR vT wv) (FootN mb rb vO' v1 v2 v3 wv))
    (h : GoesN mb rb vO' vB vW v1 v2 v3 wv (upd s m) m2 code w1 w2) : GoesN mb rb vO vB vW vS vR vT wv s m2 code w w2 := by
  obtain ⟨vO, x1, x2, x3, s', h1, h2, h3, h4, h5⟩ := h
  exact ⟨vO, x1, x2, x3, s', h1, h2, hm.trans hf h3, hf.trans hm.size h4, h5⟩

theorem push_lay (s : L.RunS) (all : List N.Ent) (n : Int) (hR : s.R.length ≤ 16) (ho : s.out.length ≤ 300) : N.push (toM s all) n = (toM (L.commit s 0 0 ⟨[n], [], [], 0⟩).1 all, (L.commit s 0 0 ⟨[n], [], [], 0⟩).2) := by
  unfold N.push L.commit toM
  by_cases h : 16 ≤ s.S.length
  · rw [if_pos h, if_pos (by left; simp; omega)]
  · rw [if_neg h, if_neg (by simp; omega), if_neg (by simp; omega)]
    simp

/-- A number is laid, as the document's machine does. -/
theorem lay_N (w : World) (mb rb : Nat) (vO vB vW vS vR vT : Value) (wv : List Own) (s : L.RunS) (all : List N.Ent) (n : Int) (h : Ready w mb rb vO vB vW vS vR vT wv s all) (hn : inI64 n) :
    Calls Tryz.prog 62 #[.pointer (some ⟨rb, 0, none⟩), .int .i64 n] w fun r w' => r = .returned (.int .i64 (N.push (toM s all) n).2) ∧ GoesN mb rb vO vB vW vS vR vT wv s (N.push (toM s all) n).1 (N.push (toM s all) n).2 w w' := by
  rw [push_lay s all n h.run.rl h.run.ol]
  exact (lay_any w mb rb vO vB vW vS vR vT s n h.run hn).mono fun r w' hh => ⟨hh.1, GoesN.of_goes h.run h.own hh.2 (L.commit_same _ _ _ _)⟩

theorem listed_there {all all' : List N.Ent} (wv : List Own) (h : all.map N.there = all'.map N.there) : listed all wv = listed all' wv := by
  have key : ∀ (all : List N.Ent) (wv : List Own), listed all wv = (((all.map N.there).zip wv).filter fun p => p.1).map fun p => ownVal p.2 := by
    intro all
    induction all with
    | nil => intro wv; rfl
    | cons e t ih =>
      intro wv
      cases wv with
      | nil => rfl
      | cons o u =>
        have := ih u
        unfold listed at this ⊢
        rw [List.zip_cons_cons, List.map_cons, List.zip_cons_cons, List.filter_cons, List.filter_cons]
        simp only
        split
        · rw [List.map_cons, List.map_cons, this]
        · exact this
  rw [key, key, h]

theorem modify_get {α : Type} {l : List α} {k : Nat} {f : α → α} {j : Nat} {x : α} (h : (l.modify k f)[j]? = some x) : ∃ y, l[j]? = some y ∧ x = if k = j then f y else y := by
  rw [List.getElem?_modify] at h
  cases hl : l[j]? with
  | none => rw [hl] at h; cases h
  | some y =>
    rw [hl] at h
    injection h with h
    exact ⟨y, rfl, h.symm⟩
theorem get_modify {α : Type} {l : List α} {k : Nat} {f : α → α} {j : Nat} {y : α} (h : l[j]? = some y) : (l.modify k f)[j]? = some (if k = j then f y else y) := by
  rw [List.getElem?_modify, h]
  rfl

/-- A variable is set. -/
theorem OwnAt.setVar {w : World} {all : List N.Ent} {wv : List Own} {vO vB : Value} (h : OwnAt w all wv vO vB) {k b : Nat} {e : N.Ent} (ho : wv[k]? = some (.vari b)) (he : all[k]? = some e) (hend : e.ended = true) {x : Int} (hx : inI64 x) :
    OwnAt (w.setCell ⟨b, 2, none⟩ (.int .i64 x)) (all.modify k fun e => { e with n := x }) wv vO vB := by
  have hent := h.ent k e _ he ho hend
  obtain ⟨hk2, _, hblk⟩ := hent
  have hoth : ∀ j, j ≠ b → (w.setCell ⟨b, 2, none⟩ (.int .i64 x)).heap[j]? = w.heap[j]? := fun j hj => Below.heap_setCell _ _ _ _ hj
  have hth : (all.modify k fun e => { e with n := x }).map N.there = all.map N.there := by
    apply List.ext_getElem?
    intro i
    rw [List.getElem?_map, List.getElem?_map, List.getElem?_modify]
    cases all[i]? with
    | none => rfl
    | some y =>
      show some (N.there (if k = i then { y with n := x } else y)) = some (N.there y)
      split <;> rfl
  have hls := listed_there wv hth
  refine ⟨?_, ?_, ?_, ?_, ?_, ?_, h.apart, ?_, ?_⟩
  · rw [List.length_modify]; exact h.len
  · rw [List.length_modify]; exact h.begun
  · rw [hls]
    exact owns_kept h.row fun j hj => hoth j fun hjb => own_ne_of_type h.row hblk (by decide) (hjb ▸ hj)
  · intro j e' o hj hoj hen
    obtain ⟨y, hy, rfl⟩ := modify_get hj
    by_cases hkj : k = j
    · subst hkj
      rw [he] at hy
      injection hy with hy
      rw [ho] at hoj
      injection hoj with hoj
      subst hy hoj
      rw [if_pos rfl]
      refine ⟨hk2, hx, ?_⟩
      exact set_block hblk 2 _
    · rw [if_neg hkj] at hen ⊢
      have hy2 := h.ent j y o hy hoj hen
      cases o with
      | defn d =>
        obtain ⟨h0, vB', body, h1, h2, h3⟩ := hy2
        refine ⟨h0, vB', body, (hoth d (ne_of_type h1 hblk (by decide))).trans h1, owns_kept h2 fun i hi => hoth i fun hib => own_ne_of_type h2 hblk (by decide) (hib ▸ hi), h3⟩
      | vari d =>
        refine ⟨hy2.1, hy2.2.1, (hoth d fun hdb => hkj ?_).trans hy2.2.2⟩
        subst hdb
        exact h.apart k j d ho hoj
      | cons nm t n => exact hy2
      | mark nm t => exact hy2
  · intro j e' hj hen c hc
    obtain ⟨y, hy, rfl⟩ := modify_get hj
    have hok : cellOk all j c := by
      by_cases hkj : k = j
      · rw [if_pos hkj] at hen hc
        exact h.ok j y hy hen c hc
      · rw [if_neg hkj] at hen hc
        exact h.ok j y hy hen c hc
    rcases hok with h1 | ⟨h1, i, e2, h2, h3, h4, h5⟩ | h1 | h1
    · exact .inl h1
    · refine .inr (.inl ⟨h1, i, _, h2, h3, get_modify h4, ?_⟩)
      split
      · exact h5
      · exact h5
    · exact .inr (.inr (.inl h1))
    · exact .inr (.inr (.inr h1))
  · rw [hls]; exact h.few
  · rw [List.length_modify]; exact h.old
  · intro j b' hj
    obtain ⟨y, hy, hen⟩ := h.und j b' hj
    refine ⟨_, get_modify hy, ?_⟩
    split
    · exact hen
    · exact hen

theorem place_some {s : L.RunS} {all : List N.Ent} {t : Int} {k : Nat} (h : N.place (toM s all) t = some k) : ∃ e, all[k]? = some e ∧ N.there e = true ∧ t = 1000 + (k : Int) := by
  unfold N.place toM at h
  simp only at h
  split at h
  · cases h
  · cases ha : all[(t - 1000).toNat]? with
    | none => rw [ha] at h; cases h
    | some e =>
      rw [ha] at h
      simp only at h
      split at h
      · rename_i hlt ht
        injection h with h
        subst h
        exact ⟨e, ha, ht, by omega⟩
      · cases h

theorem there_ended {e : N.Ent} (h : N.there e = true) : e.ended = true := by
  unfold N.there at h
  rw [Bool.and_eq_true] at h
  exact h.1
end Go.Proofs.YtgnlokmeohffaaaGreatDoor
/- @, ! and execute, at whatever run: what the document's machine does. -/
namespace Go.Proofs.YtgnlokmeohffaaaGreatDoor
open Go.RowKit

/-- The word that a token leads to: a variable, or none. -/
theorem var_case {w : World} {all : List N.Ent} {wv : List Own} {vO vB : Value} (h : OwnAt w all wv vO vB) (s : L.RunS) (t : Int) :
    ((∀ W, (Instr.typeAssert (ownAt wv (N.place (toM s all) t)) 62 124 true).run Tryz.prog W = .ok (.tuple #[.pointer none, .bool false]) W) ∧
      (match N.place (toM s all) t with | some k => (match all[k]? with | some e => if e.kind = 2 then (0 : Int) else 9 | none => 9) | none => 9) = 9) ∨
    ∃ k b e, N.place (toM s all) t = some k ∧ wv[k]? = some (.vari b) ∧ all[k]? = some e ∧ e.ended = true ∧ e.kind = 2 ∧ ownAt wv (N.place (toM s all) t) = .iface 124 (.pointer (some ⟨b, 0, none⟩)) := by
  cases hp : N.place (toM s all) t with
  | none => exact .inl ⟨fun W => asv_nil W, rfl⟩
  | some k =>
    obtain ⟨e, he, ht, _⟩ := place_some hp
    have hlt : k < wv.length := by
      rw [h.len]
      exact (List.getElem?_eq_some_iff.1 he).1
    obtain ⟨o, ho⟩ : ∃ o, wv[k]? = some o := ⟨_, List.getElem?_eq_getElem hlt⟩
    have hent := h.ent k e o he ho (there_ended ht)
    have hv : ownAt wv (some k) = ownVal o := by unfold ownAt; rw [Option.bind_some, ho]; rfl
    rw [hv]
    cases o with
    | defn b =>
      refine .inl ⟨fun W => asv_defn _ W, ?_⟩
      simp only [he]
      rw [if_neg (by rw [hent.1]; decide)]
    | cons nm tk n =>
      refine .inl ⟨fun W => asv_cons _ W, ?_⟩
      simp only [he]
      rw [if_neg (by rw [hent.1]; decide)]
    | mark nm tk =>
      refine .inl ⟨fun W => asv_mark _ W, ?_⟩
      simp only [he]
      rw [if_neg (by rw [hent.1]; decide)]
    | vari b => exact .inr ⟨k, b, e, rfl, ho, he, there_ended ht, hent.1, rfl⟩

theorem take_drop_split (S : List Int) (k : Nat) : S.take (S.length - k) ++ S.drop (S.length - k) = S := List.take_append_drop _ _

theorem prim_fetch_bad (s : L.RunS) (all : List N.Ent) (x : Int) (hT : s.S.drop (s.S.length - 1) = [x]) (h1 : 1 ≤ s.S.length)
    (hw : (match N.place (toM s all) x with | some k => (match all[k]? with | some e => if e.kind = 2 then (0 : Int) else 9 | none => 9) | none => 9) = 9) : N.prim (toM s all) [64] = (toM s all, 9, none) := by
  unfold N.prim
  have ht : N.takes [64] = (1, 0, 1, 0) := by decide
  have hl : (toM s all).S.drop ((toM s all).S.length - 1) = [x] := hT
  simp only [ht, hl]
  rw [if_neg (by show ¬ (s.S.length < 1 ∨ s.R.length < 0); omega)]
  have hwr : N.wrong (toM s all) [64] [x] = 9 := hw
  rw [hwr]
  rfl
theorem prim_fetch_good (s : L.RunS) (all : List N.Ent) (x : Int) (k : Nat) (e : N.Ent) (hT : s.S.drop (s.S.length - 1) = [x]) (h1 : 1 ≤ s.S.length) (h16 : s.S.length ≤ 16) (hR : s.R.length ≤ 16) (ho : s.out.length ≤ 300)
    (hp : N.place (toM s all) x = some k) (he : all[k]? = some e) (hk : e.kind = 2) : N.prim (toM s all) [64] = (toM (L.commit s 1 0 ⟨[e.n], [], [], 0⟩).1 all, (L.commit s 1 0 ⟨[e.n], [], [], 0⟩).2, none) := by
  obtain ⟨e', he', _, hx⟩ := place_some hp
  rw [he] at he'
  injection he' with he'
  subst he'
  unfold N.prim
  have ht : N.takes [64] = (1, 0, 1, 0) := by decide
  have hl : (toM s all).S.drop ((toM s all).S.length - 1) = [x] := hT
  simp only [ht, hl]
  rw [if_neg (by show ¬ (s.S.length < 1 ∨ s.R.length < 0); omega)]
  have hwr : N.wrong (toM s all) [64] [x] = 0 := by
    show (match N.place (toM s all) x with | some k => (match all[k]? with | some e => if e.kind = 2 then (0 : Int) else 9 | none => 9) | none => 9) = 0
    rw [hp]
    simp only [he]
    rw [if_pos hk]
  rw [hwr]
  have hc : L.commit s 1 0 ⟨[e.n], [], [], 0⟩ = ({ s with S := s.S.take (s.S.length - 1) ++ [e.n], R := s.R.take (s.R.length - 0) ++ [], out := s.out ++ [] }, 0) :=
    (if_neg (by simp; omega)).trans (if_neg (by simp; omega))
  rw [hc]
  simp only [ne_eq, not_true_eq_false, if_false]
  rw [if_neg (by show ¬ (16 < s.S.length - 1 + 1 ∨ 16 < s.R.length - 0 + 0); omega), if_neg (by show ¬ (300 < s.out.length + 0); omega)]
  have hxk : (x - 1000).toNat = k := by omega
  show ((⟨all, s.S.take (s.S.length - 1) ++ [(all[(x - 1000).toNat]?.map (·.n)).getD 0], s.R, s.out ++ [], s.steps⟩ : N.Mach), (0 : Int), (none : Option Nat)) = _
  rw [hxk, he]
  simp [toM]

/-- @ -/
theorem prim_fetch (w : World) (mb rb : Nat) (vO vB vW vS vR vT : Value) (wv : List Own) (s : L.RunS) (all : List N.Ent) (h : Ready w mb rb vO vB vW vS vR vT wv s all) :
    Calls Tryz.prog 63 #[.pointer (some ⟨rb, 0, none⟩), primVal ⟨[64], 1, 0, 3⟩] w fun r w' => r = .returned (.int .i64 (N.prim (toM s all) [64]).2.1) ∧ (N.prim (toM s all) [64]).2.2 = none ∧ GoesN mb rb vO vB vW vS vR vT wv s (N.prim (toM s all) [64]).1 (N.prim (toM s all) [64]).2.1 w w' := by
  by_cases hu : s.S.length < 1 ∨ s.R.length < 0
  · have hd : N.prim (toM s all) [64] = (toM s all, 6, none) := if_pos hu
    rw [hd]
    exact (doPrim_few w mb rb vO vB vW vS vR vT s _ 1 0 3 h.run hu).mono fun r w' hh => ⟨hh.1, rfl, GoesN.stay h.run h.own hh.2⟩
  · have h1 : 1 ≤ s.S.length := by omega
    have hTl : (s.S.drop (s.S.length - 1)).length = 1 := by rw [List.length_drop]; omega
    obtain ⟨x, hx⟩ : ∃ x, s.S.drop (s.S.length - 1) = [x] := List.length_eq_one_iff.1 hTl
    have tail : ∀ (code : Int) (Q : World → World → Prop), (∀ W, Below w.heap.size w W → Calls Tryz.prog 102 #[.pointer (some ⟨rb, 0, none⟩), ownAt wv (N.place (toM s all) x)] W fun r w' => r = .returned (.int .i64 code) ∧ Q W w') →
        Calls Tryz.prog 63 #[.pointer (some ⟨rb, 0, none⟩), primVal ⟨[64], 1, 0, 3⟩] w fun r w' => r = .returned (.int .i64 code) ∧ ∃ W, Below w.heap.size w W ∧ Q W w' := by
      intro code Q hF
      refine (doPrim_tail w mb rb vO vB vW vS vR vT s ⟨#[64]⟩ 1 0 3 code (fun W w' => ∃ W', Below W.heap.size W W' ∧ Below w.heap.size w W ∧ Q W' w') h.run h1 (Nat.zero_le _) fun vT' vA' hs _ => .inl ⟨rfl, fun W hb => ?_⟩).mono ?_
      · rw [hx] at hs
        obtain ⟨b, o, c, y, hy, rfl, hc⟩ := src_one hs rfl
        injection hy with hy
        subst hy
        refine (reach_fetch W mb rb b o c 1 0 rfl (by decide) x (ownAt wv (N.place (toM s all) x)) code (fun W' w' => Q W' w') (cell_of_block (h.run.below hb).r rfl) (cell_below hc hb) (hide fun W1 hb1 => ?_) (hide fun W1 hb1 => ?_)).mono ?_
        · have hr1 := (h.below hb).below hb1
          exact byTok_any W1 mb x s all wv vO vB (cell_of_block hr1.run.m rfl) hr1.own
        · exact hF W1 (hb.trans (hb1.mono hb.size))
        · rintro r w' ⟨rfl, W', hb', hq⟩
          exact ⟨rfl, W', hb', hb, hq⟩
      · rintro r w' ⟨rfl, W, _, W', hb', hb, hq⟩
        exact ⟨rfl, W', hb.trans (hb'.mono hb.size), hq⟩
    rcases var_case h.own s x with ⟨hta, hw⟩ | ⟨k, b, e, hp, ho, he, hen, hk2, hv⟩
    · rw [prim_fetch_bad s all x hx h1 hw]
      refine (tail 9 (fun W w' => w' = W) fun W hb => fetch_not W rb _ hta).mono ?_
      rintro r w' ⟨rfl, W, hb, rfl⟩
      exact ⟨rfl, rfl, GoesN.stay h.run h.own hb⟩
    · rw [prim_fetch_good s all x k e hx h1 h.run.sl h.run.rl h.run.ol hp he hk2]
      refine (tail (L.commit s 1 0 ⟨[e.n], [], [], 0⟩).2 (fun W w' => GoesN mb rb vO vB vW vS vR vT wv s (toM (L.commit s 1 0 ⟨[e.n], [], [], 0⟩).1 all) (L.commit s 1 0 ⟨[e.n], [], [], 0⟩).2 W w') fun W hb => ?_).mono ?_
      · rw [hv]
        have hr := h.below hb
        obtain ⟨_, hin, hblk⟩ := hr.own.ent k e _ he ho hen
        have hba : Below W.heap.size W (W.alloc (Obj.cells #[Value.int .i64 e.n] 3)) := (Below.refl _ _).alloc (Nat.le_refl _) _
        refine fetch_walk W rb b e.n _ _ (cell_of_block hblk rfl) (hide ?_)
        refine (commit_any (W.alloc (Obj.cells #[Value.int .i64 e.n] 3)) mb rb vO vB vW vS vR vT _ s 1 0 W.heap.size ⟨[e.n], [], [], 0⟩ (hr.run.below hba) (fun k hk => hr.run.lt k (.inl hk))
          ⟨_, _, rfl, src_new W [Value.int .i64 e.n] 3 rfl rfl, Src.nil _, own_at (Nat.le_refl _), own_none⟩ h1 (Nat.zero_le _) (by simp) (by simp) (by simp) (by simpa using hin) (by simp)).mono ?_
        rintro r w' ⟨rfl, hg⟩
        exact ⟨rfl, GoesN.after hba (GoesN.of_goes (hr.run.below hba) (hr.own.below hba) hg (L.commit_same _ _ _ _))⟩
      · rintro r w' ⟨rfl, W, hb, hg⟩
        exact ⟨rfl, rfl, GoesN.after hb hg⟩

theorem prim_store_bad (s : L.RunS) (all : List N.Ent) (x y : Int) (hT : s.S.drop (s.S.length - 2) = [x, y]) (h1 : 2 ≤ s.S.length)
    (hw : (match N.place (toM s all) y with | some k => (match all[k]? with | some e => if e.kind = 2 then (0 : Int) else 9 | none => 9) | none => 9) = 9) : N.prim (toM s all) [33] = (toM s all, 9, none) := by
  unfold N.prim
  have ht : N.takes [33] = (2, 0, 0, 0) := by decide
  have hl : (toM s all).S.drop ((toM s all).S.length - 2) = [x, y] := hT
  simp only [ht, hl]
  rw [if_neg (by show ¬ (s.S.length < 2 ∨ s.R.length < 0); omega)]
  have hwr : N.wrong (toM s all) [33] [x, y] = 9 := hw
  rw [hwr]
  rfl
theorem prim_store_good (s : L.RunS) (all : List N.Ent) (x y : Int) (k : Nat) (e : N.Ent) (hT : s.S.drop (s.S.length - 2) = [x, y]) (h1 : 2 ≤ s.S.length) (h16 : s.S.length ≤ 16) (hR : s.R.length ≤ 16) (ho : s.out.length ≤ 300)
    (hp : N.place (toM s all) y = some k) (he : all[k]? = some e) (hk : e.kind = 2) : N.prim (toM s all) [33] = (toM (L.commit s 2 0 ⟨[], [], [], 0⟩).1 (all.modify k fun e => { e with n := x }), (L.commit s 2 0 ⟨[], [], [], 0⟩).2, none) ∧ (L.commit s 2 0 ⟨[], [], [], 0⟩).2 = 0 := by
  obtain ⟨e', he', _, hx⟩ := place_some hp
  unfold N.prim
  have ht : N.takes [33] = (2, 0, 0, 0) := by decide
  have hl : (toM s all).S.drop ((toM s all).S.length - 2) = [x, y] := hT
  simp only [ht, hl]
  rw [if_neg (by show ¬ (s.S.length < 2 ∨ s.R.length < 0); omega)]
  have hwr : N.wrong (toM s all) [33] [x, y] = 0 := by
    show (match N.place (toM s all) y with | some k => (match all[k]? with | some e => if e.kind = 2 then (0 : Int) else 9 | none => 9) | none => 9) = 0
    rw [hp]
    simp only [he]
    rw [if_pos hk]
  rw [hwr]
  have hc : L.commit s 2 0 ⟨[], [], [], 0⟩ = ({ s with S := s.S.take (s.S.length - 2) ++ [], R := s.R.take (s.R.length - 0) ++ [], out := s.out ++ [] }, 0) :=
    (if_neg (by simp; omega)).trans (if_neg (by simp; omega))
  rw [hc]
  simp only [ne_eq, not_true_eq_false, if_false]
  rw [if_neg (by show ¬ (16 < s.S.length - 2 + 0 ∨ 16 < s.R.length - 0 + 0); omega), if_neg (by show ¬ (300 < s.out.length + 0); omega)]
  have hxk : (y - 1000).toNat = k := by omega
  refine ⟨?_, trivial⟩
  show ((⟨all.modify (y - 1000).toNat fun e => { e with n := x }, s.S.take (s.S.length - 2), s.R, s.out ++ [], s.steps⟩ : N.Mach), (0 : Int), (none : Option Nat)) = _
  rw [hxk]
  simp [toM]

/-- A run's blocks and a variable's. -/
theorem RunAt.setVar {w : World} {mb rb b : Nat} {vO vB vW vS vR vT : Value} {s : L.RunS} {cs : Array Value} (h : RunAt w mb rb vO vB vW vS vR vT s) (hb : w.heap[b]? = some (.cells cs 129)) (u : Value) : RunAt (w.setCell ⟨b, 2, none⟩ u) mb rb vO vB vW vS vR vT s := by
  refine h.kept fun k hk => Below.heap_setCell _ _ _ _ ?_
  rintro rfl
  rcases hk with hk | hk
  · exact foot_not_own h ⟨_, _, _, hb, .inr (.inl rfl)⟩ hk
  · exact own_ne_of_type h.wd hb (by decide) hk

/-- ! -/
theorem prim_store (w : World) (mb rb : Nat) (vO vB vW vS vR vT : Value) (wv : List Own) (s : L.RunS) (all : List N.Ent) (h : Ready w mb rb vO vB vW vS vR vT wv s all) :
    Calls Tryz.prog 63 #[.pointer (some ⟨rb, 0, none⟩), primVal ⟨[33], 2, 0, 3⟩] w fun r w' => r = .returned (.int .i64 (N.prim (toM s all) [33]).2.1) ∧ (N.prim (toM s all) [33]).2.2 = none ∧ GoesN mb rb vO vB vW vS vR vT wv s (N.prim (toM s all) [33]).1 (N.prim (toM s all) [33]).2.1 w w' := by
  by_cases hu : s.S.length < 2 ∨ s.R.length < 0
  · have hd : N.prim (toM s all) [33] = (toM s all, 6, none) := if_pos hu
    rw [hd]
    exact (doPrim_few w mb rb vO vB vW vS vR vT s _ 2 0 3 h.run hu).mono fun r w' hh => ⟨hh.1, rfl, GoesN.stay h.run h.own hh.2⟩
  · have h1 : 2 ≤ s.S.length := by omega
    have hTl : (s.S.drop (s.S.length - 2)).length = 2 := by rw [List.length_drop]; omega
    obtain ⟨x, y, hx⟩ : ∃ x y, s.S.drop (s.S.length - 2) = [x, y] := by
      match s.S.drop (s.S.length - 2), hTl with
      | [x, y], _ => exact ⟨x, y, rfl⟩
    have tail : ∀ (code : Int) (Q : World → World → Prop), (∀ W, Below w.heap.size w W → Calls Tryz.prog 103 #[.pointer (some ⟨rb, 0, none⟩), ownAt wv (N.place (toM s all) y), .int .i64 x] W fun r w' => r = .returned (.int .i64 code) ∧ Q W w') →
        Calls Tryz.prog 63 #[.pointer (some ⟨rb, 0, none⟩), primVal ⟨[33], 2, 0, 3⟩] w fun r w' => r = .returned (.int .i64 code) ∧ ∃ W, Below w.heap.size w W ∧ Q W w' := by
      intro code Q hF
      refine (doPrim_tail w mb rb vO vB vW vS vR vT s ⟨#[33]⟩ 2 0 3 code (fun W w' => ∃ W', Below W.heap.size W W' ∧ Below w.heap.size w W ∧ Q W' w') h.run h1 (Nat.zero_le _) fun vT' vA' hs _ => .inl ⟨rfl, fun W hb => ?_⟩).mono ?_
      · rw [hx] at hs
        obtain ⟨b, o, c, x', y', hy, rfl, hc0, hc1⟩ := src_two hs rfl
        injection hy with hy1 hy2
        injection hy2 with hy2
        subst hy1 hy2
        refine (reach_store W mb rb b o c 2 1 rfl (by decide) y x (ownAt wv (N.place (toM s all) y)) code (fun W' w' => Q W' w') (cell_of_block (h.run.below hb).r rfl) (cell_below hc1 hb) (cell_below hc0 hb) (hide fun W1 hb1 => ?_) (hide fun W1 hb1 => ?_)).mono ?_
        · have hr1 := (h.below hb).below hb1
          exact byTok_any W1 mb y s all wv vO vB (cell_of_block hr1.run.m rfl) hr1.own
        · exact hF W1 (hb.trans (hb1.mono hb.size))
        · rintro r w' ⟨rfl, W', hb', hq⟩
          exact ⟨rfl, W', hb', hb, hq⟩
      · rintro r w' ⟨rfl, W, _, W', hb', hb, hq⟩
        exact ⟨rfl, W', hb.trans (hb'.mono hb.size), hq⟩
    rcases var_case h.own s y with ⟨hta, hw⟩ | ⟨k, b, e, hp, ho, he, hen, hk2, hv⟩
    · rw [prim_store_bad s all x y hx h1 hw]
      refine (tail 9 (fun W w' => w' = W) fun W hb => store_not W rb _ x hta).mono ?_
      rintro r w' ⟨rfl, W, hb, rfl⟩
      exact ⟨rfl, rfl, GoesN.stay h.run h.own hb⟩
    · obtain ⟨hpr, hc0⟩ := prim_store_good s all x y k e hx h1 h.run.sl h.run.rl h.run.ol hp he hk2
      rw [hpr]
      have hxin : inI64 x := h.run.si x (List.mem_of_mem_drop (i := s.S.length - 2) (by rw [hx]; simp))
      refine (tail (L.commit s 2 0 ⟨[], [], [], 0⟩).2 (fun W w' => GoesN mb rb vO vB vW vS vR vT wv s (toM (L.commit s 2 0 ⟨[], [], [], 0⟩).1 (all.modify k fun e => { e with n := x })) (L.commit s 2 0 ⟨[], [], [], 0⟩).2 W w') fun W hb => ?_).mono ?_
      · rw [hv]
        have hr := h.below hb
        obtain ⟨_, hin, hblk⟩ := hr.own.ent k e _ he ho hen
        have hrun2 := hr.run.setVar hblk (.int .i64 x)
        have hown2 := hr.own.setVar ho he hen hxin
        refine store_walk W rb b e.n x _ _ (cell_of_block hblk rfl) (frozen_of_block 2 hblk) (hide ?_)
        refine (commit_any (W.setCell ⟨b, 2, none⟩ (.int .i64 x)) mb rb vO vB vW vS vR vT _ s 2 0 (W.setCell ⟨b, 2, none⟩ (.int .i64 x)).heap.size ⟨[], [], [], 0⟩ hrun2 (fun k hk => hrun2.lt k (.inl hk))
          ⟨_, _, rfl, Src.nil _, Src.nil _, own_none, own_none⟩ h1 (Nat.zero_le _) (by simp) (by simp) (by simp) (by simp) (by simp)).mono ?_
        rintro r w' ⟨rfl, hg⟩
        refine ⟨rfl, ?_⟩
        obtain ⟨vO', v1, v2, v3, s', g1, g2, g3, g4, g5⟩ := GoesN.of_goes (code := (L.commit s 2 0 ⟨[], [], [], 0⟩).2) hrun2 hown2 hg (L.commit_same _ _ _ _)
        have hmv : Mv (FootN mb rb vO vS vR vT wv) W (W.setCell ⟨b, 2, none⟩ (.int .i64 x)) := (Mv.refl _ _).setCell (.inl (.inr (.inl ⟨k, ho⟩))) _
        exact ⟨vO', v1, v2, v3, s', g1, g2, hmv.trans (Fresh.refl _ _) g3, (Fresh.refl _ _).trans hmv.size g4, g5⟩
      · rintro r w' ⟨rfl, W, hb, hg⟩
        exact ⟨rfl, rfl, GoesN.after hb hg⟩
end Go.Proofs.YtgnlokmeohffaaaGreatDoor
/- A definition while it is done, in memory; test, enter, countLoop: the walks. -/
namespace Go.Proofs.YtgnlokmeohffaaaGreatDoor
open Go.RowKit
attribute [local go_sem ↓] Go.wp_at_zero Go.wp_at_succ

/-- The loops that are being done (limit, count), as they lie. -/
def loopCells (r : List (Int × Int)) : List Value := r.flatMap fun p => [Value.int .i64 p.2, Value.int .i64 p.1]
theorem loopCells_len (r : List (Int × Int)) : (loopCells r).length = r.length * 2 := by
  induction r with
  | nil => rfl
  | cons p t ih =>
    simp [loopCells] at ih ⊢
    omega
theorem loopCells_snoc (r : List (Int × Int)) (p : Int × Int) : loopCells (r ++ [p]) = loopCells r ++ [.int .i64 p.2, .int .i64 p.1] := by simp [loopCells]

structure CallAt (w : World) (cb rb db pos : Nat) (vL : Value) (r : List (Int × Int)) : Prop where
  c : w.heap[cb]? = some (.cells #[.pointer (some ⟨rb, 0, none⟩), .pointer (some ⟨db, 0, none⟩), .int .i64 pos, vL] 163)
  l : w.ownsRow 0 206 2 vL r.length (loopCells r)
  li : ∀ p ∈ r, inI64 p.1 ∧ inI64 p.2

theorem ownsz_block {w : World} {base e z n k : Nat} {v : Value} {xs : List Value} (h : w.ownsRow base e z v n xs) (hk : v.ownBlock = some k) : ∃ cur, w.heap[k]? = some (.cells cur e) := by
  rcases h.2 with ⟨rfl, _⟩ | ⟨g, cap, cur, rfl, _, hg, _⟩
  · simp [Value.ownBlock] at hk
  · simp [Value.ownBlock] at hk
    subst hk
    exact ⟨cur, hg⟩
theorem ownsz_kept {w w' : World} {base e z n : Nat} {v : Value} {xs : List Value} (h : w.ownsRow base e z v n xs) (hk : ∀ k, v.ownBlock = some k → w'.heap[k]? = w.heap[k]?) : w'.ownsRow base e z v n xs := by
  refine ⟨h.1, ?_⟩
  rcases h.2 with h1 | ⟨g, cap, cur, rfl, hb, hg, hr⟩
  · exact .inl h1
  · exact .inr ⟨g, cap, cur, rfl, hb, by rw [hk g rfl]; exact hg, hr⟩
theorem ownsz_take {w : World} {base e z n cap : Nat} {a : Option Addr} {xs : List Value} (h : w.ownsRow base e z (.slice a n cap) n xs) (k : Nat) (hk : k ≤ n) : w.ownsRow base e z (.slice a k cap) k (xs.take (k * z)) := by
  have hl := h.1
  have hkz : k * z ≤ n * z := Nat.mul_le_mul_right z hk
  refine ⟨by rw [List.length_take]; omega, ?_⟩
  rcases h.2 with ⟨h1, h2⟩ | ⟨g, cap', cur, h1, hb, hg, hle, hm, hs, ht⟩
  · injection h1 with h3 h4 h5
    exact .inl ⟨by rw [h3, h5, show k = 0 by omega], by omega⟩
  · injection h1 with h3 h4 h5
    subst h5
    refine .inr ⟨g, cap, cur, by rw [h3], hb, hg, by omega, hm, hs, ?_⟩
    rw [← ht, List.take_take, Nat.min_eq_left hkz]

/-- The blocks of a definition while it is done. -/
def CBlock (w : World) (k : Nat) : Prop := ∃ cs t fr, w.heap[k]? = some (.cells cs t fr) ∧ (t = 163 ∨ t = 206)
theorem CallAt.block {w : World} {cb rb db pos : Nat} {vL : Value} {r : List (Int × Int)} (h : CallAt w cb rb db pos vL r) {k : Nat} (hk : k = cb ∨ vL.ownBlock = some k) : CBlock w k := by
  rcases hk with rfl | hk
  · exact ⟨_, _, _, h.c, .inl rfl⟩
  · obtain ⟨cur, hc⟩ := ownsz_block h.l hk
    exact ⟨_, _, _, hc, .inr rfl⟩
theorem CallAt.kept {w w' : World} {cb rb db pos : Nat} {vL : Value} {r : List (Int × Int)} (h : CallAt w cb rb db pos vL r) (hk : ∀ k, k = cb ∨ vL.ownBlock = some k → w'.heap[k]? = w.heap[k]?) : CallAt w' cb rb db pos vL r :=
  ⟨(hk cb (.inl rfl)).trans h.c, ownsz_kept h.l fun k e => hk k (.inr e), h.li⟩
theorem cblock_lt {w : World} {k : Nat} (h : CBlock w k) : k < w.heap.size := by
  obtain ⟨_, _, _, h, _⟩ := h
  exact heap_lt h
theorem CallAt.below {w w' : World} {cb rb db pos : Nat} {vL : Value} {r : List (Int × Int)} (h : CallAt w cb rb db pos vL r) (hb : Below w.heap.size w w') : CallAt w' cb rb db pos vL r :=
  h.kept fun k hk => hb.block k (cblock_lt (h.block hk))

theorem typed_ne {w : World} {k : Nat} {cs cs' : Array Value} {t t' : TypeId} {fr fr' : Nat × Nat} (h : w.heap[k]? = some (.cells cs t fr)) (h' : w.heap[k]? = some (.cells cs' t' fr')) : t = t' := by
  rw [h] at h'
  injection h' with h'
  injection h'
/-- A run's blocks, a variable's, those of words of one's own are none of these. -/
theorem foot_not_call {w : World} {mb rb : Nat} {vO vB vW vS vR vT : Value} {s : L.RunS} (h : RunAt w mb rb vO vB vW vS vR vT s) {k : Nat} (hk : CBlock w k) : ¬ (Foot mb rb vS vR vT k ∨ vW.ownBlock = some k) := by
  obtain ⟨cs, t, fr, hc, ht⟩ := hk
  rintro ((rfl | rfl | e | e | e) | e)
  · have := typed_ne hc h.m
    subst this
    revert ht
    decide
  · have := typed_ne hc h.r
    subst this
    revert ht
    decide
  · obtain ⟨_, h'⟩ := owns_block h.st e
    have := typed_ne hc h'
    subst this
    revert ht
    decide
  · obtain ⟨_, h'⟩ := owns_block h.asd e
    have := typed_ne hc h'
    subst this
    revert ht
    decide
  · obtain ⟨_, h'⟩ := owns_block h.ot e
    have := typed_ne hc h'
    subst this
    revert ht
    decide
  · obtain ⟨_, h'⟩ := owns_block h.wd e
    have := typed_ne hc h'
    subst this
    revert ht
    decide
theorem own_not_call {w : World} {k : Nat} (h : OBlock w k) (hk : CBlock w k) : False := by
  obtain ⟨_, t, _, h1, h2⟩ := h
  obtain ⟨_, t', _, h3, h4⟩ := hk
  have := typed_ne h1 h3
  subst this
  revert h2 h4
  rintro (rfl | rfl | rfl | rfl) <;> decide
theorem var_block {w : World} {all : List N.Ent} {wv : List Own} {vO vB : Value} (h : OwnAt w all wv vO vB) {k : Nat} (hk : VarIn wv k) : OBlock w k := by
  obtain ⟨j, hj⟩ := hk
  obtain ⟨e, he, hen⟩ := h.und j k hj
  obtain ⟨_, _, hb⟩ := h.ent j e _ he hj hen
  exact ⟨_, _, _, hb, .inr (.inl rfl)⟩

set_option maxRecDepth 100000 in
theorem test_under (w : World) (cb rb : Nat) (goal : Int) (P : World → Prop) (h0 : w.cell? ⟨cb, 0, none⟩ = some (.pointer (some ⟨rb, 0, none⟩)))
    (H : Hid (Calls Tryz.prog 114 #[.pointer (some ⟨rb, 0, none⟩), .int .i64 1] w fun r w' => r = .returned (.tuple #[.slice none 0 0, .int .i64 6]) ∧ P w')) :
    Calls Tryz.prog 129 #[.pointer (some ⟨cb, 0, none⟩), .int .i64 goal] w fun r w' => r = .returned (.int .i64 6) ∧ P w' := by
  go_enter Tryz.func129, Tryz.ntmps129
  go_wp2_with fail
  refine (unhide H).mono ?_
  rintro e w1 ⟨rfl, hP⟩
  have HP := hide hP
  clear hP
  go_wp2
  go_ret
  exact ⟨rfl, unhide HP⟩
set_option maxRecDepth 100000 in
theorem test_zero (w : World) (cb rb : Nat) (goal pos : Int) (P : World → Prop) (h0 : w.cell? ⟨cb, 0, none⟩ = some (.pointer (some ⟨rb, 0, none⟩)))
    (H : Hid (Calls Tryz.prog 114 #[.pointer (some ⟨rb, 0, none⟩), .int .i64 1] w fun r w' => ∃ g o c, r = .returned (.tuple #[.slice (some ⟨g, o, none⟩) 1 c, .int .i64 0]) ∧ w'.cell? ⟨g, o, none⟩ = some (.int .i64 0) ∧ w'.cell? ⟨cb, 2, none⟩ = some (.int .i64 pos) ∧ w'.frozen? ⟨cb, 2, none⟩ = false ∧ P w')) :
    Calls Tryz.prog 129 #[.pointer (some ⟨cb, 0, none⟩), .int .i64 goal] w fun r w' => r = .returned (.int .i64 0) ∧ ∃ w1, P w1 ∧ w' = w1.setCell ⟨cb, 2, none⟩ (.int .i64 goal) := by
  go_enter Tryz.func129, Tryz.ntmps129
  go_wp2_with fail
  refine (unhide H).mono ?_
  rintro e w1 ⟨g, o, c, rfl, c0, c2, f2, hP⟩
  have HP := hide hP
  clear hP
  go_wp2
  go_ret
  exact ⟨rfl, w1, unhide HP, rfl⟩
set_option maxRecDepth 100000 in
theorem test_other (w : World) (cb rb : Nat) (x goal : Int) (hx : (x == 0) = false) (P : World → Prop) (h0 : w.cell? ⟨cb, 0, none⟩ = some (.pointer (some ⟨rb, 0, none⟩)))
    (H : Hid (Calls Tryz.prog 114 #[.pointer (some ⟨rb, 0, none⟩), .int .i64 1] w fun r w' => ∃ g o c, r = .returned (.tuple #[.slice (some ⟨g, o, none⟩) 1 c, .int .i64 0]) ∧ w'.cell? ⟨g, o, none⟩ = some (.int .i64 x) ∧ P w')) :
    Calls Tryz.prog 129 #[.pointer (some ⟨cb, 0, none⟩), .int .i64 goal] w fun r w' => r = .returned (.int .i64 0) ∧ P w' := by
  go_enter Tryz.func129, Tryz.ntmps129
  go_wp2_with fail
  refine (unhide H).mono ?_
  rintro e w1 ⟨g, o, c, rfl, c0, hP⟩
  have HP := hide hP
  clear hP
  go_wp2
  go_ret
  exact ⟨rfl, unhide HP⟩

set_option maxRecDepth 100000 in
theorem enter_under (w : World) (cb rb : Nat) (goal : Int) (P : World → Prop) (h0 : w.cell? ⟨cb, 0, none⟩ = some (.pointer (some ⟨rb, 0, none⟩)))
    (H : Hid (Calls Tryz.prog 114 #[.pointer (some ⟨rb, 0, none⟩), .int .i64 2] w fun r w' => r = .returned (.tuple #[.slice none 0 0, .int .i64 6]) ∧ P w')) :
    Calls Tryz.prog 130 #[.pointer (some ⟨cb, 0, none⟩), .int .i64 goal] w fun r w' => r = .returned (.int .i64 6) ∧ P w' := by
  go_enter Tryz.func130, Tryz.ntmps130
  go_wp2_with fail
  refine (unhide H).mono ?_
  rintro e w1 ⟨rfl, hP⟩
  have HP := hide hP
  clear hP
  go_wp2
  go_ret
  exact ⟨rfl, unhide HP⟩
set_option maxRecDepth 100000 in
set_option maxHeartbeats 800000 in
theorem enter_past (w : World) (cb rb : Nat) (x y goal pos : Int) (hxy : ¬ y < x) (P : World → Prop) (h0 : w.cell? ⟨cb, 0, none⟩ = some (.pointer (some ⟨rb, 0, none⟩)))
    (H : Hid (Calls Tryz.prog 114 #[.pointer (some ⟨rb, 0, none⟩), .int .i64 2] w fun r w' => ∃ g o c, r = .returned (.tuple #[.slice (some ⟨g, o, none⟩) 2 c, .int .i64 0]) ∧ w'.cell? ⟨g, o, none⟩ = some (.int .i64 x) ∧ w'.cell? ⟨g, o + 1, none⟩ = some (.int .i64 y) ∧ w'.cell? ⟨cb, 2, none⟩ = some (.int .i64 pos) ∧ w'.frozen? ⟨cb, 2, none⟩ = false ∧ P w')) :
    Calls Tryz.prog 130 #[.pointer (some ⟨cb, 0, none⟩), .int .i64 goal] w fun r w' => r = .returned (.int .i64 0) ∧ ∃ w1, P w1 ∧ w' = w1.drew.setCell ⟨cb, 2, none⟩ (.int .i64 goal) := by
  go_enter Tryz.func130, Tryz.ntmps130
  go_wp2_with fail
  refine (unhide H).mono ?_
  rintro e w1 ⟨g, o, c, rfl, c0, c1, c2, f2, hP⟩
  have HP := hide hP
  clear hP
  go_wp2
  go_region_held3 (fun w' => w'.cell? ⟨g, o, none⟩ = some (.int .i64 x) ∧ w'.cell? ⟨g, o + 1, none⟩ = some (.int .i64 y)) (first | exact ⟨c0, c1⟩ | go_keep) (fail)
  go_wp2
  go_ret
  exact ⟨rfl, w1, unhide HP, rfl⟩
end Go.Proofs.YtgnlokmeohffaaaGreatDoor
/- enter into a loop, countLoop: the walks. -/
namespace Go.Proofs.YtgnlokmeohffaaaGreatDoor
open Go.RowKit
attribute [local go_sem ↓] Go.wp_at_zero Go.wp_at_succ

theorem infoLoop : ∃ i, (Tryz.prog).info? 206 = some i ∧ i.zero = some (.agg #[.int .i64 0, .int .i64 0]) ∧ i.size = 2 ∧ i.bytes = 16 := info_of (by kernel_rfl)

set_option maxRecDepth 100000 in
set_option maxHeartbeats 1600000 in
theorem enter_into (w : World) (cb rb db : Nat) (x y goal : Int) (pos : Nat) (hxy : y < x) (vL : Value) (r : List (Int × Int)) (hr : r.length ≤ 1000) (hin : inI64 x ∧ inI64 y) (P : World → Prop) (h0 : w.cell? ⟨cb, 0, none⟩ = some (.pointer (some ⟨rb, 0, none⟩)))
    (H : Hid (Calls Tryz.prog 114 #[.pointer (some ⟨rb, 0, none⟩), .int .i64 2] w fun e w' => ∃ g o c, e = .returned (.tuple #[.slice (some ⟨g, o, none⟩) 2 c, .int .i64 0]) ∧ w'.cell? ⟨g, o, none⟩ = some (.int .i64 x) ∧ w'.cell? ⟨g, o + 1, none⟩ = some (.int .i64 y) ∧ CallAt w' cb rb db pos vL r ∧ P w')) :
    Calls Tryz.prog 130 #[.pointer (some ⟨cb, 0, none⟩), .int .i64 goal] w fun e w' => e = .returned (.int .i64 0) ∧ ∃ w1 vL', P w1 ∧ CallAt w1 cb rb db pos vL r ∧ CallAt w' cb rb db pos vL' (r ++ [(x, y)]) ∧ Mv (fun k => k = cb ∨ vL.ownBlock = some k) w1 w' ∧ Fresh w1 (fun k => vL.ownBlock = some k) (fun k => vL'.ownBlock = some k) := by
  obtain ⟨iL, hi, hz, hs, hb⟩ := infoLoop
  go_enter Tryz.func130, Tryz.ntmps130
  go_wp2_with fail
  refine (unhide H).mono ?_
  rintro e w1 ⟨g, o, c, rfl, c0, c1, hcall, hP⟩
  have HP := hide hP
  have HC := hide hcall
  have d3 : w1.cell? ⟨cb, 3, none⟩ = some vL := cell_of_block hcall.c rfl
  obtain ⟨aL, capL, hvL⟩ : ∃ a c, vL = .slice a r.length c := by
    rcases hcall.l.2 with ⟨h1, h2⟩ | ⟨g, cap, cur, h1, _⟩
    · exact ⟨none, 0, by rw [h1, h2]⟩
    · exact ⟨_, _, h1⟩
  subst hvL
  have f3 : w1.frozen? ⟨cb, 3, none⟩ = false := frozen_of_block 3 hcall.c
  have hne : some cb ≠ (Value.slice aL r.length capL).ownBlock := fun e => by
    obtain ⟨_, h'⟩ := ownsz_block hcall.l e.symm
    have := typed_ne hcall.c h'
    revert this
    decide
  clear hP hcall
  go_wp2
  go_region_held3 (fun w' => w'.cell? ⟨g, o, none⟩ = some (.int .i64 x) ∧ w'.cell? ⟨g, o + 1, none⟩ = some (.int .i64 y)) (first | exact ⟨c0, c1⟩ | go_keep) (fail)
  have hnew : (w1.alloc (Obj.cells #[Value.int .i64 y, Value.int .i64 x] 206)).drew.heap[w1.heap.size]? = some (.cells #[Value.int .i64 y, Value.int .i64 x] 206) := heap_alloc_new w1 _
  go_wp2_with (
    at_builtin
    refine wpList_append_lies _ (by rfl) (.tmp 33) (.tmp 37) 161 (by rfl) 0 206 iL (.agg #[.int .i64 0, .int .i64 0]) 2 16 Tryz.underlying161 hi hz hs hb rfl (by decide) (.slice aL r.length capL) r.length (loopCells r) (by rfl) (by exact (unhide HC).l.alloc _) ⟨w1.heap.size, 0, none⟩ 1 1 [.int .i64 y, .int .i64 x] (by rfl) rfl (World.news_of_block hnew) (fun u hu => by simp at hu; rcases hu with rfl | rfl <;> rfl) (by decide) (by unfold maxLen; omega) (by omega) (Nat.zero_le _) _ rfl ?_
    intro g3 cap3 w3 hown3 hgrow3 hat3 hlt3
    have hgrow3 : (w1.alloc (Obj.cells #[Value.int .i64 y, Value.int .i64 x] 206)).grownBy w3 (Value.slice aL r.length capL).ownBlock := ⟨hgrow3.os, hgrow3.tape, hgrow3.output, hgrow3.size, hgrow3.block⟩
    have e3 : (w1.alloc (Obj.cells #[Value.int .i64 y, Value.int .i64 x] 206)).cell? ⟨cb, 3, none⟩ = some (.slice aL r.length capL) := cell_alloc d3 _
    have f4 : (w1.alloc (Obj.cells #[Value.int .i64 y, Value.int .i64 x] 206)).frozen? ⟨cb, 3, none⟩ = false := grown_fz (World.grownBy_alloc w1 _ none) d3 f3 (by simp)
    have e5 := hgrow3.cell e3 hne
    have f5 := grown_fz hgrow3 e3 f4 hne
    have G3 := hide hgrow3
    have O3 := hide hown3
    have A3 := hide hat3
    clear hgrow3 hown3 hat3)
  go_ret
  have hcall := unhide HC
  have hg := unhide G3
  have hlt1 : cb < (w1.alloc (Obj.cells #[Value.int .i64 y, Value.int .i64 x] 206)).heap.size := by
    have := heap_lt hcall.c
    show cb < (w1.alloc _).heap.size
    simp
    omega
  have hcb1 : (w1.alloc (Obj.cells #[Value.int .i64 y, Value.int .i64 x] 206)).heap[cb]? = w1.heap[cb]? := Below.heap_alloc w1 _ _ (heap_lt hcall.c)
  have hcb3 := (hg.block cb hlt1 hne).trans (hcb1.trans hcall.c)
  have hset := set_block hcb3 3 (.slice (some ⟨g3, 0, none⟩) (r.length + 1) cap3)
  have hg3cb : g3 ≠ cb := fun e => by
    obtain ⟨_, h'⟩ := ownsz_block (unhide O3) (k := g3) rfl
    rw [e] at h'
    have := typed_ne hcb3 h'
    revert this
    decide
  refine ⟨rfl, w1, .slice (some ⟨g3, 0, none⟩) (r.length + 1) cap3, unhide HP, hcall, ⟨hset, ?_, ?_⟩, ?_, ?_⟩
  · rw [List.length_append, loopCells_snoc]
    refine ownsz_kept (unhide O3) fun k e => Below.heap_setCell _ _ _ _ ?_
    rw [← Option.some.inj (show some g3 = some k from e)]
    exact hg3cb
  · intro p hp
    rcases List.mem_append.1 hp with hp | hp
    · exact hcall.li p hp
    · rw [List.mem_singleton] at hp
      subst hp
      exact hin
  · have hb0 : Below w1.heap.size w1 (w1.alloc (Obj.cells #[Value.int .i64 y, Value.int .i64 x] 206)) := (Below.refl _ _).alloc (Nat.le_refl _) _
    exact ((Mv.of_below hb0 _).grown hg fun k e => .inl (.inr e)).setCell (.inl (.inl rfl)) _
  · intro k hk
    rcases unhide A3 with e | e
    · exact .inl (e.trans hk)
    · right
      have : g3 = k := Option.some.inj hk
      rw [← this, e]
      show w1.heap.size ≤ (w1.alloc _).heap.size
      simp
end Go.Proofs.YtgnlokmeohffaaaGreatDoor
