/- Plan answers what each word of the language does. -/
import Derived.Test.YthpcapohfjidoaaDoorL4
import Derived.Test.YthpcapohfjidoaaDoorP6
import Derived.Test.YthpcapohfjidoaaDoorS0
namespace Go.Proofs.YthpcapohfjidoaaDoor
open Go.RowKit

abbrev TabOk (w : World) : Prop := Lib.TabIs Tryd.prog w "internal/strconv.uint64pow10" .u64 Lib.pow10Tab

theorem tabIs_of_block {w w' : World} (h : TabOk w) (hb : w'.heap[0]? = w.heap[0]?) : TabOk w' := by
  unfold TabOk Lib.TabIs World.var? at h ⊢
  have hg : (Tryd.prog).globalNamed "internal/strconv.uint64pow10" = some 0 := by kernel_rfl
  rw [hg] at h ⊢
  simp only [Option.bind_some] at h ⊢
  rw [hb]
  exact h
theorem tab_lt {w : World} (h : TabOk w) : 0 < w.heap.size := by
  unfold TabOk Lib.TabIs World.var? at h
  have hg : (Tryd.prog).globalNamed "internal/strconv.uint64pow10" = some 0 := by kernel_rfl
  rw [hg] at h
  simp only [Option.bind_some] at h
  rcases Nat.lt_or_ge 0 w.heap.size with h' | h'
  · exact h'
  · rw [Array.getElem?_eq_none h'] at h
    cases h

theorem src_one {w : World} {v : Value} {T : List Int} (h : Src w v (T.map (Value.int .i64))) (hl : T.length = 1) : ∃ b o c x, T = [x] ∧ v = .slice (some ⟨b, o, none⟩) 1 c ∧ w.cell? ⟨b, o, none⟩ = some (.int .i64 x) := by
  match T, hl with
  | [x], _ =>
    rcases h with ⟨_, h⟩ | ⟨b, o, c, rfl, _, hc⟩
    · cases h
    · exact ⟨b, o, c, x, rfl, rfl, hc 0 _ rfl⟩
theorem src_two {w : World} {v : Value} {T : List Int} (h : Src w v (T.map (Value.int .i64))) (hl : T.length = 2) : ∃ b o c x y, T = [x, y] ∧ v = .slice (some ⟨b, o, none⟩) 2 c ∧ w.cell? ⟨b, o, none⟩ = some (.int .i64 x) ∧ w.cell? ⟨b, o + 1, none⟩ = some (.int .i64 y) := by
  match T, hl with
  | [x, y], _ =>
    rcases h with ⟨_, h⟩ | ⟨b, o, c, rfl, _, hc⟩
    · cases h
    · exact ⟨b, o, c, x, y, rfl, rfl, hc 0 _ rfl, hc 1 _ rfl⟩
theorem src_three {w : World} {v : Value} {T : List Int} (h : Src w v (T.map (Value.int .i64))) (hl : T.length = 3) : ∃ b o c x y z, T = [x, y, z] ∧ v = .slice (some ⟨b, o, none⟩) 3 c ∧ w.cell? ⟨b, o, none⟩ = some (.int .i64 x) ∧ w.cell? ⟨b, o + 1, none⟩ = some (.int .i64 y) ∧ w.cell? ⟨b, o + 2, none⟩ = some (.int .i64 z) := by
  match T, hl with
  | [x, y, z], _ =>
    rcases h with ⟨_, h⟩ | ⟨b, o, c, rfl, _, hc⟩
    · cases h
    · exact ⟨b, o, c, x, y, z, rfl, rfl, hc 0 _ rfl, hc 1 _ rfl, hc 2 _ rfl⟩
theorem cell_below {w w1 : World} {b o : Nat} {v : Value} (h : w.cell? ⟨b, o, none⟩ = some v) (hb : Below w.heap.size w w1) : w1.cell? ⟨b, o, none⟩ = some v := (hb.cell (p := ⟨b, o, none⟩) (block_lt h)).trans h

/-- What Plan answers. -/
def PlanAt (p : L.Prim) (vT vA : Value) (T A : List Int) (d : Int) (w : World) : Prop :=
  Calls Tryd.prog 30 #[primVal p, vT, vA, .int .i64 d] w fun e w' => ∃ v, e = .returned (.tuple #[v, .int .i64 (L.plan p.name T A d).err]) ∧ EffAt w.heap.size w' v (L.plan p.name T A d).lays (L.plan p.name T A d).aside (L.plan p.name T A d).tells ∧ Below w.heap.size w w'

theorem planAt_add (d : Int) (w : World) (vT vA : Value) (T A : List Int) (hT : Src w vT (T.map (Value.int .i64))) (hTl : T.length = 2) : PlanAt ⟨[43], 2, 0, 0⟩ vT vA T A d w := by
  obtain ⟨b, o, c, x, y, rfl, rfl, h0, h1⟩ := src_two hT hTl
  exact plan_reckon_ok _ _ _ _ d _ _ w (hide fun w1 hb => reckon_add b o c x y w1 (cell_below h0 hb) (cell_below h1 hb))

theorem planAt_sub (d : Int) (w : World) (vT vA : Value) (T A : List Int) (hT : Src w vT (T.map (Value.int .i64))) (hTl : T.length = 2) : PlanAt ⟨[45], 2, 0, 0⟩ vT vA T A d w := by
  obtain ⟨b, o, c, x, y, rfl, rfl, h0, h1⟩ := src_two hT hTl
  exact plan_reckon_ok _ _ _ _ d _ _ w (hide fun w1 hb => reckon_sub b o c x y w1 (cell_below h0 hb) (cell_below h1 hb))

theorem planAt_mul (d : Int) (w : World) (vT vA : Value) (T A : List Int) (hT : Src w vT (T.map (Value.int .i64))) (hTl : T.length = 2) : PlanAt ⟨[42], 2, 0, 0⟩ vT vA T A d w := by
  obtain ⟨b, o, c, x, y, rfl, rfl, h0, h1⟩ := src_two hT hTl
  exact plan_reckon_ok _ _ _ _ d _ _ w (hide fun w1 hb => reckon_mul b o c x y w1 (cell_below h0 hb) (cell_below h1 hb))

theorem planAt_div (d : Int) (w : World) (vT vA : Value) (T A : List Int) (hT : Src w vT (T.map (Value.int .i64))) (hTl : T.length = 2) : PlanAt ⟨[47], 2, 0, 0⟩ vT vA T A d w := by
  obtain ⟨b, o, c, x, y, rfl, rfl, h0, h1⟩ := src_two hT hTl
  by_cases hy : y = 0
  · subst hy
    exact plan_reckon_err _ _ _ _ 8 d _ _ w rfl (hide fun w1 hb => reckon_div b o c x 0 w1 (cell_below h0 hb) (cell_below h1 hb))
  · have hp : L.plan [47] [x, y] A d = ⟨[wrap64 (x.tdiv y)], [], [], 0⟩ := if_neg hy
    have hr := fun w1 (hb : Below w.heap.size w w1) => reckon_div b o c x y w1 (cell_below h0 hb) (cell_below h1 hb)
    simp only [L.divOr, L.zeroErr, if_neg hy] at hr
    unfold PlanAt
    rw [show (L.Prim.name ⟨[47], 2, 0, 0⟩) = [47] from rfl, hp]
    exact plan_reckon_ok _ _ _ _ d _ _ w (hide hr)

theorem planAt_mod (d : Int) (w : World) (vT vA : Value) (T A : List Int) (hT : Src w vT (T.map (Value.int .i64))) (hTl : T.length = 2) : PlanAt ⟨[109, 111, 100], 2, 0, 0⟩ vT vA T A d w := by
  obtain ⟨b, o, c, x, y, rfl, rfl, h0, h1⟩ := src_two hT hTl
  by_cases hy : y = 0
  · subst hy
    exact plan_reckon_err _ _ _ _ 8 d _ _ w rfl (hide fun w1 hb => reckon_mod b o c x 0 w1 (cell_below h0 hb) (cell_below h1 hb))
  · have hp : L.plan [109, 111, 100] [x, y] A d = ⟨[x.tmod y], [], [], 0⟩ := if_neg hy
    have hr := fun w1 (hb : Below w.heap.size w w1) => reckon_mod b o c x y w1 (cell_below h0 hb) (cell_below h1 hb)
    simp only [L.divOr, L.zeroErr, if_neg hy] at hr
    unfold PlanAt
    rw [show (L.Prim.name ⟨[109, 111, 100], 2, 0, 0⟩) = [109, 111, 100] from rfl, hp]
    exact plan_reckon_ok _ _ _ _ d _ _ w (hide hr)

theorem planAt_eq (d : Int) (w : World) (vT vA : Value) (T A : List Int) (hT : Src w vT (T.map (Value.int .i64))) (hTl : T.length = 2) : PlanAt ⟨[61], 2, 0, 0⟩ vT vA T A d w := by
  obtain ⟨b, o, c, x, y, rfl, rfl, h0, h1⟩ := src_two hT hTl
  exact plan_reckon_ok _ _ _ _ d _ _ w (hide fun w1 hb => reckon_eq b o c x y w1 (cell_below h0 hb) (cell_below h1 hb))

theorem planAt_lt (d : Int) (w : World) (vT vA : Value) (T A : List Int) (hT : Src w vT (T.map (Value.int .i64))) (hTl : T.length = 2) : PlanAt ⟨[60], 2, 0, 0⟩ vT vA T A d w := by
  obtain ⟨b, o, c, x, y, rfl, rfl, h0, h1⟩ := src_two hT hTl
  exact plan_reckon_ok _ _ _ _ d _ _ w (hide fun w1 hb => reckon_lt b o c x y w1 (cell_below h0 hb) (cell_below h1 hb))

theorem planAt_gt (d : Int) (w : World) (vT vA : Value) (T A : List Int) (hT : Src w vT (T.map (Value.int .i64))) (hTl : T.length = 2) : PlanAt ⟨[62], 2, 0, 0⟩ vT vA T A d w := by
  obtain ⟨b, o, c, x, y, rfl, rfl, h0, h1⟩ := src_two hT hTl
  exact plan_reckon_ok _ _ _ _ d _ _ w (hide fun w1 hb => reckon_gt b o c x y w1 (cell_below h0 hb) (cell_below h1 hb))

theorem planAt_and (d : Int) (w : World) (vT vA : Value) (T A : List Int) (hT : Src w vT (T.map (Value.int .i64))) (hTl : T.length = 2) : PlanAt ⟨[97, 110, 100], 2, 0, 0⟩ vT vA T A d w := by
  obtain ⟨b, o, c, x, y, rfl, rfl, h0, h1⟩ := src_two hT hTl
  exact plan_reckon_ok _ _ _ _ d _ _ w (hide fun w1 hb => reckon_and b o c x y w1 (cell_below h0 hb) (cell_below h1 hb))

theorem planAt_or (d : Int) (w : World) (vT vA : Value) (T A : List Int) (hT : Src w vT (T.map (Value.int .i64))) (hTl : T.length = 2) : PlanAt ⟨[111, 114], 2, 0, 0⟩ vT vA T A d w := by
  obtain ⟨b, o, c, x, y, rfl, rfl, h0, h1⟩ := src_two hT hTl
  exact plan_reckon_ok _ _ _ _ d _ _ w (hide fun w1 hb => reckon_or b o c x y w1 (cell_below h0 hb) (cell_below h1 hb))

theorem planAt_xor (d : Int) (w : World) (vT vA : Value) (T A : List Int) (hT : Src w vT (T.map (Value.int .i64))) (hTl : T.length = 2) : PlanAt ⟨[120, 111, 114], 2, 0, 0⟩ vT vA T A d w := by
  obtain ⟨b, o, c, x, y, rfl, rfl, h0, h1⟩ := src_two hT hTl
  exact plan_reckon_ok _ _ _ _ d _ _ w (hide fun w1 hb => reckon_xor b o c x y w1 (cell_below h0 hb) (cell_below h1 hb))

theorem planAt_not (d : Int) (w : World) (vT vA : Value) (T A : List Int) (hT : Src w vT (T.map (Value.int .i64))) (hTl : T.length = 1) : PlanAt ⟨[110, 111, 116], 1, 0, 0⟩ vT vA T A d w := by
  obtain ⟨b, o, c, x, rfl, rfl, h0⟩ := src_one hT hTl
  exact plan_reckon_ok _ _ _ _ d _ _ w (hide fun w1 hb => reckon_not b o c x w1 (cell_below h0 hb))

theorem planAt_dup (d : Int) (w : World) (vT vA : Value) (T A : List Int) (hT : Src w vT (T.map (Value.int .i64))) (hTl : T.length = 1) : PlanAt ⟨[100, 117, 112], 1, 0, 1⟩ vT vA T A d w := by
  obtain ⟨b, o, c, x, rfl, rfl, h0⟩ := src_one hT hTl
  exact plan_move _ _ _ d _ _ _ _ w (hide fun w1 hb => move_dup b o c d _ x w1 (cell_below h0 hb))

theorem planAt_drop (d : Int) (w : World) (vT vA : Value) (T A : List Int) (hT : Src w vT (T.map (Value.int .i64))) (hTl : T.length = 1) : PlanAt ⟨[100, 114, 111, 112], 1, 0, 1⟩ vT vA T A d w := by
  obtain ⟨b, o, c, x, rfl, rfl, h0⟩ := src_one hT hTl
  exact plan_move _ _ _ d _ _ _ _ w (hide fun w1 hb => move_drop b o c d _ x w1 (cell_below h0 hb))

theorem planAt_to (d : Int) (w : World) (vT vA : Value) (T A : List Int) (hT : Src w vT (T.map (Value.int .i64))) (hTl : T.length = 1) : PlanAt ⟨[62, 114], 1, 0, 1⟩ vT vA T A d w := by
  obtain ⟨b, o, c, x, rfl, rfl, h0⟩ := src_one hT hTl
  exact plan_move _ _ _ d _ _ _ _ w (hide fun w1 hb => move_to b o c d _ x w1 (cell_below h0 hb))

theorem planAt_swap (d : Int) (w : World) (vT vA : Value) (T A : List Int) (hT : Src w vT (T.map (Value.int .i64))) (hTl : T.length = 2) : PlanAt ⟨[115, 119, 97, 112], 2, 0, 1⟩ vT vA T A d w := by
  obtain ⟨b, o, c, x, y, rfl, rfl, h0, h1⟩ := src_two hT hTl
  exact plan_move _ _ _ d _ _ _ _ w (hide fun w1 hb => move_swap b o c d _ x y w1 (cell_below h0 hb) (cell_below h1 hb))

theorem planAt_over (d : Int) (w : World) (vT vA : Value) (T A : List Int) (hT : Src w vT (T.map (Value.int .i64))) (hTl : T.length = 2) : PlanAt ⟨[111, 118, 101, 114], 2, 0, 1⟩ vT vA T A d w := by
  obtain ⟨b, o, c, x, y, rfl, rfl, h0, h1⟩ := src_two hT hTl
  exact plan_move _ _ _ d _ _ _ _ w (hide fun w1 hb => move_over b o c d _ x y w1 (cell_below h0 hb) (cell_below h1 hb))

theorem planAt_rot (d : Int) (w : World) (vT vA : Value) (T A : List Int) (hT : Src w vT (T.map (Value.int .i64))) (hTl : T.length = 3) : PlanAt ⟨[114, 111, 116], 3, 0, 1⟩ vT vA T A d w := by
  obtain ⟨b, o, c, x, y, z, rfl, rfl, h0, h1, h2⟩ := src_three hT hTl
  exact plan_move _ _ _ d _ _ _ _ w (hide fun w1 hb => move_rot b o c d _ x y z w1 (cell_below h0 hb) (cell_below h1 hb) (cell_below h2 hb))

theorem planAt_from (d : Int) (w : World) (vT vA : Value) (T A : List Int) (hA : Src w vA (A.map (Value.int .i64))) (hAl : A.length = 1) : PlanAt ⟨[114, 62], 0, 1, 1⟩ vT vA T A d w := by
  obtain ⟨b, o, c, x, rfl, rfl, h0⟩ := src_one hA hAl
  exact plan_move _ _ _ d _ _ _ _ w (hide fun w1 hb => move_from b o c d _ x w1 (cell_below h0 hb))

theorem planAt_peek (d : Int) (w : World) (vT vA : Value) (T A : List Int) (hA : Src w vA (A.map (Value.int .i64))) (hAl : A.length = 1) : PlanAt ⟨[114, 64], 0, 1, 1⟩ vT vA T A d w := by
  obtain ⟨b, o, c, x, rfl, rfl, h0⟩ := src_one hA hAl
  exact plan_move _ _ _ d _ _ _ _ w (hide fun w1 hb => move_peek b o c d _ x w1 (cell_below h0 hb))

theorem planAt_depth (d : Int) (w : World) (vT vA : Value) (T A : List Int) : PlanAt ⟨[100, 101, 112, 116, 104], 0, 0, 1⟩ vT vA T A d w := by
  exact plan_move _ _ _ d _ _ _ _ w (hide fun w1 hb => move_depth d _ _ w1)

theorem planAt_dot (d : Int) (w : World) (vT vA : Value) (T A : List Int) (hT : Src w vT (T.map (Value.int .i64))) (hTl : T.length = 1) (hin : ∀ x ∈ T, inI64 x) (htab : TabOk w) : PlanAt ⟨[46], 1, 0, 2⟩ vT vA T A d w := by
  obtain ⟨b, o, c, x, rfl, rfl, h0⟩ := src_one hT hTl
  have hx := hin x (by simp)
  exact plan_tell _ _ _ _ d _ _ _ w (hide fun w1 hb => tell_dot b o c x w1 hx.1 hx.2 (cell_below h0 hb) (tabIs_of_block htab (hb.block _ (tab_lt htab))))

theorem planAt_emit (d : Int) (w : World) (vT vA : Value) (T A : List Int) (hT : Src w vT (T.map (Value.int .i64))) (hTl : T.length = 1) : PlanAt ⟨[101, 109, 105, 116], 1, 0, 2⟩ vT vA T A d w := by
  obtain ⟨b, o, c, x, rfl, rfl, h0⟩ := src_one hT hTl
  by_cases hx : x < 32 ∨ 126 < x
  · have hp : L.plan [101, 109, 105, 116] [x] A d = ⟨[], [], [], 11⟩ := if_pos hx
    unfold PlanAt
    rw [show (L.Prim.name ⟨[101, 109, 105, 116], 1, 0, 2⟩) = [101, 109, 105, 116] from rfl, hp]
    exact plan_tell _ _ _ _ d _ _ _ w (hide fun w1 hb => (tell_emit_bad b o c x w1 (cell_below h0 hb) hx).mono fun e w' h => ⟨h.1, h.2 ▸ Below.refl _ _⟩)
  · have hp : L.plan [101, 109, 105, 116] [x] A d = ⟨[], [], [UInt8.ofNat x.toNat], 0⟩ := if_neg hx
    unfold PlanAt
    rw [show (L.Prim.name ⟨[101, 109, 105, 116], 1, 0, 2⟩) = [101, 109, 105, 116] from rfl, hp]
    exact plan_tell _ _ _ _ d _ _ _ w (hide fun w1 hb => (tell_emit_good b o c x w1 (cell_below h0 hb) (by omega) (by omega)).mono fun e w' h => ⟨h.1, h.2 ▸ Below.refl _ _⟩)

theorem planAt_cr (d : Int) (w : World) (vT vA : Value) (T A : List Int) : PlanAt ⟨[99, 114], 0, 0, 2⟩ vT vA T A d w := by
  exact plan_tell _ _ _ _ d _ _ _ w (hide fun w1 hb => (tell_cr _ w1).mono fun e w' h => ⟨h.1, h.2 ▸ Below.refl _ _⟩)


/-- Plan, at each word of the language. -/
theorem plan_any (p : L.Prim) (hp : p ∈ L.primTab) (d : Int) (w : World) (vT vA : Value) (T A : List Int) (hT : Src w vT (T.map (Value.int .i64))) (hTl : T.length = p.takes) (hA : Src w vA (A.map (Value.int .i64))) (hAl : A.length = p.aside) (hin : ∀ x ∈ T, inI64 x) (htab : TabOk w) : PlanAt p vT vA T A d w := by
  simp only [L.primTab, List.mem_cons, List.not_mem_nil, or_false] at hp
  rcases hp with rfl | rfl | rfl | rfl | rfl | rfl | rfl | rfl | rfl | rfl | rfl | rfl | rfl | rfl | rfl | rfl | rfl | rfl | rfl | rfl | rfl | rfl | rfl | rfl
  · exact planAt_add d w vT vA T A hT hTl
  · exact planAt_sub d w vT vA T A hT hTl
  · exact planAt_mul d w vT vA T A hT hTl
  · exact planAt_div d w vT vA T A hT hTl
  · exact planAt_mod d w vT vA T A hT hTl
  · exact planAt_eq d w vT vA T A hT hTl
  · exact planAt_lt d w vT vA T A hT hTl
  · exact planAt_gt d w vT vA T A hT hTl
  · exact planAt_and d w vT vA T A hT hTl
  · exact planAt_or d w vT vA T A hT hTl
  · exact planAt_xor d w vT vA T A hT hTl
  · exact planAt_not d w vT vA T A hT hTl
  · exact planAt_dup d w vT vA T A hT hTl
  · exact planAt_drop d w vT vA T A hT hTl
  · exact planAt_to d w vT vA T A hT hTl
  · exact planAt_swap d w vT vA T A hT hTl
  · exact planAt_over d w vT vA T A hT hTl
  · exact planAt_rot d w vT vA T A hT hTl
  · exact planAt_from d w vT vA T A hA hAl
  · exact planAt_peek d w vT vA T A hA hAl
  · exact planAt_depth d w vT vA T A 
  · exact planAt_dot d w vT vA T A hT hTl hin htab
  · exact planAt_emit d w vT vA T A hT hTl
  · exact planAt_cr d w vT vA T A 
end Go.Proofs.YthpcapohfjidoaaDoor
