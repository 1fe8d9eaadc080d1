/- commit lets an effect happen, if there is room for it. -/
import Derived.Test.YthpcapohfjidoaaDoorProg
import Derived.Test.YthpcapohfjidoaaDoorK0
import Derived.Test.YthpcapohfjidoaaDoorC1
import Derived.WalkKit
import Derived.WalkSpells
import Derived.WalkLawsBesides
import Derived.Deep.QuietTactic
import Derived.Deep.RegionHeld3
import Derived.Deep.DrawnRows
import Derived.Deep.RegionLaw
import Derived.BigQuiet
import Derived.Lib.Strings
namespace Go.Proofs.YthpcapohfjidoaaDoor
open Go.RowKit
attribute [local go_sem ↓] Go.wp_at_zero Go.wp_at_succ

set_option maxRecDepth 100000 in
set_option maxHeartbeats 800000 in
/-- There is no room: nothing happens. -/
theorem commit_none (w : World) (mb rb : Nat) (n m q t a p1 p2 capS capR capT c1 c2 : Nat) (aS aR aT l1 l2 : Option Addr) (tells : ByteArray) (err : Int)
    (hr0 : ∀ o, (w.alloc o).cell? ⟨rb, 0, none⟩ = some (.pointer (some ⟨mb, 0, none⟩))) (hr5 : ∀ o, (w.alloc o).cell? ⟨rb, 5, none⟩ = some (.slice aT q capT))
    (hm0 : ∀ o, (w.alloc o).cell? ⟨mb, 0, none⟩ = some (.slice aS n capS)) (hm1 : ∀ o, (w.alloc o).cell? ⟨mb, 1, none⟩ = some (.slice aR m capR))
    (hn : n ≤ 16) (hm : m ≤ 16) (hq : q ≤ 300) (ht : t ≤ n) (ha : a ≤ m) (hcS : n ≤ capS) (hcR : m ≤ capR) (hp1 : p1 ≤ 3) (hp2 : p2 ≤ 3) (hts : tells.size ≤ 100)
    (H : Hid (((16 < n - t + p1 ∨ 16 < m - a + p2) → err = 7) ∧ ((n - t + p1 ≤ 16 ∧ m - a + p2 ≤ 16) → err = 12 ∧ 300 < q + tells.size))) :
    Calls Tryd.prog 29 #[.pointer (some ⟨rb, 0, none⟩), .int .i64 t, .int .i64 a, .agg #[.slice l1 p1 c1, .slice l2 p2 c2, .string tells]] w fun e w' => e = .returned (.int .i64 err) ∧ Below w.heap.size w w' := by
  have i0 : IntKind.i64.wrap ((n : Int) - (t : Int)) = (n : Int) - (t : Int) := by rw [IntKind.wrap_i64]; omega
  have i9 : IntKind.i64.wrap ((m : Int) - (a : Int)) = (m : Int) - (a : Int) := by rw [IntKind.wrap_i64]; omega
  have i8 : IntKind.i64.wrap ((q : Int) + (tells.size : Int)) = (q : Int) + (tells.size : Int) := by rw [IntKind.wrap_i64]; omega
  have i1 : (0 : Int) ≤ (n : Int) - (t : Int) := by omega
  have i2 : (n : Int) - (t : Int) ≤ (capS : Int) := by omega
  have i3 : (0 : Int) ≤ (m : Int) - (a : Int) := by omega
  have i4 : (m : Int) - (a : Int) ≤ (capR : Int) := by omega
  go_enter Tryd.func29, Tryd.ntmps29
  go_wp2
  go_region_held3 (fun w' => w'.cell? ⟨mb, 0, none⟩ = some (.slice aS n capS) ∧ w'.cell? ⟨mb, 1, none⟩ = some (.slice aR m capR)) (go_keep) (fail)
  all_goals go_wp2
  all_goals first
    | (go_ret; exact ⟨ret_int ((unhide H).1 (by omega)).symm, (((Below.refl _ _).alloc (Nat.le_refl _) _).drew)⟩)
    | (go_region_held3 (fun w' => w'.cell? ⟨rb, 5, none⟩ = some (.slice aT q capT) ∧ w'.cell? ⟨w.heap.size, 2, none⟩ = some (.string tells)) (go_keep) (fail)
       have hb := (unhide H).2 (by omega)
       have hb2 := hb.2
       have hb1 := hide hb.1
       clear hb
       go_wp2
       go_ret
       exact ⟨ret_int (unhide hb1).symm, (((Below.refl _ _).alloc (Nat.le_refl _) _).drew).drew⟩)

theorem info_of {t : TypeId} {z : Value} {n b : Nat} (h : ((Tryd.prog).info? t).map (fun i => (i.zero, i.size, i.bytes)) = some (some z, n, b)) : ∃ i, (Tryd.prog).info? t = some i ∧ i.zero = some z ∧ i.size = n ∧ i.bytes = b := by
  cases hi : (Tryd.prog).info? t with
  | none => rw [hi] at h; cases h
  | some i =>
    rw [hi] at h
    simp only [Option.map_some, Option.some.injEq, Prod.mk.injEq] at h
    exact ⟨i, rfl, h.1, h.2.1, h.2.2⟩
theorem info3 : ∃ i, (Tryd.prog).info? 3 = some i ∧ i.zero = some (.int .i64 0) ∧ i.size = 1 ∧ i.bytes = 8 := info_of (by kernel_rfl)
theorem info5 : ∃ i, (Tryd.prog).info? 5 = some i ∧ i.zero = some (.int .u8 0) ∧ i.size = 1 ∧ i.bytes = 1 := info_of (by kernel_rfl)

theorem one_ints (l : List Int) : ∀ u ∈ l.map (Value.int .i64), u.oneCell' = true := by
  intro u hu
  simp only [List.mem_map] at hu
  obtain ⟨x, _, rfl⟩ := hu
  rfl

theorem grown_fz {w w' : World} {row : Option Nat} {b j : Nat} {v : Value} (hg : w.grownBy w' row) (hc : w.cell? ⟨b, j, none⟩ = some v) (hf : w.frozen? ⟨b, j, none⟩ = false) (hne : some b ≠ row) : w'.frozen? ⟨b, j, none⟩ = false :=
  (hg.frozen_far ⟨b, j, none⟩ (block_lt hc) hne).trans hf

theorem cell_set_far {w : World} {b j b' j' : Nat} {u v : Value} (h : w.cell? ⟨b', j', none⟩ = some v) (hne : b' ≠ b) : (w.setCell ⟨b, j, none⟩ u).cell? ⟨b', j', none⟩ = some v := by
  rw [World.cell?_of_block (w := w) (Below.heap_setCell _ _ _ _ hne)]
  exact h

theorem src_grown {w w' : World} {row : Option Nat} {v : Value} {xs : List Value} (h : Src w v xs) (hg : w.grownBy w' row) (hne : ∀ k, v.ownBlock = some k → some k ≠ row) : Src w' v xs :=
  h.kept hg.size fun b e => hg.block b (h.lt b e) (hne b e)
theorem owns_grown {w w' : World} {row : Option Nat} {base e n : Nat} {v : Value} {xs : List Value} (h : w.ownsRow base e 1 v n xs) (hg : w.grownBy w' row) (hne : ∀ k, v.ownBlock = some k → some k ≠ row) : w'.ownsRow base e 1 v n xs :=
  owns_kept h fun b e => hg.block b (h.lt b e).2 (hne b e)

set_option maxRecDepth 100000 in
set_option maxHeartbeats 1600000 in
theorem commit_some (w : World) (mb rb : Nat) (vO vB vW : Value) (n m q t a p1 p2 capS capR capT c1 c2 : Nat) (aS aR aT l1 l2 : Option Addr) (tells : ByteArray) (s : L.RunS) (lays aside : List Int) (B : Nat)
    (HRun : Hid (RunAt w mb rb vO vB vW (.slice aS n capS) (.slice aR m capR) (.slice aT q capT) s)) (HB : Hid (∀ k, Foot mb rb (.slice aS n capS) (.slice aR m capR) (.slice aT q capT) k → k < B))
    (HL : Hid (Src w (.slice l1 p1 c1) (lays.map (Value.int .i64)) ∧ ∀ k, (Value.slice l1 p1 c1).ownBlock = some k → B ≤ k)) (HA : Hid (Src w (.slice l2 p2 c2) (aside.map (Value.int .i64)) ∧ ∀ k, (Value.slice l2 p2 c2).ownBlock = some k → B ≤ k))
    (Hlen : Hid (s.S.length = n ∧ s.R.length = m ∧ s.out.length = q ∧ lays.length = p1 ∧ aside.length = p2)) (Hin : Hid ((∀ x ∈ lays, inI64 x) ∧ ∀ x ∈ aside, inI64 x))
    (hr0 : ∀ o, (w.alloc o).cell? ⟨rb, 0, none⟩ = some (.pointer (some ⟨mb, 0, none⟩))) (hr5 : ∀ o, (w.alloc o).cell? ⟨rb, 5, none⟩ = some (.slice aT q capT))
    (hm0 : ∀ o, (w.alloc o).cell? ⟨mb, 0, none⟩ = some (.slice aS n capS)) (hm1 : ∀ o, (w.alloc o).cell? ⟨mb, 1, none⟩ = some (.slice aR m capR))
    (hn : n ≤ 16) (hm : m ≤ 16) (hq : q ≤ 300) (ht : t ≤ n) (ha : a ≤ m) (hcS : n ≤ capS) (hcR : m ≤ capR) (hp1 : p1 ≤ 3) (hp2 : p2 ≤ 3) (hts : tells.size ≤ 100)
    (h1 : n - t + p1 ≤ 16) (h2 : m - a + p2 ≤ 16) (h3 : q + tells.size ≤ 300) :
    Calls Tryd.prog 29 #[.pointer (some ⟨rb, 0, none⟩), .int .i64 t, .int .i64 a, .agg #[.slice l1 p1 c1, .slice l2 p2 c2, .string tells]] w fun e w' => e = .returned (.int .i64 0) ∧
      ∃ v1 v2 v3, RunAt w' mb rb vO vB vW v1 v2 v3 { s with S := s.S.take (s.S.length - t) ++ lays, R := s.R.take (s.R.length - a) ++ aside, out := s.out ++ tells.data.toList } ∧ Mv (Foot mb rb (.slice aS n capS) (.slice aR m capR) (.slice aT q capT)) w w' ∧ Fresh w (Foot mb rb (.slice aS n capS) (.slice aR m capR) (.slice aT q capT)) (Foot mb rb v1 v2 v3) := by
  have i0 : IntKind.i64.wrap ((n : Int) - (t : Int)) = (n : Int) - (t : Int) := by rw [IntKind.wrap_i64]; omega
  have i9 : IntKind.i64.wrap ((m : Int) - (a : Int)) = (m : Int) - (a : Int) := by rw [IntKind.wrap_i64]; omega
  have i8 : IntKind.i64.wrap ((q : Int) + (tells.size : Int)) = (q : Int) + (tells.size : Int) := by rw [IntKind.wrap_i64]; omega
  have i1 : (0 : Int) ≤ (n : Int) - (t : Int) := by omega
  have i2 : (n : Int) - (t : Int) ≤ (capS : Int) := by omega
  have i3 : (0 : Int) ≤ (m : Int) - (a : Int) := by omega
  have i4 : (m : Int) - (a : Int) ≤ (capR : Int) := by omega
  go_enter Tryd.func29, Tryd.ntmps29
  go_wp2
  go_region_held3 (fun w' => w'.cell? ⟨mb, 0, none⟩ = some (.slice aS n capS) ∧ w'.cell? ⟨mb, 1, none⟩ = some (.slice aR m capR)) (go_keep) (fail)
  go_wp2
  go_region_held3 (fun w' => w'.cell? ⟨rb, 5, none⟩ = some (.slice aT q capT) ∧ w'.cell? ⟨w.heap.size, 2, none⟩ = some (.string tells)) (go_keep) (fail)
  go_wp2
  obtain ⟨i3t, hi3, hz3, hs3, hb3⟩ := info3
  have hrun := unhide HRun
  obtain ⟨n1, n2, n3, n4, n5⟩ := unhide Hlen
  have hbel : Below w.heap.size w (w.alloc (Obj.cells #[Value.slice l1 p1 c1, Value.slice l2 p2 c2, Value.string tells] 77)).drew.drew := (((Below.refl _ _).alloc (Nat.le_refl _) _).drew).drew
  have hE : (w.alloc (Obj.cells #[Value.slice l1 p1 c1, Value.slice l2 p2 c2, Value.string tells] 77)).drew.drew.heap[w.heap.size]? = some (Obj.cells #[Value.slice l1 p1 c1, Value.slice l2 p2 c2, Value.string tells] 77) := heap_alloc_new w _
  generalize hw1 : (w.alloc (Obj.cells #[Value.slice l1 p1 c1, Value.slice l2 p2 c2, Value.string tells] 77)).drew.drew = w1 at *
  clear hw1
  have hrun1 := hrun.below hbel
  have oS : w1.ownsRow 0 3 1 (.slice aS (n - t) capS) (n - t) ((s.S.map (Value.int .i64)).take (n - t)) := owns_take (n1 ▸ hrun1.st) (n - t) (by omega)
  have oR : w1.ownsRow 0 3 1 (.slice aR (m - a) capR) (m - a) ((s.R.map (Value.int .i64)).take (m - a)) := owns_take (n2 ▸ hrun1.as) (m - a) (by omega)
  have sL := (unhide HL).1.below hbel
  have sA := (unhide HA).1.below hbel
  have mb0 : w1.cell? ⟨mb, 0, none⟩ = some (.slice aS n capS) := cell_of_block hrun1.m rfl
  have mb1 : w1.cell? ⟨mb, 1, none⟩ = some (.slice aR m capR) := cell_of_block hrun1.m rfl
  have fz0 : w1.frozen? ⟨mb, 0, none⟩ = false := frozen_of_block 0 hrun1.m
  have fz1 : w1.frozen? ⟨mb, 1, none⟩ = false := frozen_of_block 1 hrun1.m
  have e0 : w1.cell? ⟨w.heap.size, 0, none⟩ = some (.slice l1 p1 c1) := cell_of_block hE rfl
  have e1 : w1.cell? ⟨w.heap.size, 1, none⟩ = some (.slice l2 p2 c2) := cell_of_block hE rfl
  have neEM : w.heap.size ≠ mb := by have := heap_lt hrun.m; omega
  have neES : some w.heap.size ≠ (Value.slice aS (n - t) capS).ownBlock := fun e => by have := hrun.lt w.heap.size (.inl (.inr (.inr (.inl (by rw [own_slice] at e ⊢; exact e.symm))))); omega
  have neER : some w.heap.size ≠ (Value.slice aR (m - a) capR).ownBlock := fun e => by have := hrun.lt w.heap.size (.inl (.inr (.inr (.inr (.inl (by rw [own_slice] at e ⊢; exact e.symm)))))); omega
  have neMS : some mb ≠ (Value.slice aS (n - t) capS).ownBlock := fun e => own_ne_of_type oS hrun1.m (by decide) e.symm
  have neMR : some mb ≠ (Value.slice aR (m - a) capR).ownBlock := fun e => own_ne_of_type oR hrun1.m (by decide) e.symm
  have neRS : ∀ k, (Value.slice aR (m - a) capR).ownBlock = some k → some k ≠ (Value.slice aS (n - t) capS).ownBlock := fun k e e' => hrun.ap k (by rw [own_slice] at e' ⊢; exact e'.symm) (by rw [own_slice] at e ⊢; exact e)
  have neSR : ∀ k, (Value.slice aS (n - t) capS).ownBlock = some k → some k ≠ (Value.slice aR (m - a) capR).ownBlock := fun k e e' => neRS k e'.symm e.symm
  have neLR : ∀ k, (Value.slice l1 p1 c1).ownBlock = some k → some k ≠ (Value.slice aR (m - a) capR).ownBlock := fun k e e' => by
    have := (unhide HL).2 k e
    have := unhide HB k (.inr (.inr (.inr (.inl (by rw [own_slice] at e' ⊢; exact e'.symm)))))
    omega
  have neAS : ∀ k, (Value.slice l2 p2 c2).ownBlock = some k → some k ≠ (Value.slice aS (n - t) capS).ownBlock := fun k e e' => by
    have := (unhide HA).2 k e
    have := unhide HB k (.inr (.inr (.inl (by rw [own_slice] at e' ⊢; exact e'.symm))))
    omega
  have mx1 : n - t + (lays.map (Value.int .i64)).length ≤ maxLen := by unfold maxLen; simp; omega
  have mx2 : m - a + (aside.map (Value.int .i64)).length ≤ maxLen := by unfold maxLen; simp; omega
  have by1 : (n - t + (lays.map (Value.int .i64)).length) * 8 ≤ 140737488355328 := by simp; omega
  have by2 : (m - a + (aside.map (Value.int .i64)).length) * 8 ≤ 140737488355328 := by simp; omega
  have HE := hide hE
  have Hbel := hide hbel
  have Hrun1 := hide hrun1
  have N1 := hide n1
  have N2 := hide n2
  have N3 := hide n3
  have N4 := hide n4
  have N5 := hide n5
  clear hE hbel hrun1 hrun n1 n2 n3 n4 n5 hr0 hr5 hm0 hm1
  go_region_held3 (fun w' => w'.cell? ⟨w.heap.size, 0, none⟩ = some (.slice l1 p1 c1) ∧ w'.cell? ⟨w.heap.size, 1, none⟩ = some (.slice l2 p2 c2)) (first | exact ⟨e0, e1⟩ | exact ⟨cell_set_far e0 neEM, cell_set_far e1 neEM⟩ | exact ⟨cell_set_far (cell_set_far e0 neEM) neEM, cell_set_far (cell_set_far e1 neEM) neEM⟩ | go_keep)
    (first
      | (refine step_append_src _ (by rfl) _ _ _ (by rfl) 3 i3t (.int .i64 0) 8 Tryd.underlying27 hi3 hz3 hs3 hb3 rfl (.slice aS (n - t) capS) (n - t) ((s.S.map (Value.int .i64)).take (n - t)) (by rfl) (by exact oS) (.slice l1 p1 c1) (lays.map (Value.int .i64)) (by rfl) (by exact sL) (one_ints lays) mx1 by1 ?_
         intro a1 cap1 w2 o1 g1 t1
         have g1 : w1.grownBy w2 (Value.slice aS (n - t) capS).ownBlock := ⟨g1.os, g1.tape, g1.output, g1.size, g1.block⟩
         have e0 := g1.cell e0 neES
         have e1 := g1.cell e1 neES
         have fz0 := grown_fz g1 mb0 fz0 neMS
         have fz1 := grown_fz g1 mb1 fz1 neMS
         have mb0 := g1.cell mb0 neMS
         have mb1 := g1.cell mb1 neMS
         have oR := owns_grown oR g1 neRS
         have sA := src_grown sA g1 neAS)
      | (refine step_append_src _ (by rfl) _ _ _ (by rfl) 3 i3t (.int .i64 0) 8 Tryd.underlying27 hi3 hz3 hs3 hb3 rfl (.slice aR (m - a) capR) (m - a) ((s.R.map (Value.int .i64)).take (m - a)) (by rfl) (by exact oR) (.slice l2 p2 c2) (aside.map (Value.int .i64)) (by rfl) (by exact sA) (one_ints aside) mx2 by2 ?_
         intro a2 cap2 w3 o2 g2 t2
         have g2 : w2.grownBy w3 (Value.slice aR (m - a) capR).ownBlock := ⟨g2.os, g2.tape, g2.output, g2.size, g2.block⟩
         have e0 := g2.cell e0 neER
         have e1 := g2.cell e1 neER
         have fz0 := grown_fz g2 mb0 fz0 neMR
         have fz1 := grown_fz g2 mb1 fz1 neMR
         have mb0 := g2.cell mb0 neMR
         have mb1 := g2.cell mb1 neMR))
  clear hi3 hz3 hs3 hb3 oS sL
  have bSe : (Value.slice aS (n - t) capS).ownBlock = (Value.slice aS n capS).ownBlock := by rw [own_slice, own_slice]
  have bRe : (Value.slice aR (m - a) capR).ownBlock = (Value.slice aR m capR).ownBlock := by rw [own_slice, own_slice]
  rw [bSe] at g1 t1
  rw [bRe] at g2 t2
  simp only [List.length_map] at o1 o2 t1 t2
  have hrun1 := unhide Hrun1
  have two := two_app g1 g2 o1 o2 t1 t2 (fun k e => hrun1.lt k (.inl (.inr (.inr (.inr (.inl e)))))) hrun1.ap
  have ltm := hrun1.lt mb (.inl (.inl rfl))
  have ltr := hrun1.lt rb (.inl (.inr (.inl rfl)))
  have nemr : rb ≠ mb := ne_of_type hrun1.r hrun1.m (by decide)
  have hm3 : w3.heap[mb]? = _ := (two.block mb ltm (fun e => own_ne_of_type hrun1.st hrun1.m (by decide) e.symm) (fun e => own_ne_of_type hrun1.as hrun1.m (by decide) e.symm)).trans hrun1.m
  have h4m := set_block (set_block hm3 0 (Value.slice a1 (n - t + lays.length) cap1)) 1 (Value.slice a2 (m - a + aside.length) cap2)
  have h4b : ∀ k, k ≠ mb → ((w3.setCell ⟨mb, 0, none⟩ (Value.slice a1 (n - t + lays.length) cap1)).setCell ⟨mb, 1, none⟩ (Value.slice a2 (m - a + aside.length) cap2)).heap[k]? = w3.heap[k]? := fun k hk => (Below.heap_setCell _ _ _ _ hk).trans (Below.heap_setCell _ _ _ _ hk)
  have h4s : ((w3.setCell ⟨mb, 0, none⟩ (Value.slice a1 (n - t + lays.length) cap1)).setCell ⟨mb, 1, none⟩ (Value.slice a2 (m - a + aside.length) cap2)).heap.size = w3.heap.size := by simp [World.setCell]
  have h4o : ((w3.setCell ⟨mb, 0, none⟩ (Value.slice a1 (n - t + lays.length) cap1)).setCell ⟨mb, 1, none⟩ (Value.slice a2 (m - a + aside.length) cap2)).os = w3.os := rfl
  have h4t : ((w3.setCell ⟨mb, 0, none⟩ (Value.slice a1 (n - t + lays.length) cap1)).setCell ⟨mb, 1, none⟩ (Value.slice a2 (m - a + aside.length) cap2)).tape = w3.tape := rfl
  have h4p : ((w3.setCell ⟨mb, 0, none⟩ (Value.slice a1 (n - t + lays.length) cap1)).setCell ⟨mb, 1, none⟩ (Value.slice a2 (m - a + aside.length) cap2)).output = w3.output := rfl
  generalize ((w3.setCell ⟨mb, 0, none⟩ (Value.slice a1 (n - t + lays.length) cap1)).setCell ⟨mb, 1, none⟩ (Value.slice a2 (m - a + aside.length) cap2)) = w4 at *
  have hr4 : w4.heap[rb]? = _ := (h4b rb nemr).trans ((two.block rb ltr (fun e => own_ne_of_type hrun1.st hrun1.r (by decide) e.symm) (fun e => own_ne_of_type hrun1.as hrun1.r (by decide) e.symm)).trans hrun1.r)
  have hE4 : w4.heap[w.heap.size]? = _ := (h4b _ neEM).trans ((two.block _ (heap_lt (unhide HE)) (bSe ▸ neES) (bRe ▸ neER)).trans (unhide HE))
  have oT1 : w1.ownsRow 0 5 1 (.slice aT q capT) q (s.out.map byteCell) := by have := hrun1.ot; rw [unhide N3] at this; exact this
  have oT : w4.ownsRow 0 5 1 (.slice aT q capT) q (s.out.map byteCell) := owns_kept oT1 fun k e => (h4b k (fun h => own_ne_of_type hrun1.ot hrun1.m (by decide) (h ▸ e))).trans (two.block k (hrun1.lt k (.inl (.inr (.inr (.inr (.inr e))))))
    (fun e' => by obtain ⟨c1, x1⟩ := owns_block hrun1.st e'.symm; obtain ⟨c2, x2⟩ := owns_block hrun1.ot e; exact ne_of_type x1 x2 (by decide) rfl)
    (fun e' => by obtain ⟨c1, x1⟩ := owns_block hrun1.as e'.symm; obtain ⟨c2, x2⟩ := owns_block hrun1.ot e; exact ne_of_type x1 x2 (by decide) rfl))
  have rb5 : w4.cell? ⟨rb, 5, none⟩ = some (.slice aT q capT) := cell_of_block hr4 rfl
  have fz5 : w4.frozen? ⟨rb, 5, none⟩ = false := frozen_of_block 5 hr4
  have e2 : w4.cell? ⟨w.heap.size, 2, none⟩ = some (.string tells) := cell_of_block hE4 rfl
  have neER' : w.heap.size ≠ rb := by have := heap_lt (unhide HRun).r; omega
  have neET : some w.heap.size ≠ (Value.slice aT q capT).ownBlock := fun e => by have := (unhide HRun).lt w.heap.size (.inl (.inr (.inr (.inr (.inr e.symm))))); omega
  have neRT : some rb ≠ (Value.slice aT q capT).ownBlock := fun e => own_ne_of_type oT hr4 (by decide) e.symm
  have Htwo := hide two
  have H4m := hide h4m
  have H4b := hide h4b
  have H4s := hide h4s
  have H4 := hide (And.intro h4o (And.intro h4t h4p))
  have Hr4 := hide hr4
  clear two h4m h4b h4s h4o h4t h4p hr4 hE4 hrun1 hm3 oT1 o1 o2 g1 g2 t1 t2 e0 e1 fz0 fz1 mb0 mb1 oR sA
  obtain ⟨i5t, hi5, hz5, hs5, hb5⟩ := info5
  go_wp2
  go_region_law
    ((refine step_append_str _ (by rfl) _ _ _ _ (by rfl) 5 i5t Tryd.underlying41 Tryd.underlying9 hi5 hz5 hs5 hb5 (.slice aT q capT) q (s.out.map byteCell) (by rfl) (by exact oT) tells (by rfl) (by unfold maxLen; omega) (by omega) ?_
      intro a3 cap3 w5 o3 g3 t3
      have g3 : w4.grownBy w5 (Value.slice aT q capT).ownBlock := ⟨g3.os, g3.tape, g3.output, g3.size, g3.block⟩
      have e2 := g3.cell e2 neET
      have fz5 := grown_fz g3 rb5 fz5 neRT
      have rb5 := g3.cell rb5 neRT))
  all_goals
    have hw4 : rb < w4.heap.size := heap_lt (unhide Hr4)
    have hr5 : w5.heap[rb]? = _ := (g3.block rb hw4 neRT).trans (unhide Hr4)
    have h6r := set_block hr5 5 (Value.slice a3 (q + tells.size) cap3)
    have H6r := hide h6r
    have T3 := hide t3
    have G3 := hide g3
    have O3 := hide o3
    clear h6r hr5 t3 g3 o3 e2 fz5 rb5
    go_wp2
    go_ret
    obtain rfl := unhide N1
    obtain rfl := unhide N2
    obtain rfl := unhide N3
    obtain rfl := unhide N4
    obtain rfl := unhide N5
    have hsz := Lib.size_eq tells
    refine ⟨rfl, _, _, _, commit_end (t := t) (a := a) (lays := lays) (aside := aside) (tells := tells.data.toList) (unhide HRun) (unhide Hbel) (unhide Htwo) (unhide H4).1 (unhide H4).2.1 (unhide H4).2.2 (unhide H4s) (unhide H4b) (unhide H4m) (unhide G3) ?_ (unhide T3) rfl rfl rfl (by simp [World.setCell]) (fun k hk => Below.heap_setCell _ _ _ _ hk) (unhide H6r) h1 h2 (by rw [← hsz]; exact h3) (unhide Hin).1 (unhide Hin).2⟩
    rw [← hsz]
    exact unhide O3
end Go.Proofs.YthpcapohfjidoaaDoor
