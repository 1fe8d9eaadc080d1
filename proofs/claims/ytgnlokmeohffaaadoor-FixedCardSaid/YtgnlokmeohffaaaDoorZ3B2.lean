/- Fixed answers true, whatever the numbers: the walk. -/
import Derived.Test.YtgnlokmeohffaaaDoorZ3B1
namespace Go.Proofs.YtgnlokmeohffaaaDoor
open Go.RowKit

theorem hold_of {m : N.Mach} (h : m.all.length ≤ 100) : m.all.length + 1000 ≤ 1000000000000 := by omega
def tells2 (js : List Nat) : N.Txt := N.bitsTells js 3 ++ N.bitsTells js (N.bitsV js 3)

set_option maxRecDepth 100000 in
set_option maxHeartbeats 1600000 in
theorem fixed_walk (a0 : Option Addr) (l0 c0 : Nat) (z0 : List Int) (a1 : Option Addr) (l1 c1 : Nat) (z1 : List Int) (gone : Int) (w : World) (hi0 : Ints w a0 l0 z0) (hi1 : Ints w a1 l1 z1) (hg : inI64 gone) (htab : TabOk w) :
    Calls Tryd.prog 6 #[.slice a0 l0 c0, .slice a1 l1 c1, .int .i64 gone] w fun r w' => r = .returned (.bool true) ∧ Below w.heap.size w w' := by
  have Htab := hide htab
  have HI := hide (And.intro hi0 hi1)
  have HG := hide hg
  have hj0 := rawBits_lt z0
  have hn0 := rawBits_len z0
  have hj1 := rawBits_lt z1
  have hn1 := rawBits_len z1
  have HJ := hide (And.intro (And.intro hj0 hn0) (And.intro hj1 hn1))
  clear htab hi0 hi1 hg hj0 hn0 hj1 hn1
  go_enter Tryd.func6, Tryd.ntmps6
  go_wp2_with fail
  refine (laid_any w (unhide Htab)).mono ?_
  rintro e w1 ⟨mb, rfl, h1, hb1⟩
  have H1 := hide (And.intro h1 hb1)
  clear h1 hb1
  go_wp2_with fail
  refine (laid_any w1 (unhide H1).1.tab).mono ?_
  rintro e w2 ⟨nb, rfl, h2, hb2⟩
  have H2 := hide (And.intro ((unhide H1).1.join hb2 h2) ((unhide H1).2.trans (hb2.mono (unhide H1).2.size)))
  clear h2 hb2
  go_wp2_with fail
  refine (makes_any w2 ⟨#[119]⟩ a0 l0 c0 z0 ((unhide HI).1.below (unhide H2).2) (by decide)).mono ?_
  rintro e w3 ⟨M1, rfl, hM1, hb3⟩
  have H3 := hide (And.intro hM1 (And.intro ((unhide H2).1.below hb3) ((unhide H2).2.trans (hb3.mono (unhide H2).2.size))))
  clear hM1 hb3
  go_wp2_with fail
  have hd4 := (unhide H3).2.1.does (m' := ⟨N.laidAll 3 ++ [N.wEnt N.tW (rawBits z0)], [], [], [], 1⟩) M1 ⟨#[]⟩ (hold_of (by decide)) (by rw [(unhide H3).1]; exact N.w_line (rawBits z0) (unhide HJ).1.1 (unhide HJ).1.2 [] 8)
  refine hd4.mono ?_
  rintro e w4 ⟨rfl, h4, hb4⟩
  have H4 := hide (And.intro h4 ((unhide H3).2.2.trans hb4))
  clear h4 hb4 hd4
  go_wp2_with fail
  refine (makes_any w4 ⟨#[119]⟩ a0 l0 c0 z0 ((unhide HI).1.below (unhide H4).2) (by decide)).mono ?_
  rintro e w5 ⟨M2, rfl, hM2, hb5⟩
  have H5 := hide (And.intro hM2 (And.intro ((unhide H4).1.below hb5) ((unhide H4).2.trans (hb5.mono (unhide H4).2.size))))
  clear hM2 hb5
  go_wp2_with fail
  have hd6 := (unhide H5).2.1.swap.does (m' := ⟨N.laidAll 3 ++ [N.wEnt N.tW (rawBits z0)], [], [], [], 1⟩) M2 ⟨#[]⟩ (hold_of (by decide)) (by rw [(unhide H5).1]; exact N.w_line (rawBits z0) (unhide HJ).1.1 (unhide HJ).1.2 [] 8)
  refine hd6.mono ?_
  rintro e w6 ⟨rfl, h6, hb6⟩
  have H6 := hide (And.intro h6 ((unhide H5).2.2.trans hb6))
  clear h6 hb6 hd6
  have hd7 := (unhide H6).1.does (m' := ⟨N.laidAll 3 ++ N.wEnt N.tW (rawBits z0) :: (N.overSix ++ [N.entZ false]), [], [], [], 8⟩) ⟨N.overTxt.toArray⟩ ⟨#[]⟩ (hold_of (by simp [N.laidAll])) (N.over_line (rawBits z0) [] 1)
  have HD7 := hide hd7
  clear hd7
  go_wp2_with fail
  refine (unhide HD7).mono ?_
  rintro e w7 ⟨rfl, h7, hb7⟩
  have H7 := hide (And.intro h7 ((unhide H6).2.trans hb7))
  clear h7 hb7 HD7
  go_wp2_with fail
  refine (makes_any w7 ⟨#[121]⟩ a1 l1 c1 z1 ((unhide HI).2.below (unhide H7).2) (by decide)).mono ?_
  rintro e w8 ⟨M3, rfl, hM3, hb8⟩
  have H8 := hide (And.intro hM3 (And.intro ((unhide H7).1.below hb8) ((unhide H7).2.trans (hb8.mono (unhide H7).2.size))))
  clear hM3 hb8
  go_wp2_with fail
  obtain ⟨C, hy⟩ := N.y_line (rawBits z0) (rawBits z1) (unhide HJ).2.1 (unhide HJ).2.2 [] 8
  have hd9 := (unhide H8).2.1.does (m' := ⟨N.laidAll 3 ++ N.wEnt N.tW (rawBits z0) :: (N.overSix ++ [N.entZ false, ⟨N.tY, 1, 0, C, true, false⟩]), [], [], [], 1⟩) M3 ⟨#[]⟩ (hold_of (by simp [N.laidAll, N.overSix])) (by rw [(unhide H8).1]; exact hy)
  refine hd9.mono ?_
  rintro e w9 ⟨rfl, h9, hb9⟩
  have H9 := hide (And.intro h9 ((unhide H8).2.2.trans hb9))
  clear h9 hb9 hd9 hy
  have fin : ∀ (g : Bool) (W : World), Duo w.heap.size W nb mb ⟨N.laidAll 3 ++ N.wEnt N.tW (rawBits z0) :: (N.overSix ++ [N.entZ g, ⟨N.tY, 1, 0, C, true, g⟩]), [], [], [], 1⟩ ⟨N.laidAll 3 ++ [N.wEnt N.tW (rawBits z0)], [], [], [], 1⟩ →
      Calls Tryd.prog 13 #[.pointer (some ⟨mb, 0, none⟩), .string ⟨#[119, 32, 119]⟩] W fun r W1 => r = .returned (.agg #[.string ⟨(tells2 (rawBits z0)).toArray⟩, .int .i64 0, .int .i64 0]) ∧ Below w.heap.size W W1 ∧ w.heap.size ≤ W1.heap.size ∧
        ∀ W2, Below W1.heap.size W1 W2 → Calls Tryd.prog 13 #[.pointer (some ⟨nb, 0, none⟩), .string ⟨#[119, 50, 32, 119]⟩] W2 fun r W3 => r = .returned (.agg #[.string ⟨(tells2 (rawBits z0)).toArray⟩, .int .i64 0, .int .i64 0]) ∧ Below w.heap.size W2 W3 ∧ ∀ b, b < W2.heap.size → (∃ c, W2.heap[b]? = some (Obj.cells c 34)) → W3.heap[b]? = W2.heap[b]? := by
    intro g W hD
    obtain ⟨st1, e1⟩ := N.ww_line (rawBits z0) (unhide HJ).1.1 (unhide HJ).1.2 [] 1
    obtain ⟨st2, e2⟩ := N.w2_line (rawBits z0) C g (unhide HJ).1.1 (unhide HJ).1.2 [] 1
    have hd := hD.swap.do ⟨#[119, 32, 119]⟩ (hold_of (by simp [N.laidAll]))
    rw [show (⟨#[119, 32, 119]⟩ : ByteArray).data.toList = [119, 32, 119] from rfl, e1] at hd
    refine hd.mono ?_
    rintro r W1 ⟨rfl, hD1, hB1⟩
    refine ⟨rfl, hB1, hD1.1, fun W2 hb2 => ?_⟩
    obtain ⟨h0, F, G, hF, hG, _, _, hGB⟩ := (hD1.below hb2)
    have hd2 := hG.do ⟨#[119, 50, 32, 119]⟩ (hold_of (by cases g <;> simp [N.laidAll, N.overSix]))
    rw [show (⟨#[119, 50, 32, 119]⟩ : ByteArray).data.toList = [119, 50, 32, 119] from rfl, e2] at hd2
    refine hd2.mono ?_
    rintro r W3 ⟨rfl, G', hG', hm, hf⟩
    refine ⟨rfl, hm.below hGB h0, fun b hb hc => hm.block b hb fun hgb => ?_⟩
    obtain ⟨c, hc⟩ := hc
    obtain ⟨vO, vB, vS, vR, wv, hT, rfl⟩ := hG
    exact hT.n.not_ans hc hgb
  have Fin := hide fin
  clear fin
  go_wp2_with fail
  refine (pick_any gone 2 _ (unhide HG).1 (unhide HG).2 (by omega) (by omega)).mono ?_
  rintro e w1x ⟨rfl, hwx⟩
  subst w1x
  obtain ⟨p, hp, hp2⟩ : ∃ p : Nat, (if gone < 0 then -(gone + 1) else gone) % 2 = (p : Int) ∧ p < 2 := ⟨((if gone < 0 then -(gone + 1) else gone) % 2).toNat, by omega, by omega⟩
  rw [hp]
  clear hp
  have hh : p = 0 ∨ p = 1 := by omega
  clear hp2
  rcases hh with rfl | rfl
  · go_wp2_with fail
    have hd10 := (unhide H9).1.does (m' := ⟨N.laidAll 3 ++ N.wEnt N.tW (rawBits z0) :: (N.overSix ++ [N.entZ true, ⟨N.tY, 1, 0, C, true, true⟩]), [], [], [], 1⟩) ⟨#[122]⟩ ⟨#[]⟩ (hold_of (by simp [N.laidAll, N.overSix])) (N.z_line (rawBits z0) C [] 1)
    refine hd10.mono ?_
    rintro e w10 ⟨rfl, h10, hb10⟩
    have H10 := hide (And.intro h10 ((unhide H9).2.trans hb10))
    clear h10 hb10 hd10
    have hf := unhide Fin true w10 (unhide H10).1
    have HF := hide hf
    clear hf Fin
    go_wp2_with fail
    refine (unhide HF).mono ?_
    rintro e W1 ⟨rfl, hb1, hs1, hnext⟩
    generalize (⟨(tells2 (rawBits z0)).toArray⟩ : ByteArray) = TT at *
    have hbA : Below W1.heap.size W1 (W1.alloc (Obj.cells #[Value.string TT, Value.int .i64 0, Value.int .i64 0] 34)) := (Below.refl _ _).alloc (Nat.le_refl _) _
    have hblk := heap_alloc_new W1 (Obj.cells #[Value.string TT, Value.int .i64 0, Value.int .i64 0] 34)
    have hn2 := hnext _ hbA
    have HN := hide (And.intro hn2 (And.intro hblk (And.intro hbA (And.intro hb1 hs1))))
    clear hnext hn2 hblk hbA hb1 hs1 HF
    go_wp2_with fail
    refine (unhide HN).1.mono ?_
    rintro e W3 ⟨rfl, hb3, hk3⟩
    have hblk3 := (hk3 _ (heap_lt (unhide HN).2.1) ⟨_, (unhide HN).2.1⟩).trans (unhide HN).2.1
    have HB3 := hide (And.intro hb3 hblk3)
    have hb4 : Below W3.heap.size W3 (W3.alloc (Obj.cells #[Value.string TT, Value.int .i64 0, Value.int .i64 0] 34)) := (Below.refl _ _).alloc (Nat.le_refl _) _
    have hblk4 := heap_alloc_new W3 (Obj.cells #[Value.string TT, Value.int .i64 0, Value.int .i64 0] 34)
    have hblk5 := (hb4.block _ (heap_lt hblk3)).trans hblk3
    have q0 := cell_of_block (j := 0) hblk4 rfl
    have q1 := cell_of_block (j := 1) hblk4 rfl
    have p0 := cell_of_block (j := 0) hblk5 rfl
    have p1 := cell_of_block (j := 1) hblk5 rfl
    have HB4 := hide hb4
    have hTT : (TT.toList == TT.toList) = true := by simp
    clear hb3 hk3 hblk3 hb4 hblk4 hblk5
    go_wp2
    go_ret
    have hn := unhide HN
    have h3 := unhide HB3
    have h10 := unhide H10
    have s1 := hn.2.2.2.2
    have s2 := Nat.le_trans s1 hn.2.2.1.size
    exact ⟨rfl, h10.2.trans (hn.2.2.2.1.trans ((hn.2.2.1.mono s1).trans (h3.1.trans ((unhide HB4).mono (Nat.le_trans s2 h3.1.size)))))⟩
  · have i1 : ((1 : Nat) : Int) = 1 := rfl
    have hf := unhide Fin false w9 (unhide H9).1
    have HF := hide hf
    have H10 := H9
    clear hf Fin i1
    go_wp2_with fail
    refine (unhide HF).mono ?_
    rintro e W1 ⟨rfl, hb1, hs1, hnext⟩
    generalize (⟨(tells2 (rawBits z0)).toArray⟩ : ByteArray) = TT at *
    have hbA : Below W1.heap.size W1 (W1.alloc (Obj.cells #[Value.string TT, Value.int .i64 0, Value.int .i64 0] 34)) := (Below.refl _ _).alloc (Nat.le_refl _) _
    have hblk := heap_alloc_new W1 (Obj.cells #[Value.string TT, Value.int .i64 0, Value.int .i64 0] 34)
    have hn2 := hnext _ hbA
    have HN := hide (And.intro hn2 (And.intro hblk (And.intro hbA (And.intro hb1 hs1))))
    clear hnext hn2 hblk hbA hb1 hs1 HF
    go_wp2_with fail
    refine (unhide HN).1.mono ?_
    rintro e W3 ⟨rfl, hb3, hk3⟩
    have hblk3 := (hk3 _ (heap_lt (unhide HN).2.1) ⟨_, (unhide HN).2.1⟩).trans (unhide HN).2.1
    have HB3 := hide (And.intro hb3 hblk3)
    have hb4 : Below W3.heap.size W3 (W3.alloc (Obj.cells #[Value.string TT, Value.int .i64 0, Value.int .i64 0] 34)) := (Below.refl _ _).alloc (Nat.le_refl _) _
    have hblk4 := heap_alloc_new W3 (Obj.cells #[Value.string TT, Value.int .i64 0, Value.int .i64 0] 34)
    have hblk5 := (hb4.block _ (heap_lt hblk3)).trans hblk3
    have q0 := cell_of_block (j := 0) hblk4 rfl
    have q1 := cell_of_block (j := 1) hblk4 rfl
    have p0 := cell_of_block (j := 0) hblk5 rfl
    have p1 := cell_of_block (j := 1) hblk5 rfl
    have HB4 := hide hb4
    have hTT : (TT.toList == TT.toList) = true := by simp
    clear hb3 hk3 hblk3 hb4 hblk4 hblk5
    go_wp2
    go_ret
    have hn := unhide HN
    have h3 := unhide HB3
    have h10 := unhide H10
    have s1 := hn.2.2.2.2
    have s2 := Nat.le_trans s1 hn.2.2.1.size
    exact ⟨rfl, h10.2.trans (hn.2.2.2.1.trans ((hn.2.2.1.mono s1).trans (h3.1.trans ((unhide HB4).mono (Nat.le_trans s2 h3.1.size)))))⟩
end Go.Proofs.YtgnlokmeohffaaaDoor
