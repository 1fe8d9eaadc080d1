/- What digits and pick answer, for every number. -/
import Derived.Test.YthpcapohfjidoaaDoorProg
import Derived.Test.YthpcapohfjidoaaDoorK0
import Derived.WalkKit
import Derived.WalkSpells
import Derived.WalkLawsBesides
import Derived.Lib.ItoaNum
namespace Go.Proofs.YthpcapohfjidoaaDoor
open Go.RowKit

set_option maxHeartbeats 400000 in
theorem digits_pos (n : Nat) (w : World) (h1 : (n : Int) ≤ 9223372036854775807) :
    Calls Tryd.prog 8 #[.int .i64 n] w fun e w' => e = .returned (.string (digStr n)) ∧ w' = w := by
  have hlt : ¬ ((n : Int) < 0) := by omega
  have hl : (Lib.decDigits n).length ≤ 19 := dec_len n (by omega)
  go_enter Tryd.func8, Tryd.ntmps8
  go_wp2
  go_loop [0, 3] (fun a b => ∃ (m : Nat) (s : List UInt8), a = .int .i64 m ∧ b = .string ⟨s.toArray⟩ ∧ m ≤ n ∧ s.length ≤ 19 ∧ Lib.decDigits n = Lib.decDigits m ++ s) (fun a _ => (intOf a).toNat)
  case atStart => exact ⟨n, [], rfl, rfl, Nat.le_refl _, by simp, by simp⟩
  case round =>
    obtain ⟨m, s, rfl, rfl, hm, hsl, hs⟩ := hrel
    have HS := hide hs
    clear hs
    by_cases hz : m / 10 = 0
    · have hb : ((m : Int) / 10 == 0) = true := by rw [beq_iff_eq]; omega
      clear hz
      go_wp2
      go_ret
      refine ⟨?_, rfl⟩
      have hz : m / 10 = 0 := by rw [beq_iff_eq] at hb; omega
      rw [digit_cons, digStr, unhide HS, dec_small hz]
      rfl
    · have hb : ((m : Int) / 10 == 0) = false := by rw [beq_eq_false_iff_ne]; omega
      have Hz := hide hz
      clear hz
      go_wp2
      refine ⟨⟨m / 10, UInt8.ofNat (48 + m % 10) :: s, by go_num, by rw [digit_cons], by omega, ?_, ?_⟩, ?_⟩
      · have h2 := congrArg List.length (unhide HS)
        rw [dec_big (unhide Hz)] at h2
        simp at h2 ⊢
        omega
      · rw [unhide HS, dec_big (unhide Hz)]; simp
      · have := unhide Hz
        simp [intOf]; omega

/-- digits, for every number. -/
theorem digits_any (n : Int) (w : World) (h0 : -9223372036854775808 ≤ n) (h1 : n ≤ 9223372036854775807) :
    Calls Tryd.prog 8 #[.int .i64 n] w fun e w' => e = .returned (.string (itoaStr n)) ∧ w' = w := by
  by_cases hn : 0 ≤ n
  · obtain ⟨k, rfl⟩ := Int.eq_ofNat_of_zero_le hn
    rw [itoaStr_nat]
    exact digits_pos k w h1
  · have hlt : n < 0 := by omega
    by_cases hm : -9223372036854775808 < n
    · obtain ⟨k, hk⟩ := Int.eq_ofNat_of_zero_le (show 0 ≤ -n by omega)
      have Hk := hide hk
      have hl : (Lib.decDigits k).length ≤ 19 := dec_len k (by omega)
      have hneg : itoaStr n = ⟨(45 :: Lib.decDigits k).toArray⟩ := by
        unfold itoaStr Lib.itoa
        rw [if_pos hlt, show n.natAbs = k by omega]
      have Hneg := hide hneg
      have hkle : (k : Int) ≤ 9223372036854775807 := by omega
      have Hkle := hide hkle
      clear hk hneg hkle
      go_enter Tryd.func8, Tryd.ntmps8
      go_wp2_with fail
      rw [unhide Hk]
      refine (digits_pos k _ (unhide Hkle)).mono ?_
      rintro e w' ⟨rfl, rfl⟩
      have hsz : (digStr k).size ≤ 19 := by rw [digStr_size]; exact hl
      go_wp2
      go_ret
      refine ⟨?_, rfl⟩
      rw [unhide Hneg, digStr, minus_cons]
      rfl
    · have hmin : n = -9223372036854775808 := by omega
      have hb : ¬ (-9223372036854775808 < n) := hm
      have hs : itoaStr n = ⟨#[45, 57, 50, 50, 51, 51, 55, 50, 48, 51, 54, 56, 53, 52, 55, 55, 53, 56, 48, 56]⟩ := by
        rw [hmin]; exact itoaStr_min
      have Hs := hide hs
      clear hmin hm hs
      go_enter Tryd.func8, Tryd.ntmps8
      go_wp2
      go_ret
      refine ⟨?_, rfl⟩
      rw [unhide Hs]
      rfl

/-- pick: from 0 up to n, at whatever number. -/
theorem pick_any (c n : Int) (w : World) (h0 : -9223372036854775808 ≤ c) (h1 : c ≤ 9223372036854775807) (hn : 0 < n) (hn1 : n ≤ 9223372036854775807) :
    Calls Tryd.prog 6 #[.int .i64 c, .int .i64 n] w fun e w' => e = .returned (.int .i64 ((if c < 0 then -(c + 1) else c) % n)) ∧ w' = w := by
  have hne : (n == 0) = false := by rw [beq_eq_false_iff_ne]; omega
  by_cases hc : c < 0
  · rw [if_pos hc]
    have hm : 0 ≤ -(c + 1) := by omega
    have hm2 : -(c + 1) ≤ 9223372036854775807 := by omega
    go_enter Tryd.func6, Tryd.ntmps6
    go_wp2
    go_ret
    exact ⟨ret_int (by rw [← Int.neg_tmod, Int.tmod_eq_emod_of_nonneg hm]), rfl⟩
  · rw [if_neg hc]
    go_enter Tryd.func6, Tryd.ntmps6
    go_wp2
    go_ret
    exact ⟨rfl, rfl⟩
end Go.Proofs.YthpcapohfjidoaaDoor
