/- What the functions of package scan answer: isBlank, Words, Number. -/
import Derived.Test.YthpcapohfjidoaaDoorProg
import Derived.Test.YthpcapohfjidoaaDoorK0
import Derived.Test.YthpcapohfjidoaaDoorL1
import Derived.Test.YthpcapohfjidoaaDoorL2
import Derived.Test.YthpcapohfjidoaaDoorShelf
import Derived.WalkKit
import Derived.WalkSpells
import Derived.WalkLawsBesides
namespace Go.Proofs.YthpcapohfjidoaaDoor
open Go.RowKit

theorem isBlank_any (r : Nat) (w : World) (h : r ≤ 1114111) :
    Calls Tryd.prog 15 #[.int .i32 r] w fun e w' => e = .returned (.bool (L.blankN r)) ∧ w' = w := by
  go_enter Tryd.func15, Tryd.ntmps15
  go_wp2
  all_goals
    go_ret
    refine ⟨ret_bool ?_, rfl⟩
    unfold L.blankN
    rw [Bool.eq_iff_iff]
    simp
    omega

theorem blank_pred (w : World) : PredAtRunes Tryd.prog 15 #[] L.blankN w := by
  intro W x hx _
  refine (isBlank_any x W hx).mono ?_
  rintro e w' ⟨rfl, rfl⟩
  exact ⟨rfl, 0, rfl⟩

/-- Words: the words of a line, as texts in a row of their own. -/
theorem words_any (s : ByteArray) (w : World) (hs : s.size ≤ 4294967296) :
    Calls Tryd.prog 12 #[.string s] w fun e w' => ∃ v, e = .returned v ∧ w'.ownsRow w.heap.size 9 1 v (L.split s.data.toList).length ((L.split s.data.toList).map fun l => Value.string ⟨l.toArray⟩) ∧ Below w.heap.size w w' := by
  go_enter Tryd.func12, Tryd.ntmps12
  go_wp2_with fail
  refine (Tryd.strings_FieldsFunc_runes 15 #[] (fun _ _ => rfl) L.blankN s _ hs (blank_pred _)).mono ?_
  rintro e w' ⟨B, rfl, hB, hown, hbel⟩
  go_wp2
  go_ret
  rw [L.words_split] at hown
  refine ⟨_, rfl, ?_, hbel⟩
  show w'.ownsRow w.heap.size 9 1 (Value.slice (some ⟨B, 0, none⟩) (Lib.goFieldsP L.blankN s).length (Lib.goFieldsP L.blankN s).length) _ _
  rw [L.words_split]
  simpa only [List.length_map, List.map_map, Function.comp_def] using hown

theorem take_snoc (s : ByteArray) (k : Nat) (h : k < s.size) : s.data.toList.take (k + 1) = s.data.toList.take k ++ [s[k]] := by
  rw [List.take_succ_eq_append_getElem (by simpa using h)]; rfl

theorem all_of_take {l : List UInt8} {p : UInt8 → Bool} {k : Nat} (h : (l.take k).all p = false) : l.all p = false := by
  rw [← List.take_append_drop k l, List.all_append, h]
  rfl

set_option maxRecDepth 100000 in
set_option maxHeartbeats 800000 in
theorem number_core (s d : ByteArray) (neg : Bool) (res : Option Int) (w : World) (HT : Hid ((⟨(Lib.trimPrefix s.data.toList (⟨#[45]⟩ : ByteArray).data.toList).toArray⟩ : ByteArray) = d))
    (HN : Hid (Lib.hasPrefix s.data.toList (⟨#[45]⟩ : ByteArray).data.toList = neg))
    (HR : Hid (res = if d.data.toList.length = 0 ∨ 18 < d.data.toList.length ∨ d.data.toList.all L.isDigit = false then none else some (if neg then -(L.digVal d.data.toList : Int) else L.digVal d.data.toList))) :
    Calls Tryd.prog 28 #[.string s] w fun e w' => e = .returned (.tuple #[.int .i64 (res.getD 0), .bool res.isSome]) ∧ w' = w := by
  have HS := hide (Lib.size_eq d)
  have hlist : d.toList = d.data.toList := Go.ByteArray.toList_eq d
  by_cases h0 : d.size = 0
  · have hb : (d.toList == []) = true := by rw [hlist]; simp [List.length_eq_zero_iff.1 ((unhide HS).symm.trans h0)]
    have Hres := hide (show res = none by rw [unhide HR, if_pos (.inl ((unhide HS).symm.trans h0))])
    clear h0 hlist
    go_enter Tryd.func28, Tryd.ntmps28
    go_wp2_with fail
    refine (Tryd.strings_CutPrefix s ⟨#[45]⟩ _).mono ?_
    rintro e w' ⟨rfl, rfl⟩
    rw [unhide HT, unhide HN]
    go_wp2
    go_ret2
    exact ⟨ret_ib (by rw [unhide Hres]; rfl) (by rw [unhide Hres]; rfl), rfl⟩
  · have hb : (d.toList == []) = false := by
      rw [hlist, beq_eq_false_iff_ne]
      intro h
      rw [unhide HS, h] at h0
      exact h0 rfl
    clear h0 hlist
    by_cases h18 : 18 < d.size
    · have Hres := hide (show res = none by rw [unhide HR, if_pos (.inr (.inl (by rw [← unhide HS]; exact h18)))])
      go_enter Tryd.func28, Tryd.ntmps28
      go_wp2_with fail
      refine (Tryd.strings_CutPrefix s ⟨#[45]⟩ _).mono ?_
      rintro e w' ⟨rfl, rfl⟩
      rw [unhide HT, unhide HN]
      go_wp2
      go_ret2
      exact ⟨ret_ib (by rw [unhide Hres]; rfl) (by rw [unhide Hres]; rfl), rfl⟩
    · have hle : d.size ≤ 18 := by omega
      clear h18
      go_enter Tryd.func28, Tryd.ntmps28
      go_wp2_with fail
      refine (Tryd.strings_CutPrefix s ⟨#[45]⟩ _).mono ?_
      rintro e w' ⟨rfl, rfl⟩
      rw [unhide HT, unhide HN]
      go_wp2
      go_loop [6, 23] (fun n i => ∃ k : Nat, k ≤ d.size ∧ i = .int .i64 k ∧ n = .int .i64 (L.digVal (d.data.toList.take k)) ∧ (d.data.toList.take k).all L.isDigit = true) (fun _ i => d.size - (intOf i).toNat)
      case atStart => exact ⟨0, Nat.zero_le _, rfl, rfl, rfl⟩
      case round =>
        obtain ⟨k, hk, rfl, rfl, hall⟩ := hrel
        by_cases hlt : k < d.size
        · have hts := take_snoc d k hlt
          have hdl := L.digVal_lt _ hall
          have hpw := L.pow_le17 (d.data.toList.take k).length (by rw [List.length_take]; omega)
          have hsm : (L.digVal (d.data.toList.take k) : Int) ≤ 99999999999999999 := by omega
          have hc : d[k].toNat < 256 := UInt8.toNat_lt d[k]
          have hbad : ((d[k].toNat : Int) < 48 ∨ 57 < (d[k].toNat : Int)) → res = none := fun hx => by
            rw [unhide HR, if_pos]
            refine .inr (.inr (all_of_take (k := k + 1) ?_))
            rw [hts, List.all_append, hall]
            have : L.isDigit d[k] = false := by
              unfold L.isDigit
              rw [Bool.and_eq_false_iff, decide_eq_false_iff_not, decide_eq_false_iff_not]
              omega
            simp [this]
          have hgood : (48 ≤ (d[k].toNat : Int) ∧ (d[k].toNat : Int) ≤ 57) → (L.digVal (d.data.toList.take k) : Int) * 10 + ((d[k].toNat : Int) - 48) = (L.digVal (d.data.toList.take (k + 1)) : Int) ∧ (d.data.toList.take (k + 1)).all L.isDigit = true := fun hx => by
            rw [hts, L.digVal_snoc, List.all_append, hall]
            have : L.isDigit d[k] = true := by
              unfold L.isDigit
              rw [Bool.and_eq_true, decide_eq_true_eq, decide_eq_true_eq]
              omega
            refine ⟨by omega, by simp [this]⟩
          have Hbad := hide hbad
          have Hgood := hide hgood
          clear hdl hpw hall hts hbad hgood
          go_wp2
          all_goals first
            | (go_ret2; exact ⟨ret_ib (by rw [unhide Hbad (by omega)]; rfl) (by rw [unhide Hbad (by omega)]; rfl), rfl⟩)
            | exact ⟨⟨k + 1, by omega, by go_num, by rw [(unhide Hgood (by omega)).1], (unhide Hgood (by omega)).2⟩, by simp [intOf]; omega⟩
        · have hks : d.data.toList.take k = d.data.toList := List.take_of_length_le (by rw [← unhide HS]; omega)
          rw [hks] at hall
          rw [hks]
          have hdl := L.digVal_lt _ hall
          have hpw := L.pow_le d.data.toList.length (by rw [← unhide HS]; omega)
          have hsm : (L.digVal d.data.toList : Int) ≤ 999999999999999999 := by omega
          have Hres := hide (show res = some (if neg then -(L.digVal d.data.toList : Int) else L.digVal d.data.toList) by
            rw [unhide HR, if_neg]
            rintro (h | h | h)
            · rw [beq_eq_false_iff_ne] at hb
              exact hb (by rw [Go.ByteArray.toList_eq]; exact List.length_eq_zero_iff.1 h)
            · rw [← unhide HS] at h; omega
            · rw [hall] at h; cases h)
          clear hdl hpw hall hks
          go_wp2
          all_goals go_ret2
          · exact ⟨ret_ib (by rw [unhide Hres]; simp [*]) (by rw [unhide Hres]; rfl), rfl⟩
          · exact ⟨ret_ib (by rw [unhide Hres]; simp [*]) (by rw [unhide Hres]; rfl), rfl⟩

/-- Number: the number that a word is as it is written, and whether it is one. -/
theorem number_any (s : ByteArray) (w : World) :
    Calls Tryd.prog 28 #[.string s] w fun e w' => e = .returned (.tuple #[.int .i64 ((L.number s.data.toList).getD 0), .bool (L.number s.data.toList).isSome]) ∧ w' = w := by
  refine number_core s ⟨(Lib.trimPrefix s.data.toList [45]).toArray⟩ (Lib.hasPrefix s.data.toList [45]) (L.number s.data.toList) w (hide rfl) (hide rfl) (hide ?_)
  unfold L.number
  rfl
end Go.Proofs.YthpcapohfjidoaaDoor
