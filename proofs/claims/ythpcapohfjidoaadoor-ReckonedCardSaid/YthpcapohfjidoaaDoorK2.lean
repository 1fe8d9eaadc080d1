/- Reckoned answers true, whatever the numbers: the walk. -/
import Derived.Test.YthpcapohfjidoaaDoorK1
import Derived.Test.YthpcapohfjidoaaDoorR9
import Derived.Test.YthpcapohfjidoaaDoorR10
import Derived.Test.YthpcapohfjidoaaDoorL8
namespace Go.Proofs.YthpcapohfjidoaaDoor
open Go.RowKit

theorem tmod_small (a : Int) : -1000000000000000000 < a.tmod 1000000000000000000 ∧ a.tmod 1000000000000000000 < 1000000000000000000 := by
  have h1 : (a.tmod 1000000000000000000).natAbs < 1000000000000000000 := by
    rw [Int.natAbs_tmod]
    exact Nat.mod_lt _ (by decide)
  omega

theorem itoaStr_size (x : Int) (h : inI64 x) : (itoaStr x).size ≤ 20 := by
  have := itoa_len' x h.1 h.2
  simpa [itoaStr, ByteArray.size] using this

theorem MachAt.below {w w' : World} {mb : Nat} {vB vS vR : Value} {S R : List Int} (h : MachAt w mb vB vS vR S R) (hb : Below w.heap.size w w') : MachAt w' mb vB vS vR S R :=
  ⟨(hb.block mb (heap_lt h.m)).trans h.m, owns_kept h.st fun k e => hb.block k (h.st.lt k e).2, owns_kept h.rt fun k e => hb.block k (h.rt.lt k e).2, h.ap, h.sl, h.rl, h.si, h.ri⟩

theorem append_bytes (a b : ByteArray) : (a ++ b).data.toList = a.data.toList ++ b.data.toList := by
  simp

theorem does_reck (w1 : World) (mb : Nat) (x y z V : Int) (word : List UInt8) (X Y Z T wd : ByteArray) (hX : itoaStr x = X) (hY : itoaStr y = Y) (hZ : itoaStr z = Z) (hT : itoaStr V = T) (ix : inI64 x) (iy : inI64 y) (iz : inI64 z) (hwd : wd.data.toList ++ [32, 100, 117, 112, 32, 46] = word) (hwl : word.length ≤ 40)
    (hL : L.LineOk x y z word V) (hm : MachAt w1 mb (.int .i64 0) (.slice none 0 0) (.slice none 0 0) [] []) (htab : TabOk w1) (hF : ¬ MFoot mb (.slice none 0 0) (.slice none 0 0) 0) :
    Calls Tryd.prog 7 #[.pointer (some ⟨mb, 0, none⟩), .string (X ++ ⟨#[32]⟩ ++ Y ++ ⟨#[9]⟩ ++ Z ++ ⟨#[32]⟩ ++ wd ++ ⟨#[32, 100, 117, 112, 32, 46]⟩), .string (T ++ ⟨#[32]⟩)] w1 fun r w' => r = .returned (.bool true) ∧
      ∃ v1 v2, MachAt w' mb (.int .i64 0) v1 v2 [V] [] ∧ Mv (MFoot mb (.slice none 0 0) (.slice none 0 0)) w1 w' := by
  have hx := itoa_len' x ix.1 ix.2
  have hy := itoa_len' y iy.1 iy.2
  have hz := itoa_len' z iz.1 iz.2
  have hdata : (X ++ ⟨#[32]⟩ ++ Y ++ ⟨#[9]⟩ ++ Z ++ ⟨#[32]⟩ ++ wd ++ ⟨#[32, 100, 117, 112, 32, 46]⟩ : ByteArray).data.toList = L.line3 x y z word := by
    simp only [append_bytes]
    rw [← hX, ← hY, ← hZ, ← hwd]
    simp [itoaStr, L.line3]
  have hsize := Lib.size_eq (X ++ ⟨#[32]⟩ ++ Y ++ ⟨#[9]⟩ ++ Z ++ ⟨#[32]⟩ ++ wd ++ ⟨#[32, 100, 117, 112, 32, 46]⟩)
  rw [hdata] at hsize
  have hlen : (L.line3 x y z word).length ≤ 500 := by
    unfold L.line3
    simp only [List.length_append, List.length_cons]
    omega
  have hout : T ++ ⟨#[32]⟩ = (⟨(Lib.itoa V ++ [32]).toArray⟩ : ByteArray) := by rw [← hT]; exact snoc_bytes _ _
  obtain ⟨⟨k, hrun⟩, hpl, hV⟩ := hL
  rw [hout]
  have hdo := Do_ok w1 mb (.int .i64 0) (.slice none 0 0) (.slice none 0 0) [] [] (X ++ ⟨#[32]⟩ ++ Y ++ ⟨#[9]⟩ ++ Z ++ ⟨#[32]⟩ ++ wd ++ ⟨#[32, 100, 117, 112, 32, 46]⟩) _ hm htab hF (by rw [hsize]; exact hlen) (by rw [hdata]; exact hpl) (by rw [hdata]; exact hrun)
  refine (does_ok w1 mb _ _ (fun W => ∃ v1 v2, MachAt W mb (.int .i64 0) v1 v2 [V] [] ∧ Mv (MFoot mb (.slice none 0 0) (.slice none 0 0)) w1 W) (hide (hdo.mono fun r w' h => ⟨h.1, ?_⟩))).mono ?_
  · obtain ⟨v1, v2, h1, h2, _⟩ := h.2
    exact ⟨v1, v2, h1, h2⟩
  · rintro r w' ⟨rfl, W, ⟨v1, v2, h1, h2⟩, hb⟩
    exact ⟨rfl, v1, v2, h1.below hb, ⟨hb.os.trans h2.os, hb.tape.trans h2.tape, hb.output.trans h2.output, Nat.le_trans h2.size hb.size, fun k hk hn => (hb.block k (Nat.lt_of_lt_of_le hk h2.size)).trans (h2.block k hk hn)⟩⟩

set_option maxRecDepth 100000 in
set_option maxHeartbeats 1600000 in
theorem reck_0 (a b c how : Int) (w : World) (htab : TabOk w) (hh0 : -9223372036854775808 ≤ how) (hh1 : how ≤ 9223372036854775807) (Hpick : Hid ((if how < 0 then -(how + 1) else how) % 6 = 0)) :
    Calls Tryd.prog 3 #[.int .i64 a, .int .i64 b, .int .i64 c, .int .i64 how] w fun r w' => r = .returned (.bool true) ∧ Below w.heap.size w w' := by
  have Htab := hide htab
  have HH := hide (And.intro hh0 hh1)
  clear htab hh0 hh1
  go_enter Tryd.func3, Tryd.ntmps3
  go_wp2_with fail
  have Hx := hide (tmod_small a)
  have Hy := hide (tmod_small b)
  have Hz := hide (tmod_small c)
  generalize a.tmod 1000000000000000000 = x at *
  generalize b.tmod 1000000000000000000 = y at *
  generalize c.tmod 1000000000000000000 = z at *
  have Hix := hide (show inI64 x from ⟨by have := unhide Hx; omega, by have := unhide Hx; omega⟩)
  have Hiy := hide (show inI64 y from ⟨by have := unhide Hy; omega, by have := unhide Hy; omega⟩)
  have Hiz := hide (show inI64 z from ⟨by have := unhide Hz; omega, by have := unhide Hz; omega⟩)
  refine (new_any _).mono ?_
  rintro e w1 ⟨rfl, hw1⟩
  have Hw1 := hide hw1
  clear hw1
  go_wp2_with fail
  refine (pick_any how 6 _ (unhide HH).1 (unhide HH).2 (by omega) (by omega)).mono ?_
  rintro e w1' ⟨rfl, rfl⟩
  rw [unhide Hpick]
  go_wp2_with fail
  refine (digits_any x _ (unhide Hix).1 (unhide Hix).2).mono ?_
  rintro e w1' ⟨rfl, rfl⟩
  have sx := itoaStr_size x (unhide Hix)
  have sy := itoaStr_size y (unhide Hiy)
  have sz := itoaStr_size z (unhide Hiz)
  generalize hX : itoaStr x = X at *
  generalize hY : itoaStr y = Y at *
  generalize hZ : itoaStr z = Z at *
  have HX := hide hX
  have HY := hide hY
  have HZ := hide hZ
  clear hX hY hZ
  go_wp2_with fail
  refine (digits_any y _ (unhide Hiy).1 (unhide Hiy).2).mono ?_
  rintro e w1' ⟨rfl, rfl⟩
  rw [unhide HY]
  go_wp2_with fail
  refine (digits_any z _ (unhide Hiz).1 (unhide Hiz).2).mono ?_
  rintro e w1' ⟨rfl, rfl⟩
  rw [unhide HZ]
  go_wp2_with fail
  have hline := L.line_0 x y z (unhide Hx) (unhide Hy) (unhide Hz)
  generalize wrap64 (x * wrap64 (y + z)) = V at *
  have HL := hide hline
  have HiV := hide hline.2.2
  clear hline
  refine (digits_any V _ (unhide HiV).1 (unhide HiV).2).mono ?_
  rintro e w1' ⟨rfl, rfl⟩
  have sv := itoaStr_size V (unhide HiV)
  generalize hT : itoaStr V = T at *
  have HT := hide hT
  clear hT
  go_wp2_with fail
  have hw1 := unhide Hw1
  have hmb : w1'.heap[w.heap.size]? = some (.cells #[.slice none 0 0, .slice none 0 0, .slice none 0 0, .int .i64 0] 33) := by rw [hw1]; exact heap_alloc_new w _
  have hb1 : Below w.heap.size w w1' := by rw [hw1]; exact (Below.refl _ _).alloc (Nat.le_refl _) _
  have hmach : MachAt w1' w.heap.size (.int .i64 0) (.slice none 0 0) (.slice none 0 0) [] [] := ⟨hmb, World.ownsRow_nil _ _ _ _, World.ownsRow_nil _ _ _ _, fun k h _ => by simp [Value.ownBlock] at h, by simp, by simp, by simp, by simp⟩
  have htl := tab_lt (unhide Htab)
  have hF : ¬ MFoot w.heap.size (.slice none 0 0) (.slice none 0 0) 0 := by
    rintro (h | h | h)
    · omega
    · simp [Value.ownBlock] at h
    · simp [Value.ownBlock] at h
  have hdoes := does_reck w1' w.heap.size x y z V _ X Y Z T ⟨#[43, 32, 42]⟩ (unhide HX) (unhide HY) (unhide HZ) (unhide HT) (unhide Hix) (unhide Hiy) (unhide Hiz) rfl (by decide) (unhide HL) hmach (tabIs_of_block (unhide Htab) (hb1.block _ htl)) hF
  have HD := hide hdoes
  have Hb1 := hide hb1
  clear hdoes hw1 hmb hb1 hmach htl hF
  refine (unhide HD).mono ?_
  rintro e w2 ⟨rfl, v1, v2, hm2, hmv⟩
  have HM2 := hide hm2
  have HMV := hide hmv
  clear hm2 hmv
  go_wp2_with fail
  refine (stack_any _ w.heap.size 1 v1 [V] (cell_of_block (unhide HM2).m rfl) (unhide HM2).st (by omega)).mono ?_
  rintro e w3 ⟨v, rfl, hown, hb3⟩
  obtain ⟨g, cap, rfl, _, _⟩ := hown.form (by omega)
  have hc : w3.cell? ⟨g, 0, none⟩ = some (.int .i64 V) := by
    have := hown.cells (g := g) rfl 0 (.int .i64 V) rfl
    rwa [add_lit] at this
  have HB3 := hide hb3
  clear hown hb3
  go_wp2
  go_ret
  refine ⟨rfl, ?_⟩
  have h1 : Below w.heap.size w1' w2 := (unhide HMV).below (fun k hk => by
    rcases hk with h | h | h
    · omega
    · simp [Value.ownBlock] at h
    · simp [Value.ownBlock] at h) (unhide Hb1).size
  exact ((unhide Hb1).trans h1).trans ((unhide HB3).mono (Nat.le_trans (unhide Hb1).size h1.size))

set_option maxRecDepth 100000 in
set_option maxHeartbeats 1600000 in
theorem reck_1 (a b c how : Int) (w : World) (htab : TabOk w) (hh0 : -9223372036854775808 ≤ how) (hh1 : how ≤ 9223372036854775807) (Hpick : Hid ((if how < 0 then -(how + 1) else how) % 6 = 1)) :
    Calls Tryd.prog 3 #[.int .i64 a, .int .i64 b, .int .i64 c, .int .i64 how] w fun r w' => r = .returned (.bool true) ∧ Below w.heap.size w w' := by
  have Htab := hide htab
  have HH := hide (And.intro hh0 hh1)
  clear htab hh0 hh1
  go_enter Tryd.func3, Tryd.ntmps3
  go_wp2_with fail
  have Hx := hide (tmod_small a)
  have Hy := hide (tmod_small b)
  have Hz := hide (tmod_small c)
  generalize a.tmod 1000000000000000000 = x at *
  generalize b.tmod 1000000000000000000 = y at *
  generalize c.tmod 1000000000000000000 = z at *
  have Hix := hide (show inI64 x from ⟨by have := unhide Hx; omega, by have := unhide Hx; omega⟩)
  have Hiy := hide (show inI64 y from ⟨by have := unhide Hy; omega, by have := unhide Hy; omega⟩)
  have Hiz := hide (show inI64 z from ⟨by have := unhide Hz; omega, by have := unhide Hz; omega⟩)
  refine (new_any _).mono ?_
  rintro e w1 ⟨rfl, hw1⟩
  have Hw1 := hide hw1
  clear hw1
  go_wp2_with fail
  refine (pick_any how 6 _ (unhide HH).1 (unhide HH).2 (by omega) (by omega)).mono ?_
  rintro e w1' ⟨rfl, rfl⟩
  rw [unhide Hpick]
  go_wp2_with fail
  refine (digits_any x _ (unhide Hix).1 (unhide Hix).2).mono ?_
  rintro e w1' ⟨rfl, rfl⟩
  have sx := itoaStr_size x (unhide Hix)
  have sy := itoaStr_size y (unhide Hiy)
  have sz := itoaStr_size z (unhide Hiz)
  generalize hX : itoaStr x = X at *
  generalize hY : itoaStr y = Y at *
  generalize hZ : itoaStr z = Z at *
  have HX := hide hX
  have HY := hide hY
  have HZ := hide hZ
  clear hX hY hZ
  go_wp2_with fail
  refine (digits_any y _ (unhide Hiy).1 (unhide Hiy).2).mono ?_
  rintro e w1' ⟨rfl, rfl⟩
  rw [unhide HY]
  go_wp2_with fail
  refine (digits_any z _ (unhide Hiz).1 (unhide Hiz).2).mono ?_
  rintro e w1' ⟨rfl, rfl⟩
  rw [unhide HZ]
  go_wp2_with fail
  have hline := L.line_1 x y z (unhide Hx) (unhide Hy) (unhide Hz)
  generalize bits .xor .i64 x (wrap64 (y - z)) = V at *
  have HL := hide hline
  have HiV := hide hline.2.2
  clear hline
  refine (digits_any V _ (unhide HiV).1 (unhide HiV).2).mono ?_
  rintro e w1' ⟨rfl, rfl⟩
  have sv := itoaStr_size V (unhide HiV)
  generalize hT : itoaStr V = T at *
  have HT := hide hT
  clear hT
  go_wp2_with fail
  have hw1 := unhide Hw1
  have hmb : w1'.heap[w.heap.size]? = some (.cells #[.slice none 0 0, .slice none 0 0, .slice none 0 0, .int .i64 0] 33) := by rw [hw1]; exact heap_alloc_new w _
  have hb1 : Below w.heap.size w w1' := by rw [hw1]; exact (Below.refl _ _).alloc (Nat.le_refl _) _
  have hmach : MachAt w1' w.heap.size (.int .i64 0) (.slice none 0 0) (.slice none 0 0) [] [] := ⟨hmb, World.ownsRow_nil _ _ _ _, World.ownsRow_nil _ _ _ _, fun k h _ => by simp [Value.ownBlock] at h, by simp, by simp, by simp, by simp⟩
  have htl := tab_lt (unhide Htab)
  have hF : ¬ MFoot w.heap.size (.slice none 0 0) (.slice none 0 0) 0 := by
    rintro (h | h | h)
    · omega
    · simp [Value.ownBlock] at h
    · simp [Value.ownBlock] at h
  have hdoes := does_reck w1' w.heap.size x y z V _ X Y Z T ⟨#[45, 32, 120, 111, 114]⟩ (unhide HX) (unhide HY) (unhide HZ) (unhide HT) (unhide Hix) (unhide Hiy) (unhide Hiz) rfl (by decide) (unhide HL) hmach (tabIs_of_block (unhide Htab) (hb1.block _ htl)) hF
  have HD := hide hdoes
  have Hb1 := hide hb1
  clear hdoes hw1 hmb hb1 hmach htl hF
  refine (unhide HD).mono ?_
  rintro e w2 ⟨rfl, v1, v2, hm2, hmv⟩
  have HM2 := hide hm2
  have HMV := hide hmv
  clear hm2 hmv
  go_wp2_with fail
  refine (stack_any _ w.heap.size 1 v1 [V] (cell_of_block (unhide HM2).m rfl) (unhide HM2).st (by omega)).mono ?_
  rintro e w3 ⟨v, rfl, hown, hb3⟩
  obtain ⟨g, cap, rfl, _, _⟩ := hown.form (by omega)
  have hc : w3.cell? ⟨g, 0, none⟩ = some (.int .i64 V) := by
    have := hown.cells (g := g) rfl 0 (.int .i64 V) rfl
    rwa [add_lit] at this
  have HB3 := hide hb3
  clear hown hb3
  go_wp2
  go_ret
  refine ⟨rfl, ?_⟩
  have h1 : Below w.heap.size w1' w2 := (unhide HMV).below (fun k hk => by
    rcases hk with h | h | h
    · omega
    · simp [Value.ownBlock] at h
    · simp [Value.ownBlock] at h) (unhide Hb1).size
  exact ((unhide Hb1).trans h1).trans ((unhide HB3).mono (Nat.le_trans (unhide Hb1).size h1.size))

set_option maxRecDepth 100000 in
set_option maxHeartbeats 1600000 in
theorem reck_2 (a b c how : Int) (w : World) (htab : TabOk w) (hh0 : -9223372036854775808 ≤ how) (hh1 : how ≤ 9223372036854775807) (Hpick : Hid ((if how < 0 then -(how + 1) else how) % 6 = 2)) :
    Calls Tryd.prog 3 #[.int .i64 a, .int .i64 b, .int .i64 c, .int .i64 how] w fun r w' => r = .returned (.bool true) ∧ Below w.heap.size w w' := by
  have Htab := hide htab
  have HH := hide (And.intro hh0 hh1)
  clear htab hh0 hh1
  go_enter Tryd.func3, Tryd.ntmps3
  go_wp2_with fail
  have Hx := hide (tmod_small a)
  have Hy := hide (tmod_small b)
  have Hz := hide (tmod_small c)
  generalize a.tmod 1000000000000000000 = x at *
  generalize b.tmod 1000000000000000000 = y at *
  generalize c.tmod 1000000000000000000 = z at *
  have Hix := hide (show inI64 x from ⟨by have := unhide Hx; omega, by have := unhide Hx; omega⟩)
  have Hiy := hide (show inI64 y from ⟨by have := unhide Hy; omega, by have := unhide Hy; omega⟩)
  have Hiz := hide (show inI64 z from ⟨by have := unhide Hz; omega, by have := unhide Hz; omega⟩)
  refine (new_any _).mono ?_
  rintro e w1 ⟨rfl, hw1⟩
  have Hw1 := hide hw1
  clear hw1
  go_wp2_with fail
  refine (pick_any how 6 _ (unhide HH).1 (unhide HH).2 (by omega) (by omega)).mono ?_
  rintro e w1' ⟨rfl, rfl⟩
  rw [unhide Hpick]
  go_wp2_with fail
  refine (digits_any x _ (unhide Hix).1 (unhide Hix).2).mono ?_
  rintro e w1' ⟨rfl, rfl⟩
  have sx := itoaStr_size x (unhide Hix)
  have sy := itoaStr_size y (unhide Hiy)
  have sz := itoaStr_size z (unhide Hiz)
  generalize hX : itoaStr x = X at *
  generalize hY : itoaStr y = Y at *
  generalize hZ : itoaStr z = Z at *
  have HX := hide hX
  have HY := hide hY
  have HZ := hide hZ
  clear hX hY hZ
  go_wp2_with fail
  refine (digits_any y _ (unhide Hiy).1 (unhide Hiy).2).mono ?_
  rintro e w1' ⟨rfl, rfl⟩
  rw [unhide HY]
  go_wp2_with fail
  refine (digits_any z _ (unhide Hiz).1 (unhide Hiz).2).mono ?_
  rintro e w1' ⟨rfl, rfl⟩
  rw [unhide HZ]
  go_wp2_with fail
  have hline := L.line_2 x y z (unhide Hx) (unhide Hy) (unhide Hz)
  generalize wrap64 (x + wrap64 (y * z)) = V at *
  have HL := hide hline
  have HiV := hide hline.2.2
  clear hline
  refine (digits_any V _ (unhide HiV).1 (unhide HiV).2).mono ?_
  rintro e w1' ⟨rfl, rfl⟩
  have sv := itoaStr_size V (unhide HiV)
  generalize hT : itoaStr V = T at *
  have HT := hide hT
  clear hT
  go_wp2_with fail
  have hw1 := unhide Hw1
  have hmb : w1'.heap[w.heap.size]? = some (.cells #[.slice none 0 0, .slice none 0 0, .slice none 0 0, .int .i64 0] 33) := by rw [hw1]; exact heap_alloc_new w _
  have hb1 : Below w.heap.size w w1' := by rw [hw1]; exact (Below.refl _ _).alloc (Nat.le_refl _) _
  have hmach : MachAt w1' w.heap.size (.int .i64 0) (.slice none 0 0) (.slice none 0 0) [] [] := ⟨hmb, World.ownsRow_nil _ _ _ _, World.ownsRow_nil _ _ _ _, fun k h _ => by simp [Value.ownBlock] at h, by simp, by simp, by simp, by simp⟩
  have htl := tab_lt (unhide Htab)
  have hF : ¬ MFoot w.heap.size (.slice none 0 0) (.slice none 0 0) 0 := by
    rintro (h | h | h)
    · omega
    · simp [Value.ownBlock] at h
    · simp [Value.ownBlock] at h
  have hdoes := does_reck w1' w.heap.size x y z V _ X Y Z T ⟨#[42, 32, 43]⟩ (unhide HX) (unhide HY) (unhide HZ) (unhide HT) (unhide Hix) (unhide Hiy) (unhide Hiz) rfl (by decide) (unhide HL) hmach (tabIs_of_block (unhide Htab) (hb1.block _ htl)) hF
  have HD := hide hdoes
  have Hb1 := hide hb1
  clear hdoes hw1 hmb hb1 hmach htl hF
  refine (unhide HD).mono ?_
  rintro e w2 ⟨rfl, v1, v2, hm2, hmv⟩
  have HM2 := hide hm2
  have HMV := hide hmv
  clear hm2 hmv
  go_wp2_with fail
  refine (stack_any _ w.heap.size 1 v1 [V] (cell_of_block (unhide HM2).m rfl) (unhide HM2).st (by omega)).mono ?_
  rintro e w3 ⟨v, rfl, hown, hb3⟩
  obtain ⟨g, cap, rfl, _, _⟩ := hown.form (by omega)
  have hc : w3.cell? ⟨g, 0, none⟩ = some (.int .i64 V) := by
    have := hown.cells (g := g) rfl 0 (.int .i64 V) rfl
    rwa [add_lit] at this
  have HB3 := hide hb3
  clear hown hb3
  go_wp2
  go_ret
  refine ⟨rfl, ?_⟩
  have h1 : Below w.heap.size w1' w2 := (unhide HMV).below (fun k hk => by
    rcases hk with h | h | h
    · omega
    · simp [Value.ownBlock] at h
    · simp [Value.ownBlock] at h) (unhide Hb1).size
  exact ((unhide Hb1).trans h1).trans ((unhide HB3).mono (Nat.le_trans (unhide Hb1).size h1.size))

set_option maxRecDepth 100000 in
set_option maxHeartbeats 1600000 in
theorem reck_3 (a b c how : Int) (w : World) (htab : TabOk w) (hh0 : -9223372036854775808 ≤ how) (hh1 : how ≤ 9223372036854775807) (Hpick : Hid ((if how < 0 then -(how + 1) else how) % 6 = 3)) :
    Calls Tryd.prog 3 #[.int .i64 a, .int .i64 b, .int .i64 c, .int .i64 how] w fun r w' => r = .returned (.bool true) ∧ Below w.heap.size w w' := by
  have Htab := hide htab
  have HH := hide (And.intro hh0 hh1)
  clear htab hh0 hh1
  go_enter Tryd.func3, Tryd.ntmps3
  go_wp2_with fail
  have Hx := hide (tmod_small a)
  have Hy := hide (tmod_small b)
  have Hz := hide (tmod_small c)
  generalize a.tmod 1000000000000000000 = x at *
  generalize b.tmod 1000000000000000000 = y at *
  generalize c.tmod 1000000000000000000 = z at *
  have Hix := hide (show inI64 x from ⟨by have := unhide Hx; omega, by have := unhide Hx; omega⟩)
  have Hiy := hide (show inI64 y from ⟨by have := unhide Hy; omega, by have := unhide Hy; omega⟩)
  have Hiz := hide (show inI64 z from ⟨by have := unhide Hz; omega, by have := unhide Hz; omega⟩)
  refine (new_any _).mono ?_
  rintro e w1 ⟨rfl, hw1⟩
  have Hw1 := hide hw1
  clear hw1
  go_wp2_with fail
  refine (pick_any how 6 _ (unhide HH).1 (unhide HH).2 (by omega) (by omega)).mono ?_
  rintro e w1' ⟨rfl, rfl⟩
  rw [unhide Hpick]
  go_wp2_with fail
  refine (digits_any x _ (unhide Hix).1 (unhide Hix).2).mono ?_
  rintro e w1' ⟨rfl, rfl⟩
  have sx := itoaStr_size x (unhide Hix)
  have sy := itoaStr_size y (unhide Hiy)
  have sz := itoaStr_size z (unhide Hiz)
  generalize hX : itoaStr x = X at *
  generalize hY : itoaStr y = Y at *
  generalize hZ : itoaStr z = Z at *
  have HX := hide hX
  have HY := hide hY
  have HZ := hide hZ
  clear hX hY hZ
  go_wp2_with fail
  refine (digits_any y _ (unhide Hiy).1 (unhide Hiy).2).mono ?_
  rintro e w1' ⟨rfl, rfl⟩
  rw [unhide HY]
  go_wp2_with fail
  refine (digits_any z _ (unhide Hiz).1 (unhide Hiz).2).mono ?_
  rintro e w1' ⟨rfl, rfl⟩
  rw [unhide HZ]
  go_wp2_with fail
  have hline := L.line_3 x y z (unhide Hx) (unhide Hy) (unhide Hz)
  generalize bits .or .i64 z (bits .and .i64 x y) = V at *
  have HL := hide hline
  have HiV := hide hline.2.2
  clear hline
  refine (digits_any V _ (unhide HiV).1 (unhide HiV).2).mono ?_
  rintro e w1' ⟨rfl, rfl⟩
  have sv := itoaStr_size V (unhide HiV)
  generalize hT : itoaStr V = T at *
  have HT := hide hT
  clear hT
  go_wp2_with fail
  have hw1 := unhide Hw1
  have hmb : w1'.heap[w.heap.size]? = some (.cells #[.slice none 0 0, .slice none 0 0, .slice none 0 0, .int .i64 0] 33) := by rw [hw1]; exact heap_alloc_new w _
  have hb1 : Below w.heap.size w w1' := by rw [hw1]; exact (Below.refl _ _).alloc (Nat.le_refl _) _
  have hmach : MachAt w1' w.heap.size (.int .i64 0) (.slice none 0 0) (.slice none 0 0) [] [] := ⟨hmb, World.ownsRow_nil _ _ _ _, World.ownsRow_nil _ _ _ _, fun k h _ => by simp [Value.ownBlock] at h, by simp, by simp, by simp, by simp⟩
  have htl := tab_lt (unhide Htab)
  have hF : ¬ MFoot w.heap.size (.slice none 0 0) (.slice none 0 0) 0 := by
    rintro (h | h | h)
    · omega
    · simp [Value.ownBlock] at h
    · simp [Value.ownBlock] at h
  have hdoes := does_reck w1' w.heap.size x y z V _ X Y Z T ⟨#[114, 111, 116, 32, 114, 111, 116, 32, 97, 110, 100, 32, 111, 114]⟩ (unhide HX) (unhide HY) (unhide HZ) (unhide HT) (unhide Hix) (unhide Hiy) (unhide Hiz) rfl (by decide) (unhide HL) hmach (tabIs_of_block (unhide Htab) (hb1.block _ htl)) hF
  have HD := hide hdoes
  have Hb1 := hide hb1
  clear hdoes hw1 hmb hb1 hmach htl hF
  refine (unhide HD).mono ?_
  rintro e w2 ⟨rfl, v1, v2, hm2, hmv⟩
  have HM2 := hide hm2
  have HMV := hide hmv
  clear hm2 hmv
  go_wp2_with fail
  refine (stack_any _ w.heap.size 1 v1 [V] (cell_of_block (unhide HM2).m rfl) (unhide HM2).st (by omega)).mono ?_
  rintro e w3 ⟨v, rfl, hown, hb3⟩
  obtain ⟨g, cap, rfl, _, _⟩ := hown.form (by omega)
  have hc : w3.cell? ⟨g, 0, none⟩ = some (.int .i64 V) := by
    have := hown.cells (g := g) rfl 0 (.int .i64 V) rfl
    rwa [add_lit] at this
  have HB3 := hide hb3
  clear hown hb3
  go_wp2
  go_ret
  refine ⟨rfl, ?_⟩
  have h1 : Below w.heap.size w1' w2 := (unhide HMV).below (fun k hk => by
    rcases hk with h | h | h
    · omega
    · simp [Value.ownBlock] at h
    · simp [Value.ownBlock] at h) (unhide Hb1).size
  exact ((unhide Hb1).trans h1).trans ((unhide HB3).mono (Nat.le_trans (unhide Hb1).size h1.size))

set_option maxRecDepth 100000 in
set_option maxHeartbeats 1600000 in
theorem reck_4 (a b c how : Int) (w : World) (htab : TabOk w) (hh0 : -9223372036854775808 ≤ how) (hh1 : how ≤ 9223372036854775807) (Hpick : Hid ((if how < 0 then -(how + 1) else how) % 6 = 4)) :
    Calls Tryd.prog 3 #[.int .i64 a, .int .i64 b, .int .i64 c, .int .i64 how] w fun r w' => r = .returned (.bool true) ∧ Below w.heap.size w w' := by
  have Htab := hide htab
  have HH := hide (And.intro hh0 hh1)
  clear htab hh0 hh1
  go_enter Tryd.func3, Tryd.ntmps3
  go_wp2_with fail
  have Hx := hide (tmod_small a)
  have Hy := hide (tmod_small b)
  have Hz := hide (tmod_small c)
  generalize a.tmod 1000000000000000000 = x at *
  generalize b.tmod 1000000000000000000 = y at *
  generalize c.tmod 1000000000000000000 = z at *
  have Hix := hide (show inI64 x from ⟨by have := unhide Hx; omega, by have := unhide Hx; omega⟩)
  have Hiy := hide (show inI64 y from ⟨by have := unhide Hy; omega, by have := unhide Hy; omega⟩)
  have Hiz := hide (show inI64 z from ⟨by have := unhide Hz; omega, by have := unhide Hz; omega⟩)
  refine (new_any _).mono ?_
  rintro e w1 ⟨rfl, hw1⟩
  have Hw1 := hide hw1
  clear hw1
  go_wp2_with fail
  refine (pick_any how 6 _ (unhide HH).1 (unhide HH).2 (by omega) (by omega)).mono ?_
  rintro e w1' ⟨rfl, rfl⟩
  rw [unhide Hpick]
  go_wp2_with fail
  refine (digits_any x _ (unhide Hix).1 (unhide Hix).2).mono ?_
  rintro e w1' ⟨rfl, rfl⟩
  have sx := itoaStr_size x (unhide Hix)
  have sy := itoaStr_size y (unhide Hiy)
  have sz := itoaStr_size z (unhide Hiz)
  generalize hX : itoaStr x = X at *
  generalize hY : itoaStr y = Y at *
  generalize hZ : itoaStr z = Z at *
  have HX := hide hX
  have HY := hide hY
  have HZ := hide hZ
  clear hX hY hZ
  go_wp2_with fail
  refine (digits_any y _ (unhide Hiy).1 (unhide Hiy).2).mono ?_
  rintro e w1' ⟨rfl, rfl⟩
  rw [unhide HY]
  go_wp2_with fail
  refine (digits_any z _ (unhide Hiz).1 (unhide Hiz).2).mono ?_
  rintro e w1' ⟨rfl, rfl⟩
  rw [unhide HZ]
  go_wp2_with fail
  have hline := L.line_4 x y z (unhide Hx) (unhide Hy) (unhide Hz)
  generalize wrap64 (x - wrap64 (z + wrap64 (y + z))) = V at *
  have HL := hide hline
  have HiV := hide hline.2.2
  clear hline
  refine (digits_any V _ (unhide HiV).1 (unhide HiV).2).mono ?_
  rintro e w1' ⟨rfl, rfl⟩
  have sv := itoaStr_size V (unhide HiV)
  generalize hT : itoaStr V = T at *
  have HT := hide hT
  clear hT
  go_wp2_with fail
  have hw1 := unhide Hw1
  have hmb : w1'.heap[w.heap.size]? = some (.cells #[.slice none 0 0, .slice none 0 0, .slice none 0 0, .int .i64 0] 33) := by rw [hw1]; exact heap_alloc_new w _
  have hb1 : Below w.heap.size w w1' := by rw [hw1]; exact (Below.refl _ _).alloc (Nat.le_refl _) _
  have hmach : MachAt w1' w.heap.size (.int .i64 0) (.slice none 0 0) (.slice none 0 0) [] [] := ⟨hmb, World.ownsRow_nil _ _ _ _, World.ownsRow_nil _ _ _ _, fun k h _ => by simp [Value.ownBlock] at h, by simp, by simp, by simp, by simp⟩
  have htl := tab_lt (unhide Htab)
  have hF : ¬ MFoot w.heap.size (.slice none 0 0) (.slice none 0 0) 0 := by
    rintro (h | h | h)
    · omega
    · simp [Value.ownBlock] at h
    · simp [Value.ownBlock] at h
  have hdoes := does_reck w1' w.heap.size x y z V _ X Y Z T ⟨#[115, 119, 97, 112, 32, 111, 118, 101, 114, 32, 43, 32, 43, 32, 45]⟩ (unhide HX) (unhide HY) (unhide HZ) (unhide HT) (unhide Hix) (unhide Hiy) (unhide Hiz) rfl (by decide) (unhide HL) hmach (tabIs_of_block (unhide Htab) (hb1.block _ htl)) hF
  have HD := hide hdoes
  have Hb1 := hide hb1
  clear hdoes hw1 hmb hb1 hmach htl hF
  refine (unhide HD).mono ?_
  rintro e w2 ⟨rfl, v1, v2, hm2, hmv⟩
  have HM2 := hide hm2
  have HMV := hide hmv
  clear hm2 hmv
  go_wp2_with fail
  refine (stack_any _ w.heap.size 1 v1 [V] (cell_of_block (unhide HM2).m rfl) (unhide HM2).st (by omega)).mono ?_
  rintro e w3 ⟨v, rfl, hown, hb3⟩
  obtain ⟨g, cap, rfl, _, _⟩ := hown.form (by omega)
  have hc : w3.cell? ⟨g, 0, none⟩ = some (.int .i64 V) := by
    have := hown.cells (g := g) rfl 0 (.int .i64 V) rfl
    rwa [add_lit] at this
  have HB3 := hide hb3
  clear hown hb3
  go_wp2
  go_ret
  refine ⟨rfl, ?_⟩
  have h1 : Below w.heap.size w1' w2 := (unhide HMV).below (fun k hk => by
    rcases hk with h | h | h
    · omega
    · simp [Value.ownBlock] at h
    · simp [Value.ownBlock] at h) (unhide Hb1).size
  exact ((unhide Hb1).trans h1).trans ((unhide HB3).mono (Nat.le_trans (unhide Hb1).size h1.size))

set_option maxRecDepth 100000 in
set_option maxHeartbeats 1600000 in
theorem reck_5 (a b c how : Int) (w : World) (htab : TabOk w) (hh0 : -9223372036854775808 ≤ how) (hh1 : how ≤ 9223372036854775807) (Hpick : Hid ((if how < 0 then -(how + 1) else how) % 6 = 5)) :
    Calls Tryd.prog 3 #[.int .i64 a, .int .i64 b, .int .i64 c, .int .i64 how] w fun r w' => r = .returned (.bool true) ∧ Below w.heap.size w w' := by
  have Htab := hide htab
  have HH := hide (And.intro hh0 hh1)
  clear htab hh0 hh1
  go_enter Tryd.func3, Tryd.ntmps3
  go_wp2_with fail
  have Hx := hide (tmod_small a)
  have Hy := hide (tmod_small b)
  have Hz := hide (tmod_small c)
  generalize a.tmod 1000000000000000000 = x at *
  generalize b.tmod 1000000000000000000 = y at *
  generalize c.tmod 1000000000000000000 = z at *
  have Hix := hide (show inI64 x from ⟨by have := unhide Hx; omega, by have := unhide Hx; omega⟩)
  have Hiy := hide (show inI64 y from ⟨by have := unhide Hy; omega, by have := unhide Hy; omega⟩)
  have Hiz := hide (show inI64 z from ⟨by have := unhide Hz; omega, by have := unhide Hz; omega⟩)
  refine (new_any _).mono ?_
  rintro e w1 ⟨rfl, hw1⟩
  have Hw1 := hide hw1
  clear hw1
  go_wp2_with fail
  refine (pick_any how 6 _ (unhide HH).1 (unhide HH).2 (by omega) (by omega)).mono ?_
  rintro e w1' ⟨rfl, rfl⟩
  rw [unhide Hpick]
  go_wp2_with fail
  refine (digits_any x _ (unhide Hix).1 (unhide Hix).2).mono ?_
  rintro e w1' ⟨rfl, rfl⟩
  have sx := itoaStr_size x (unhide Hix)
  have sy := itoaStr_size y (unhide Hiy)
  have sz := itoaStr_size z (unhide Hiz)
  generalize hX : itoaStr x = X at *
  generalize hY : itoaStr y = Y at *
  generalize hZ : itoaStr z = Z at *
  have HX := hide hX
  have HY := hide hY
  have HZ := hide hZ
  clear hX hY hZ
  go_wp2_with fail
  refine (digits_any y _ (unhide Hiy).1 (unhide Hiy).2).mono ?_
  rintro e w1' ⟨rfl, rfl⟩
  rw [unhide HY]
  go_wp2_with fail
  refine (digits_any z _ (unhide Hiz).1 (unhide Hiz).2).mono ?_
  rintro e w1' ⟨rfl, rfl⟩
  rw [unhide HZ]
  go_wp2_with fail
  have hline := L.line_5 x y z (unhide Hx) (unhide Hy) (unhide Hz)
  generalize wrap64 (y - wrap64 (x * z)) = V at *
  have HL := hide hline
  have HiV := hide hline.2.2
  clear hline
  refine (digits_any V _ (unhide HiV).1 (unhide HiV).2).mono ?_
  rintro e w1' ⟨rfl, rfl⟩
  have sv := itoaStr_size V (unhide HiV)
  generalize hT : itoaStr V = T at *
  have HT := hide hT
  clear hT
  go_wp2_with fail
  have hw1 := unhide Hw1
  have hmb : w1'.heap[w.heap.size]? = some (.cells #[.slice none 0 0, .slice none 0 0, .slice none 0 0, .int .i64 0] 33) := by rw [hw1]; exact heap_alloc_new w _
  have hb1 : Below w.heap.size w w1' := by rw [hw1]; exact (Below.refl _ _).alloc (Nat.le_refl _) _
  have hmach : MachAt w1' w.heap.size (.int .i64 0) (.slice none 0 0) (.slice none 0 0) [] [] := ⟨hmb, World.ownsRow_nil _ _ _ _, World.ownsRow_nil _ _ _ _, fun k h _ => by simp [Value.ownBlock] at h, by simp, by simp, by simp, by simp⟩
  have htl := tab_lt (unhide Htab)
  have hF : ¬ MFoot w.heap.size (.slice none 0 0) (.slice none 0 0) 0 := by
    rintro (h | h | h)
    · omega
    · simp [Value.ownBlock] at h
    · simp [Value.ownBlock] at h
  have hdoes := does_reck w1' w.heap.size x y z V _ X Y Z T ⟨#[62, 114, 32, 115, 119, 97, 112, 32, 114, 62, 32, 42, 32, 45]⟩ (unhide HX) (unhide HY) (unhide HZ) (unhide HT) (unhide Hix) (unhide Hiy) (unhide Hiz) rfl (by decide) (unhide HL) hmach (tabIs_of_block (unhide Htab) (hb1.block _ htl)) hF
  have HD := hide hdoes
  have Hb1 := hide hb1
  clear hdoes hw1 hmb hb1 hmach htl hF
  refine (unhide HD).mono ?_
  rintro e w2 ⟨rfl, v1, v2, hm2, hmv⟩
  have HM2 := hide hm2
  have HMV := hide hmv
  clear hm2 hmv
  go_wp2_with fail
  refine (stack_any _ w.heap.size 1 v1 [V] (cell_of_block (unhide HM2).m rfl) (unhide HM2).st (by omega)).mono ?_
  rintro e w3 ⟨v, rfl, hown, hb3⟩
  obtain ⟨g, cap, rfl, _, _⟩ := hown.form (by omega)
  have hc : w3.cell? ⟨g, 0, none⟩ = some (.int .i64 V) := by
    have := hown.cells (g := g) rfl 0 (.int .i64 V) rfl
    rwa [add_lit] at this
  have HB3 := hide hb3
  clear hown hb3
  go_wp2
  go_ret
  refine ⟨rfl, ?_⟩
  have h1 : Below w.heap.size w1' w2 := (unhide HMV).below (fun k hk => by
    rcases hk with h | h | h
    · omega
    · simp [Value.ownBlock] at h
    · simp [Value.ownBlock] at h) (unhide Hb1).size
  exact ((unhide Hb1).trans h1).trans ((unhide HB3).mono (Nat.le_trans (unhide Hb1).size h1.size))


theorem reckoned_walk (a b c how : Int) (w : World) (htab : TabOk w) (hh0 : -9223372036854775808 ≤ how) (hh1 : how ≤ 9223372036854775807) :
    Calls Tryd.prog 3 #[.int .i64 a, .int .i64 b, .int .i64 c, .int .i64 how] w fun r w' => r = .returned (.bool true) ∧ Below w.heap.size w w' := by
  have h6 : ∀ n : Int, n % 6 = 0 ∨ n % 6 = 1 ∨ n % 6 = 2 ∨ n % 6 = 3 ∨ n % 6 = 4 ∨ n % 6 = 5 := fun n => by omega
  rcases h6 (if how < 0 then -(how + 1) else how) with h | h | h | h | h | h
  · exact reck_0 a b c how w htab hh0 hh1 (hide h)
  · exact reck_1 a b c how w htab hh0 hh1 (hide h)
  · exact reck_2 a b c how w htab hh0 hh1 (hide h)
  · exact reck_3 a b c how w htab hh0 hh1 (hide h)
  · exact reck_4 a b c how w htab hh0 hh1 (hide h)
  · exact reck_5 a b c how w htab hh0 hh1 (hide h)
end Go.Proofs.YthpcapohfjidoaaDoor
