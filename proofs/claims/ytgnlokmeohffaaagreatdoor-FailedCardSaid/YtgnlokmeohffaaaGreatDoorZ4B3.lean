/- Failed answers true, whatever the numbers: the walk. (Written by tools/mkfailed.py.) -/
import Derived.Deep.RegionHeld3
import Derived.Deep.DrawnRows
import Derived.Test.YtgnlokmeohffaaaGreatDoorZ4B2
namespace Go.Proofs.YtgnlokmeohffaaaGreatDoor
open Go.RowKit

theorem hold_of {m : N.Mach} (h : m.all.length ≤ 100) : m.all.length + 1000 ≤ 1000000000000 := by omega
theorem bytes_app (a b : ByteArray) : (a ++ b).data.toList = a.data.toList ++ b.data.toList := by simp
theorem digits_bytes (x : Int) (w : World) (h : inI64 x) : Calls Tryz.prog 13 #[.int .i64 x] w fun e w' => ∃ X : ByteArray, e = .returned (.string X) ∧ X.data.toList = Lib.itoa x ∧ X.size ≤ 20 ∧ w' = w := by
  refine (digits_any x w h.1 h.2).mono ?_
  rintro e w' ⟨rfl, rfl⟩
  refine ⟨itoaStr x, rfl, by simp [itoaStr], ?_, rfl⟩
  have := itoa_len' x h.1 h.2
  simpa [itoaStr, ByteArray.size] using this

def wrongStr : Nat → ByteArray
  | 0 => ⟨#[119, 104, 97, 116]⟩
  | 1 => ⟨#[105, 102]⟩
  | 2 => ⟨#[49, 48, 48, 48, 32, 64]⟩
  | 3 => ⟨#[58, 32, 99, 32, 49]⟩
  | 4 => ⟨#[58, 32, 99, 32, 119, 104, 97, 116, 32, 59]⟩
  | 5 => ⟨#[48, 32, 48, 32, 47]⟩
  | 6 => ⟨#[48, 32, 101, 109, 105, 116]⟩
  | 7 => ⟨#[102, 111, 114, 103, 101, 116, 32, 119, 104, 97, 116]⟩
  | _ => ⟨#[58, 32, 55, 32, 59]⟩
theorem wrong_str : ∀ j, j < 9 → (wrongStr j).data.toList = N.wrongTxt j ∧ (wrongStr j).size ≤ 11 := by decide
def strArr : Array Value := #[Value.string ⟨#[119, 104, 97, 116]⟩, Value.string ⟨#[105, 102]⟩, Value.string ⟨#[49, 48, 48, 48, 32, 64]⟩, Value.string ⟨#[58, 32, 99, 32, 49]⟩, Value.string ⟨#[58, 32, 99, 32, 119, 104, 97, 116, 32, 59]⟩, Value.string ⟨#[48, 32, 48, 32, 47]⟩, Value.string ⟨#[48, 32, 101, 109, 105, 116]⟩, Value.string ⟨#[102, 111, 114, 103, 101, 116, 32, 119, 104, 97, 116]⟩, Value.string ⟨#[58, 32, 55, 32, 59]⟩]
def errArr : Array Value := #[Value.int .i64 2, Value.int .i64 3, Value.int .i64 9, Value.int .i64 3, Value.int .i64 2, Value.int .i64 8, Value.int .i64 11, Value.int .i64 2, Value.int .i64 4]
def atArr : Array Value := #[Value.int .i64 0, Value.int .i64 0, Value.int .i64 1, Value.int .i64 2, Value.int .i64 2, Value.int .i64 2, Value.int .i64 1, Value.int .i64 0, Value.int .i64 0]
theorem arrs (j : Nat) (h : j < 9) : strArr[j]? = some (.string (wrongStr j)) ∧ errArr[j]? = some (.int .i64 (N.wrongErr j)) ∧ atArr[j]? = some (.int .i64 (N.wrongAt j : Int)) := by
  have h : j = 0 ∨ j = 1 ∨ j = 2 ∨ j = 3 ∨ j = 4 ∨ j = 5 ∨ j = 6 ∨ j = 7 ∨ j = 8 := by omega
  rcases h with rfl | rfl | rfl | rfl | rfl | rfl | rfl | rfl | rfl <;> exact ⟨rfl, rfl, rfl⟩
theorem wrongAt_le (j : Nat) : N.wrongAt j ≤ 2 := by unfold N.wrongAt; split <;> omega
/-- A row of texts lies in none of a machine's blocks. -/
theorem Has.not_str {w : World} {mb : Nat} {F : Nat → Prop} {m : N.Mach} (h : Has w mb F m) {k : Nat} {c : Array Value} (hc : w.heap[k]? = some (Obj.cells c 9)) : ¬ F k := by
  obtain ⟨vO, vB, vS, vR, wv, h, rfl⟩ := h
  rintro (rfl | e | e | e | e)
  · exact ne_of_type h.n.mc hc (by decide) rfl
  · exact own_ne_of_type h.n.st hc (by decide) e
  · exact own_ne_of_type h.n.rt hc (by decide) e
  · obtain ⟨j, hj⟩ := e
    obtain ⟨en, he, hen⟩ := h.n.own.und j k hj
    exact ne_of_type (h.n.own.ent j en _ he hj hen).2.2 hc (by decide) rfl
  · exact own_ne_of_type h.n.own.row hc (by decide) e
theorem row_str {w w' : World} {mb b n : Nat} {F : Nat → Prop} {m : N.Mach} {v : Value} {xs : List Value} (h : Has w mb F m) (hm : Mv F w w') (ho : w.ownsRow b 9 1 v n xs) : w'.ownsRow b 9 1 v n xs :=
  owns_kept ho fun k e => by
    obtain ⟨c, hc⟩ := owns_block ho e
    exact hm.block k (heap_lt hc) (h.not_str hc)
/-- does, with the blocks named. -/
theorem Has.does {w : World} {mb : Nat} {F : Nat → Prop} {m m' : N.Mach} (h : Has w mb F m) (line out : ByteArray) (hold : m.all.length + 1000 ≤ 1000000000000) (hl : N.doLine m line.data.toList = (m', out.data.toList, 0, 0)) :
    Calls Tryz.prog 12 #[.pointer (some ⟨mb, 0, none⟩), .string line, .string out] w fun r w' => r = .returned (.bool true) ∧ ∃ F', Has w' mb F' m' ∧ Mv F w w' ∧ Fresh w F F' := by
  have hd := h.do line hold
  rw [hl] at hd
  refine (does_ok w mb line out (fun W => ∃ F', Has W mb F' m' ∧ Mv F w W ∧ Fresh w F F') (hide (hd.mono fun r w' hh => ⟨hh.1.trans ?_, hh.2⟩))).mono ?_
  · rfl
  · rintro r w' ⟨rfl, W, ⟨F', h1, h2, h3⟩, hb⟩
    exact ⟨rfl, F', h1.below hb, ⟨hb.os.trans h2.os, hb.tape.trans h2.tape, hb.output.trans h2.output, Nat.le_trans h2.size hb.size, fun k hk hn => (hb.block k (Nat.lt_of_lt_of_le hk h2.size)).trans (h2.block k hk hn)⟩, h3⟩
namespace N
theorem nums_snoc : ∀ (xs : List Int) (x : Int), numsTxt (xs ++ [x]) = numsTxt xs ++ (Lib.itoa x ++ [32])
  | [], x => by simp [numsTxt]
  | y :: xs, x => by simp [numsTxt, nums_snoc xs x]
end N

set_option maxRecDepth 100000 in
set_option maxHeartbeats 3200000 in
theorem failed_walk (a0 : Option Addr) (l0 c0 : Nat) (z0 : List Int) (bad : Int) (w : World) (hi : Ints w a0 l0 z0) (hbad : inI64 bad) (htab : TabOk w) :
    Calls Tryz.prog 6 #[.slice a0 l0 c0, .int .i64 bad] w fun r w' => r = .returned (.bool true) ∧ Below w.heap.size w w' := by
  have Htab := hide htab
  have HI := hide hi
  have HBad := hide hbad
  have hl0 := hi.2.1
  have hz := hi.1
  clear htab hi hbad
  go_enter Tryz.func6, Tryz.ntmps6
  go_wp2_with fail
  refine (laid_any w (unhide Htab)).mono ?_
  rintro e w1 ⟨mb, rfl, h1, hb1⟩
  have H1 := hide (And.intro h1 hb1)
  clear h1 hb1
  go_wp2_with fail
  refine (unhide H1).1.words.mono ?_
  rintro e w2 ⟨v2, rfl, ho2, hb2, _⟩
  have hw4 : N.words laidM = [[97], [98], [118], [107]] := rfl
  rw [hw4] at ho2
  obtain ⟨x2, y2, rfl, _, _⟩ := owns_slice ho2
  have H2 := hide (And.intro ho2 (And.intro ((unhide H1).1.below hb2) ((unhide H1).2.trans (hb2.mono (unhide H1).2.size))))
  clear ho2 hb2 hw4
  go_wp2_with fail
  obtain ⟨q0, F2, q1, q2⟩ := (unhide H2).2.1
  refine (q1.does (m' := ⟨N.laidAll 3, [1, 2, 3], [4], [], 5⟩) ⟨#[49, 32, 50, 32, 51, 32, 52, 32, 62, 114]⟩ ⟨#[]⟩ (hold_of (by decide)) (N.heap_line [] 8)).mono ?_
  rintro e w3 ⟨rfl, F3, h3, hm3, hf3⟩
  have hk3 := row_str q1 hm3 (unhide H2).1
  have hs3 : Solo w.heap.size w3 mb ⟨N.laidAll 3, [1, 2, 3], [4], [], 5⟩ := ⟨Nat.le_trans q0 hm3.size, F3, h3, fresh_from q0 q2 hf3⟩
  have H3 := hide (And.intro hk3 (And.intro hs3 ((unhide H2).2.2.trans (hm3.below q2 q0))))
  clear h3 hm3 hf3 hk3 hs3 q0 q1 q2
  go_wp2_with fail
  go_loop [8, 9, 10] (fun s c i => ∃ (xs : List Int) (X : ByteArray), xs.length ≤ 6 ∧ xs.length ≤ l0 ∧ (∀ x ∈ xs, N.modest x) ∧ s = .string X ∧ c = .int .i64 (3 + (xs.length : Int)) ∧ i = .int .i64 (xs.length : Int) ∧ X.data.toList = [53, 32, 46, 32, 98, 32] ++ N.numsTxt xs) (fun _ _ i => match i with | .int _ k => ((l0 : Int) + 6 - k).toNat | _ => 0)
  case atStart => exact ⟨[], _, Nat.zero_le _, Nat.zero_le _, by simp, rfl, rfl, rfl, rfl⟩
  case round =>
    obtain ⟨xs, X, h6, hll, hmo, rfl, rfl, rfl, hX⟩ := hrel
    have sX : X.size ≤ 40 := by
      have := N.nums_len xs hmo
      rw [Lib.size_eq, hX]
      simp only [List.length_append, List.length_cons, List.length_nil]
      omega
    have HX := hide (And.intro hX hmo)
    clear hX hmo
    have fin : Calls Tryz.prog 14 #[.int .i64 bad, .int .i64 9] w fun _ _ => True := (pick_any bad 9 w (unhide HBad).1 (unhide HBad).2 (by omega) (by omega)).mono fun _ _ _ => trivial
    clear fin
    by_cases hlt : xs.length < l0
    case pos =>
     by_cases h5 : xs.length < 6
     case pos =>
      have c1 : (xs.length : Int) < (l0 : Int) := by omega
      have c2 : (xs.length : Int) < 6 := by omega
      have c3 : (0 : Int) ≤ (xs.length : Int) := by omega
      have c4 : IntKind.i64.wrap ((xs.length : Int) + 1) = (xs.length : Int) + 1 := by rw [IntKind.wrap_i64]; omega
      have c5 : IntKind.i64.wrap (3 + (xs.length : Int) + 1) = 3 + (xs.length : Int) + 1 := by rw [IntKind.wrap_i64]; omega
      obtain ⟨b, rfl, hbl, hcell⟩ := ((unhide HI).below (unhide H3).2.2).2.2.1 xs.length hlt
      have hin : inI64 (z0.getD xs.length 0) := by
        have := (unhide HI).2.2.2 (z0.getD xs.length 0)
        refine this ?_
        rw [List.getD_eq_getElem?_getD, List.getElem?_eq_getElem (by omega)]
        exact List.getElem_mem _
      generalize z0.getD xs.length 0 = z at *
      have HZ := hide hin
      clear hin
      go_wp2_with fail
      refine (pick_any z 100 _ (unhide HZ).1 (unhide HZ).2 (by omega) (by omega)).mono ?_
      rintro e w1x ⟨rfl, hwx⟩
      subst w1x
      obtain ⟨y, hy, hy1, hy2⟩ : ∃ y : Int, (if z < 0 then -(z + 1) else z) % 100 = y ∧ 0 ≤ y ∧ y < 100 := ⟨_, rfl, by omega, by omega⟩
      rw [hy]
      clear hy
      go_wp2_with fail
      refine (digits_bytes y _ ⟨by omega, by omega⟩).mono ?_
      rintro e w1x ⟨D, rfl, hD, sD, hwx⟩
      subst w1x
      have HD := hide hD
      clear hD
      go_wp2
      refine ⟨⟨xs ++ [y], _, by simp; omega, by simp; omega, ?_, rfl, ?_, by simp, ?_⟩, ?_⟩
      · intro x hx
        rcases List.mem_append.1 hx with hx | hx
        · exact (unhide HX).2 x hx
        · have : x = y := by simpa using hx
          rw [this]
          exact ⟨by omega, by omega⟩
      · congr 1
        simp
        omega
      · rw [bytes_app, bytes_app, (unhide HX).1, unhide HD, N.nums_snoc]
        simp
      · show ((l0 : Int) + 6 - ((xs.length : Int) + 1)).toNat < ((l0 : Int) + 6 - (xs.length : Int)).toNat
        omega
     case neg =>
      have c1 : (xs.length : Int) < (l0 : Int) := by omega
      have c2 : ¬ (xs.length : Int) < 6 := by omega
      have c6 := c2
      clear c6
      go_wp2_with fail
      refine (pick_any bad 9 _ (unhide HBad).1 (unhide HBad).2 (by omega) (by omega)).mono ?_
      rintro e w1x ⟨rfl, hwx⟩
      subst w1x
      obtain ⟨j, hj, hj9⟩ : ∃ j : Nat, (if bad < 0 then -(bad + 1) else bad) % 9 = (j : Int) ∧ j < 9 := ⟨((if bad < 0 then -(bad + 1) else bad) % 9).toNat, by omega, by omega⟩
      rw [hj]
      clear hj
      have j0 : (0 : Int) ≤ (j : Int) := by omega
      have j1 : (j : Int) < 9 := by omega
      obtain ⟨g1, g2, g3⟩ := arrs j hj9
      obtain ⟨hsj, hsz⟩ := wrong_str j hj9
      have hbW : Below w3.heap.size w3 (((w3.alloc (Obj.cells #[Value.string ⟨#[119, 104, 97, 116]⟩, Value.string ⟨#[105, 102]⟩, Value.string ⟨#[49, 48, 48, 48, 32, 64]⟩, Value.string ⟨#[58, 32, 99, 32, 49]⟩, Value.string ⟨#[58, 32, 99, 32, 119, 104, 97, 116, 32, 59]⟩, Value.string ⟨#[48, 32, 48, 32, 47]⟩, Value.string ⟨#[48, 32, 101, 109, 105, 116]⟩, Value.string ⟨#[102, 111, 114, 103, 101, 116, 32, 119, 104, 97, 116]⟩, Value.string ⟨#[58, 32, 55, 32, 59]⟩] 9)).alloc (Obj.cells #[Value.int .i64 2, Value.int .i64 3, Value.int .i64 9, Value.int .i64 3, Value.int .i64 2, Value.int .i64 8, Value.int .i64 11, Value.int .i64 2, Value.int .i64 4] 33)).alloc (Obj.cells #[Value.int .i64 0, Value.int .i64 0, Value.int .i64 1, Value.int .i64 2, Value.int .i64 2, Value.int .i64 2, Value.int .i64 1, Value.int .i64 0, Value.int .i64 0] 3)) := ((((Below.refl _ _).alloc (Nat.le_refl _) _).alloc (by simp) _).alloc (by simp; omega) _)
      have m1 : (((w3.alloc (Obj.cells #[Value.string ⟨#[119, 104, 97, 116]⟩, Value.string ⟨#[105, 102]⟩, Value.string ⟨#[49, 48, 48, 48, 32, 64]⟩, Value.string ⟨#[58, 32, 99, 32, 49]⟩, Value.string ⟨#[58, 32, 99, 32, 119, 104, 97, 116, 32, 59]⟩, Value.string ⟨#[48, 32, 48, 32, 47]⟩, Value.string ⟨#[48, 32, 101, 109, 105, 116]⟩, Value.string ⟨#[102, 111, 114, 103, 101, 116, 32, 119, 104, 97, 116]⟩, Value.string ⟨#[58, 32, 55, 32, 59]⟩] 9)).alloc (Obj.cells #[Value.int .i64 2, Value.int .i64 3, Value.int .i64 9, Value.int .i64 3, Value.int .i64 2, Value.int .i64 8, Value.int .i64 11, Value.int .i64 2, Value.int .i64 4] 33)).alloc (Obj.cells #[Value.int .i64 0, Value.int .i64 0, Value.int .i64 1, Value.int .i64 2, Value.int .i64 2, Value.int .i64 2, Value.int .i64 1, Value.int .i64 0, Value.int .i64 0] 3)).heap[w3.heap.size]? = some (Obj.cells strArr 9) := ((Below.heap_alloc _ _ _ (by simp; omega)).trans (Below.heap_alloc _ _ _ (by simp))).trans (heap_alloc_new w3 _)
      have m2 : (((w3.alloc (Obj.cells #[Value.string ⟨#[119, 104, 97, 116]⟩, Value.string ⟨#[105, 102]⟩, Value.string ⟨#[49, 48, 48, 48, 32, 64]⟩, Value.string ⟨#[58, 32, 99, 32, 49]⟩, Value.string ⟨#[58, 32, 99, 32, 119, 104, 97, 116, 32, 59]⟩, Value.string ⟨#[48, 32, 48, 32, 47]⟩, Value.string ⟨#[48, 32, 101, 109, 105, 116]⟩, Value.string ⟨#[102, 111, 114, 103, 101, 116, 32, 119, 104, 97, 116]⟩, Value.string ⟨#[58, 32, 55, 32, 59]⟩] 9)).alloc (Obj.cells #[Value.int .i64 2, Value.int .i64 3, Value.int .i64 9, Value.int .i64 3, Value.int .i64 2, Value.int .i64 8, Value.int .i64 11, Value.int .i64 2, Value.int .i64 4] 33)).alloc (Obj.cells #[Value.int .i64 0, Value.int .i64 0, Value.int .i64 1, Value.int .i64 2, Value.int .i64 2, Value.int .i64 2, Value.int .i64 1, Value.int .i64 0, Value.int .i64 0] 3)).heap[w3.heap.size + 1]? = some (Obj.cells errArr 33) := heap_three_mid w3 _ _ _
      have m3 : (((w3.alloc (Obj.cells #[Value.string ⟨#[119, 104, 97, 116]⟩, Value.string ⟨#[105, 102]⟩, Value.string ⟨#[49, 48, 48, 48, 32, 64]⟩, Value.string ⟨#[58, 32, 99, 32, 49]⟩, Value.string ⟨#[58, 32, 99, 32, 119, 104, 97, 116, 32, 59]⟩, Value.string ⟨#[48, 32, 48, 32, 47]⟩, Value.string ⟨#[48, 32, 101, 109, 105, 116]⟩, Value.string ⟨#[102, 111, 114, 103, 101, 116, 32, 119, 104, 97, 116]⟩, Value.string ⟨#[58, 32, 55, 32, 59]⟩] 9)).alloc (Obj.cells #[Value.int .i64 2, Value.int .i64 3, Value.int .i64 9, Value.int .i64 3, Value.int .i64 2, Value.int .i64 8, Value.int .i64 11, Value.int .i64 2, Value.int .i64 4] 33)).alloc (Obj.cells #[Value.int .i64 0, Value.int .i64 0, Value.int .i64 1, Value.int .i64 2, Value.int .i64 2, Value.int .i64 2, Value.int .i64 1, Value.int .i64 0, Value.int .i64 0] 3)).heap[w3.heap.size + 1 + 1]? = some (Obj.cells atArr 3) := heap_three w3 _ _ _
      generalize (((w3.alloc (Obj.cells #[Value.string ⟨#[119, 104, 97, 116]⟩, Value.string ⟨#[105, 102]⟩, Value.string ⟨#[49, 48, 48, 48, 32, 64]⟩, Value.string ⟨#[58, 32, 99, 32, 49]⟩, Value.string ⟨#[58, 32, 99, 32, 119, 104, 97, 116, 32, 59]⟩, Value.string ⟨#[48, 32, 48, 32, 47]⟩, Value.string ⟨#[48, 32, 101, 109, 105, 116]⟩, Value.string ⟨#[102, 111, 114, 103, 101, 116, 32, 119, 104, 97, 116]⟩, Value.string ⟨#[58, 32, 55, 32, 59]⟩] 9)).alloc (Obj.cells #[Value.int .i64 2, Value.int .i64 3, Value.int .i64 9, Value.int .i64 3, Value.int .i64 2, Value.int .i64 8, Value.int .i64 11, Value.int .i64 2, Value.int .i64 4] 33)).alloc (Obj.cells #[Value.int .i64 0, Value.int .i64 0, Value.int .i64 1, Value.int .i64 2, Value.int .i64 2, Value.int .i64 2, Value.int .i64 1, Value.int .i64 0, Value.int .i64 0] 3)) = W at *
      have cs : W.cell? ⟨w3.heap.size, j, none⟩ = some (.string (wrongStr j)) := cell_of_block m1 g1
      generalize hP : wrongStr j = P at *
      have HM := hide (And.intro hbW (And.intro m2 (And.intro m3 (And.intro g2 (And.intro g3 hsj)))))
      clear hbW m1 m2 m3 g1 g2 g3 hsj hP
      have np : ¬ 9223372036854775807 < X.size + P.size := by omega
      go_wp2_with fail
      obtain ⟨q0, F, q1, q2⟩ := (unhide H3).2.1
      have hm := unhide HM
      obtain ⟨m', hfl, e1, e2, e3⟩ := N.fail_line xs j hj9 (unhide HX).2 h6 [] 5
      have hdo := (q1.below hm.1).do (X ++ P) (hold_of (by decide))
      rw [show (X ++ P).data.toList = N.failTxt xs j by rw [bytes_app, (unhide HX).1, hm.2.2.2.2.2]; simp [N.failTxt], hfl] at hdo
      refine hdo.mono ?_
      rintro e W5 ⟨rfl, F5, h5, hm5, hf5⟩
      have hq : ((3 + xs.length + N.wrongAt j : Nat) : Int) = 3 + (xs.length : Int) + (N.wrongAt j : Int) := by omega
      have hv : ansVal (m', [53, 32, 97, 98], N.wrongErr j, 3 + xs.length + N.wrongAt j) = .agg #[.string ⟨#[53, 32, 97, 98]⟩, .int .i64 (N.wrongErr j), .int .i64 (3 + (xs.length : Int) + (N.wrongAt j : Int))] := by rw [← hq]; rfl
      have hT2 := wrongAt_le j
      rw [hv]
      have hF3 : ∀ k, F k → k < w3.heap.size := q1.lt
      have r2 := (hm5.block _ (heap_lt hm.2.1) (fun x => by have := hF3 _ x; omega)).trans hm.2.1
      have r3 := (hm5.block _ (heap_lt hm.2.2.1) (fun x => by have := hF3 _ x; omega)).trans hm.2.2.1
      have r1 := row_str (q1.below hm.1) hm5 (owns_kept (unhide H3).1 fun k e => hm.1.block k ((unhide H3).1.lt k e).2)
      have hb5 : Below w.heap.size w W5 := (unhide H3).2.2.trans ((hm.1.mono q0).trans (hm5.below q2 (Nat.le_trans q0 hm.1.size)))
      have hs5 : Solo w.heap.size W5 mb m' := ⟨hb5.size, F5, h5, fresh_from (Nat.le_trans q0 hm.1.size) q2 hf5⟩
      generalize hE : N.wrongErr j = E at *
      generalize hT : N.wrongAt j = T at *
      have hbA : Below W5.heap.size W5 (W5.alloc (Obj.cells #[Value.string ⟨#[53, 32, 97, 98]⟩, Value.int .i64 E, Value.int .i64 (3 + (xs.length : Int) + (T : Int))] 36)) := (Below.refl _ _).alloc (Nat.le_refl _) _
      have hnA := heap_alloc_new W5 (Obj.cells #[Value.string ⟨#[53, 32, 97, 98]⟩, Value.int .i64 E, Value.int .i64 (3 + (xs.length : Int) + (T : Int))] 36)
      have H5 := hide (And.intro hs5 (And.intro hb5 (And.intro r1 (And.intro r2 (And.intro r3 (And.intro hbA (And.intro hnA (And.intro e1 (And.intro e2 (And.intro e3 (And.intro hm.2.2.2.1 hm.2.2.2.2.1)))))))))))
      clear hdo hfl h5 hm5 hf5 hv hq r1 r2 r3 hb5 hs5 hbA hnA hE hT q0 q1 q2 hF3 hm e1 e2 e3
      go_wp2_with fail
      generalize (W5.alloc (Obj.cells #[Value.string ⟨#[53, 32, 97, 98]⟩, Value.int .i64 E, Value.int .i64 (3 + (xs.length : Int) + (T : Int))] 36)) = W6 at *
      refine ((unhide H5).1.below (unhide H5).2.2.2.2.2.1).stack.mono ?_
      rintro e W7 ⟨v7, rfl, ho7, hb7⟩
      rw [(unhide H5).2.2.2.2.2.2.2.1] at ho7
      obtain ⟨x7, y7, rfl, _, _⟩ := owns_slice ho7
      have H7 := hide hb7
      clear ho7 hb7
      go_wp2_with fail
      have hbb7 := (unhide H5).2.2.2.2.2.1.trans ((unhide H7).mono (unhide H5).2.2.2.2.2.1.size)
      refine ((unhide H5).1.below hbb7).aside.mono ?_
      rintro e W8 ⟨v8, rfl, ho8, hb8⟩
      rw [(unhide H5).2.2.2.2.2.2.2.2.1] at ho8
      obtain ⟨x8, y8, rfl, _, _⟩ := owns_slice ho8
      have H8 := hide (hbb7.trans (hb8.mono hbb7.size))
      have H68 := hide ((unhide H7).trans (hb8.mono (unhide H7).size))
      clear ho8 hb8 hbb7
      go_wp2_with fail
      refine ((unhide H5).1.below (unhide H8)).words.mono ?_
      rintro e W9 ⟨v9, rfl, ho9, hb9, _⟩
      rw [(unhide H5).2.2.2.2.2.2.2.2.2.1] at ho9
      have H9 := hide (And.intro ho9 ((unhide H8).trans (hb9.mono (unhide H8).size)))
      have H69 := hide ((unhide H68).trans (hb9.mono (unhide H68).size))
      obtain ⟨x9, y9, rfl, _, _⟩ := owns_slice ho9
      clear ho9 hb9
      go_wp2_with fail
      refine (same_texts W9 _ _ _ _ [[97], [98], [118], [107]] (by decide) (owns_kept (unhide H5).2.2.1 fun k e => (unhide H9).2.block k ((unhide H5).2.2.1.lt k e).2) (unhide H9).1).mono ?_
      rintro e W10 ⟨rfl, hb10⟩
      have h5 := unhide H5
      have h10 := (unhide H9).2.trans (hb10.mono (unhide H9).2.size)
      have t2 := (h10.block _ (heap_lt h5.2.2.2.1)).trans h5.2.2.2.1
      have t3 := (h10.block _ (heap_lt h5.2.2.2.2.1)).trans h5.2.2.2.2.1
      have hbW610 : Below W6.heap.size W6 W10 := (unhide H69).trans (hb10.mono (unhide H69).size)
      have tA := (hbW610.block _ (heap_lt h5.2.2.2.2.2.2.1)).trans h5.2.2.2.2.2.2.1
      have p0 : W10.cell? ⟨W5.heap.size, 0, none⟩ = some (.string ⟨#[53, 32, 97, 98]⟩) := cell_of_block tA rfl
      have p1 : W10.cell? ⟨W5.heap.size, 1, none⟩ = some (.int .i64 E) := cell_of_block tA rfl
      have p2 : W10.cell? ⟨W5.heap.size, 2, none⟩ = some (.int .i64 (3 + (xs.length : Int) + (T : Int))) := cell_of_block tA rfl
      have ce : W10.cell? ⟨w3.heap.size + 1, j, none⟩ = some (.int .i64 E) := cell_of_block t2 h5.2.2.2.2.2.2.2.2.2.2.1
      have ca : W10.cell? ⟨w3.heap.size + 1 + 1, j, none⟩ = some (.int .i64 (T : Int)) := cell_of_block t3 h5.2.2.2.2.2.2.2.2.2.2.2
      have H10 := hide (h5.2.1.trans (h10.mono h5.2.1.size))
      have w1 : IntKind.i64.wrap (3 + (xs.length : Int) + (T : Int)) = (3 + (xs.length : Int) + (T : Int)) := by rw [IntKind.wrap_i64]; omega
      clear h5 h10 t2 t3 tA hbW610 hb10
      go_wp2
      go_region_held3 (fun w' => w'.cell? ⟨W5.heap.size, 0, none⟩ = some (.string ⟨#[53, 32, 97, 98]⟩) ∧ w'.cell? ⟨W5.heap.size, 1, none⟩ = some (.int .i64 E) ∧ w'.cell? ⟨W5.heap.size, 2, none⟩ = some (.int .i64 (3 + (xs.length : Int) + (T : Int))) ∧ w'.cell? ⟨w3.heap.size + 1, j, none⟩ = some (.int .i64 E) ∧ w'.cell? ⟨w3.heap.size + 1 + 1, j, none⟩ = some (.int .i64 (T : Int))) (first | exact ⟨p0, p1, p2, ce, ca⟩ | go_keep) (fail)
      go_wp2
      go_ret
      exact ⟨rfl, (unhide H10).drew⟩
    case neg =>
      have c1 : ¬ (xs.length : Int) < (l0 : Int) := by omega
      have c6 := c1
      clear c6
      go_wp2_with fail
      refine (pick_any bad 9 _ (unhide HBad).1 (unhide HBad).2 (by omega) (by omega)).mono ?_
      rintro e w1x ⟨rfl, hwx⟩
      subst w1x
      obtain ⟨j, hj, hj9⟩ : ∃ j : Nat, (if bad < 0 then -(bad + 1) else bad) % 9 = (j : Int) ∧ j < 9 := ⟨((if bad < 0 then -(bad + 1) else bad) % 9).toNat, by omega, by omega⟩
      rw [hj]
      clear hj
      have j0 : (0 : Int) ≤ (j : Int) := by omega
      have j1 : (j : Int) < 9 := by omega
      obtain ⟨g1, g2, g3⟩ := arrs j hj9
      obtain ⟨hsj, hsz⟩ := wrong_str j hj9
      have hbW : Below w3.heap.size w3 (((w3.alloc (Obj.cells #[Value.string ⟨#[119, 104, 97, 116]⟩, Value.string ⟨#[105, 102]⟩, Value.string ⟨#[49, 48, 48, 48, 32, 64]⟩, Value.string ⟨#[58, 32, 99, 32, 49]⟩, Value.string ⟨#[58, 32, 99, 32, 119, 104, 97, 116, 32, 59]⟩, Value.string ⟨#[48, 32, 48, 32, 47]⟩, Value.string ⟨#[48, 32, 101, 109, 105, 116]⟩, Value.string ⟨#[102, 111, 114, 103, 101, 116, 32, 119, 104, 97, 116]⟩, Value.string ⟨#[58, 32, 55, 32, 59]⟩] 9)).alloc (Obj.cells #[Value.int .i64 2, Value.int .i64 3, Value.int .i64 9, Value.int .i64 3, Value.int .i64 2, Value.int .i64 8, Value.int .i64 11, Value.int .i64 2, Value.int .i64 4] 33)).alloc (Obj.cells #[Value.int .i64 0, Value.int .i64 0, Value.int .i64 1, Value.int .i64 2, Value.int .i64 2, Value.int .i64 2, Value.int .i64 1, Value.int .i64 0, Value.int .i64 0] 3)) := ((((Below.refl _ _).alloc (Nat.le_refl _) _).alloc (by simp) _).alloc (by simp; omega) _)
      have m1 : (((w3.alloc (Obj.cells #[Value.string ⟨#[119, 104, 97, 116]⟩, Value.string ⟨#[105, 102]⟩, Value.string ⟨#[49, 48, 48, 48, 32, 64]⟩, Value.string ⟨#[58, 32, 99, 32, 49]⟩, Value.string ⟨#[58, 32, 99, 32, 119, 104, 97, 116, 32, 59]⟩, Value.string ⟨#[48, 32, 48, 32, 47]⟩, Value.string ⟨#[48, 32, 101, 109, 105, 116]⟩, Value.string ⟨#[102, 111, 114, 103, 101, 116, 32, 119, 104, 97, 116]⟩, Value.string ⟨#[58, 32, 55, 32, 59]⟩] 9)).alloc (Obj.cells #[Value.int .i64 2, Value.int .i64 3, Value.int .i64 9, Value.int .i64 3, Value.int .i64 2, Value.int .i64 8, Value.int .i64 11, Value.int .i64 2, Value.int .i64 4] 33)).alloc (Obj.cells #[Value.int .i64 0, Value.int .i64 0, Value.int .i64 1, Value.int .i64 2, Value.int .i64 2, Value.int .i64 2, Value.int .i64 1, Value.int .i64 0, Value.int .i64 0] 3)).heap[w3.heap.size]? = some (Obj.cells strArr 9) := ((Below.heap_alloc _ _ _ (by simp; omega)).trans (Below.heap_alloc _ _ _ (by simp))).trans (heap_alloc_new w3 _)
      have m2 : (((w3.alloc (Obj.cells #[Value.string ⟨#[119, 104, 97, 116]⟩, Value.string ⟨#[105, 102]⟩, Value.string ⟨#[49, 48, 48, 48, 32, 64]⟩, Value.string ⟨#[58, 32, 99, 32, 49]⟩, Value.string ⟨#[58, 32, 99, 32, 119, 104, 97, 116, 32, 59]⟩, Value.string ⟨#[48, 32, 48, 32, 47]⟩, Value.string ⟨#[48, 32, 101, 109, 105, 116]⟩, Value.string ⟨#[102, 111, 114, 103, 101, 116, 32, 119, 104, 97, 116]⟩, Value.string ⟨#[58, 32, 55, 32, 59]⟩] 9)).alloc (Obj.cells #[Value.int .i64 2, Value.int .i64 3, Value.int .i64 9, Value.int .i64 3, Value.int .i64 2, Value.int .i64 8, Value.int .i64 11, Value.int .i64 2, Value.int .i64 4] 33)).alloc (Obj.cells #[Value.int .i64 0, Value.int .i64 0, Value.int .i64 1, Value.int .i64 2, Value.int .i64 2, Value.int .i64 2, Value.int .i64 1, Value.int .i64 0, Value.int .i64 0] 3)).heap[w3.heap.size + 1]? = some (Obj.cells errArr 33) := heap_three_mid w3 _ _ _
      have m3 : (((w3.alloc (Obj.cells #[Value.string ⟨#[119, 104, 97, 116]⟩, Value.string ⟨#[105, 102]⟩, Value.string ⟨#[49, 48, 48, 48, 32, 64]⟩, Value.string ⟨#[58, 32, 99, 32, 49]⟩, Value.string ⟨#[58, 32, 99, 32, 119, 104, 97, 116, 32, 59]⟩, Value.string ⟨#[48, 32, 48, 32, 47]⟩, Value.string ⟨#[48, 32, 101, 109, 105, 116]⟩, Value.string ⟨#[102, 111, 114, 103, 101, 116, 32, 119, 104, 97, 116]⟩, Value.string ⟨#[58, 32, 55, 32, 59]⟩] 9)).alloc (Obj.cells #[Value.int .i64 2, Value.int .i64 3, Value.int .i64 9, Value.int .i64 3, Value.int .i64 2, Value.int .i64 8, Value.int .i64 11, Value.int .i64 2, Value.int .i64 4] 33)).alloc (Obj.cells #[Value.int .i64 0, Value.int .i64 0, Value.int .i64 1, Value.int .i64 2, Value.int .i64 2, Value.int .i64 2, Value.int .i64 1, Value.int .i64 0, Value.int .i64 0] 3)).heap[w3.heap.size + 1 + 1]? = some (Obj.cells atArr 3) := heap_three w3 _ _ _
      generalize (((w3.alloc (Obj.cells #[Value.string ⟨#[119, 104, 97, 116]⟩, Value.string ⟨#[105, 102]⟩, Value.string ⟨#[49, 48, 48, 48, 32, 64]⟩, Value.string ⟨#[58, 32, 99, 32, 49]⟩, Value.string ⟨#[58, 32, 99, 32, 119, 104, 97, 116, 32, 59]⟩, Value.string ⟨#[48, 32, 48, 32, 47]⟩, Value.string ⟨#[48, 32, 101, 109, 105, 116]⟩, Value.string ⟨#[102, 111, 114, 103, 101, 116, 32, 119, 104, 97, 116]⟩, Value.string ⟨#[58, 32, 55, 32, 59]⟩] 9)).alloc (Obj.cells #[Value.int .i64 2, Value.int .i64 3, Value.int .i64 9, Value.int .i64 3, Value.int .i64 2, Value.int .i64 8, Value.int .i64 11, Value.int .i64 2, Value.int .i64 4] 33)).alloc (Obj.cells #[Value.int .i64 0, Value.int .i64 0, Value.int .i64 1, Value.int .i64 2, Value.int .i64 2, Value.int .i64 2, Value.int .i64 1, Value.int .i64 0, Value.int .i64 0] 3)) = W at *
      have cs : W.cell? ⟨w3.heap.size, j, none⟩ = some (.string (wrongStr j)) := cell_of_block m1 g1
      generalize hP : wrongStr j = P at *
      have HM := hide (And.intro hbW (And.intro m2 (And.intro m3 (And.intro g2 (And.intro g3 hsj)))))
      clear hbW m1 m2 m3 g1 g2 g3 hsj hP
      have np : ¬ 9223372036854775807 < X.size + P.size := by omega
      go_wp2_with fail
      obtain ⟨q0, F, q1, q2⟩ := (unhide H3).2.1
      have hm := unhide HM
      obtain ⟨m', hfl, e1, e2, e3⟩ := N.fail_line xs j hj9 (unhide HX).2 h6 [] 5
      have hdo := (q1.below hm.1).do (X ++ P) (hold_of (by decide))
      rw [show (X ++ P).data.toList = N.failTxt xs j by rw [bytes_app, (unhide HX).1, hm.2.2.2.2.2]; simp [N.failTxt], hfl] at hdo
      refine hdo.mono ?_
      rintro e W5 ⟨rfl, F5, h5, hm5, hf5⟩
      have hq : ((3 + xs.length + N.wrongAt j : Nat) : Int) = 3 + (xs.length : Int) + (N.wrongAt j : Int) := by omega
      have hv : ansVal (m', [53, 32, 97, 98], N.wrongErr j, 3 + xs.length + N.wrongAt j) = .agg #[.string ⟨#[53, 32, 97, 98]⟩, .int .i64 (N.wrongErr j), .int .i64 (3 + (xs.length : Int) + (N.wrongAt j : Int))] := by rw [← hq]; rfl
      have hT2 := wrongAt_le j
      rw [hv]
      have hF3 : ∀ k, F k → k < w3.heap.size := q1.lt
      have r2 := (hm5.block _ (heap_lt hm.2.1) (fun x => by have := hF3 _ x; omega)).trans hm.2.1
      have r3 := (hm5.block _ (heap_lt hm.2.2.1) (fun x => by have := hF3 _ x; omega)).trans hm.2.2.1
      have r1 := row_str (q1.below hm.1) hm5 (owns_kept (unhide H3).1 fun k e => hm.1.block k ((unhide H3).1.lt k e).2)
      have hb5 : Below w.heap.size w W5 := (unhide H3).2.2.trans ((hm.1.mono q0).trans (hm5.below q2 (Nat.le_trans q0 hm.1.size)))
      have hs5 : Solo w.heap.size W5 mb m' := ⟨hb5.size, F5, h5, fresh_from (Nat.le_trans q0 hm.1.size) q2 hf5⟩
      generalize hE : N.wrongErr j = E at *
      generalize hT : N.wrongAt j = T at *
      have hbA : Below W5.heap.size W5 (W5.alloc (Obj.cells #[Value.string ⟨#[53, 32, 97, 98]⟩, Value.int .i64 E, Value.int .i64 (3 + (xs.length : Int) + (T : Int))] 36)) := (Below.refl _ _).alloc (Nat.le_refl _) _
      have hnA := heap_alloc_new W5 (Obj.cells #[Value.string ⟨#[53, 32, 97, 98]⟩, Value.int .i64 E, Value.int .i64 (3 + (xs.length : Int) + (T : Int))] 36)
      have H5 := hide (And.intro hs5 (And.intro hb5 (And.intro r1 (And.intro r2 (And.intro r3 (And.intro hbA (And.intro hnA (And.intro e1 (And.intro e2 (And.intro e3 (And.intro hm.2.2.2.1 hm.2.2.2.2.1)))))))))))
      clear hdo hfl h5 hm5 hf5 hv hq r1 r2 r3 hb5 hs5 hbA hnA hE hT q0 q1 q2 hF3 hm e1 e2 e3
      go_wp2_with fail
      generalize (W5.alloc (Obj.cells #[Value.string ⟨#[53, 32, 97, 98]⟩, Value.int .i64 E, Value.int .i64 (3 + (xs.length : Int) + (T : Int))] 36)) = W6 at *
      refine ((unhide H5).1.below (unhide H5).2.2.2.2.2.1).stack.mono ?_
      rintro e W7 ⟨v7, rfl, ho7, hb7⟩
      rw [(unhide H5).2.2.2.2.2.2.2.1] at ho7
      obtain ⟨x7, y7, rfl, _, _⟩ := owns_slice ho7
      have H7 := hide hb7
      clear ho7 hb7
      go_wp2_with fail
      have hbb7 := (unhide H5).2.2.2.2.2.1.trans ((unhide H7).mono (unhide H5).2.2.2.2.2.1.size)
      refine ((unhide H5).1.below hbb7).aside.mono ?_
      rintro e W8 ⟨v8, rfl, ho8, hb8⟩
      rw [(unhide H5).2.2.2.2.2.2.2.2.1] at ho8
      obtain ⟨x8, y8, rfl, _, _⟩ := owns_slice ho8
      have H8 := hide (hbb7.trans (hb8.mono hbb7.size))
      have H68 := hide ((unhide H7).trans (hb8.mono (unhide H7).size))
      clear ho8 hb8 hbb7
      go_wp2_with fail
      refine ((unhide H5).1.below (unhide H8)).words.mono ?_
      rintro e W9 ⟨v9, rfl, ho9, hb9, _⟩
      rw [(unhide H5).2.2.2.2.2.2.2.2.2.1] at ho9
      have H9 := hide (And.intro ho9 ((unhide H8).trans (hb9.mono (unhide H8).size)))
      have H69 := hide ((unhide H68).trans (hb9.mono (unhide H68).size))
      obtain ⟨x9, y9, rfl, _, _⟩ := owns_slice ho9
      clear ho9 hb9
      go_wp2_with fail
      refine (same_texts W9 _ _ _ _ [[97], [98], [118], [107]] (by decide) (owns_kept (unhide H5).2.2.1 fun k e => (unhide H9).2.block k ((unhide H5).2.2.1.lt k e).2) (unhide H9).1).mono ?_
      rintro e W10 ⟨rfl, hb10⟩
      have h5 := unhide H5
      have h10 := (unhide H9).2.trans (hb10.mono (unhide H9).2.size)
      have t2 := (h10.block _ (heap_lt h5.2.2.2.1)).trans h5.2.2.2.1
      have t3 := (h10.block _ (heap_lt h5.2.2.2.2.1)).trans h5.2.2.2.2.1
      have hbW610 : Below W6.heap.size W6 W10 := (unhide H69).trans (hb10.mono (unhide H69).size)
      have tA := (hbW610.block _ (heap_lt h5.2.2.2.2.2.2.1)).trans h5.2.2.2.2.2.2.1
      have p0 : W10.cell? ⟨W5.heap.size, 0, none⟩ = some (.string ⟨#[53, 32, 97, 98]⟩) := cell_of_block tA rfl
      have p1 : W10.cell? ⟨W5.heap.size, 1, none⟩ = some (.int .i64 E) := cell_of_block tA rfl
      have p2 : W10.cell? ⟨W5.heap.size, 2, none⟩ = some (.int .i64 (3 + (xs.length : Int) + (T : Int))) := cell_of_block tA rfl
      have ce : W10.cell? ⟨w3.heap.size + 1, j, none⟩ = some (.int .i64 E) := cell_of_block t2 h5.2.2.2.2.2.2.2.2.2.2.1
      have ca : W10.cell? ⟨w3.heap.size + 1 + 1, j, none⟩ = some (.int .i64 (T : Int)) := cell_of_block t3 h5.2.2.2.2.2.2.2.2.2.2.2
      have H10 := hide (h5.2.1.trans (h10.mono h5.2.1.size))
      have w1 : IntKind.i64.wrap (3 + (xs.length : Int) + (T : Int)) = (3 + (xs.length : Int) + (T : Int)) := by rw [IntKind.wrap_i64]; omega
      clear h5 h10 t2 t3 tA hbW610 hb10
      go_wp2
      go_region_held3 (fun w' => w'.cell? ⟨W5.heap.size, 0, none⟩ = some (.string ⟨#[53, 32, 97, 98]⟩) ∧ w'.cell? ⟨W5.heap.size, 1, none⟩ = some (.int .i64 E) ∧ w'.cell? ⟨W5.heap.size, 2, none⟩ = some (.int .i64 (3 + (xs.length : Int) + (T : Int))) ∧ w'.cell? ⟨w3.heap.size + 1, j, none⟩ = some (.int .i64 E) ∧ w'.cell? ⟨w3.heap.size + 1 + 1, j, none⟩ = some (.int .i64 (T : Int))) (first | exact ⟨p0, p1, p2, ce, ca⟩ | go_keep) (fail)
      go_wp2
      go_ret
      exact ⟨rfl, (unhide H10).drew⟩
end Go.Proofs.YtgnlokmeohffaaaGreatDoor
