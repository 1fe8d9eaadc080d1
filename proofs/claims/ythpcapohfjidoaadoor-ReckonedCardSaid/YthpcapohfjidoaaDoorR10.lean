/- Do and does: a line without bold words that is done to its end, on a machine without words of one's own. -/
import Derived.Test.YthpcapohfjidoaaDoorR7
import Derived.Test.YthpcapohfjidoaaDoorR8
namespace Go.Proofs.YthpcapohfjidoaaDoor
open Go.RowKit
attribute [local go_sem ↓] Go.wp_at_zero Go.wp_at_succ

/-- A machine without words of one's own, in memory. -/
structure MachAt (w : World) (mb : Nat) (vB vS vR : Value) (S R : List Int) : Prop where
  m : w.heap[mb]? = some (.cells #[vS, vR, .slice none 0 0, vB] 33)
  st : w.ownsRow 0 3 1 vS S.length (S.map (Value.int .i64))
  rt : w.ownsRow 0 3 1 vR R.length (R.map (Value.int .i64))
  ap : ∀ k, vS.ownBlock = some k → vR.ownBlock = some k → False
  sl : S.length ≤ 16
  rl : R.length ≤ 16
  si : ∀ x ∈ S, inI64 x
  ri : ∀ x ∈ R, inI64 x

/-- The blocks of a machine that may turn. -/
def MFoot (mb : Nat) (vS vR : Value) : Nat → Prop := fun k => k = mb ∨ vS.ownBlock = some k ∨ vR.ownBlock = some k

def start (S R : List Int) (ws : List (List UInt8)) : L.RunS := ⟨S, R, ws, 0, 0, 0, []⟩

theorem split_len (l : List UInt8) : ∀ cur, (L.splitGo l cur).length ≤ l.length + 1 := by
  induction l with
  | nil => intro cur; unfold L.splitGo; split <;> simp
  | cons c t ih =>
    intro cur
    unfold L.splitGo
    split
    · split
      · have := ih []; simp; omega
      · have := ih []; simp; omega
    · have := ih (cur ++ [c]); simp; omega
theorem split_len0 (l : List UInt8) : ∀ cur, cur ≠ [] ∨ (L.splitGo l cur).length ≤ l.length := by
  induction l with
  | nil => intro cur; cases cur <;> simp [L.splitGo]
  | cons c t ih =>
    intro cur
    cases cur with
    | cons a b => exact .inl (by simp)
    | nil =>
      right
      unfold L.splitGo
      split
      · rcases ih [] with h | h
        · exact (h rfl).elim
        · simp; omega
      · have := split_len t ([] ++ [c]); simp at this ⊢; omega

set_option maxRecDepth 100000 in
set_option maxHeartbeats 1600000 in
theorem Do_ok (w : World) (mb : Nat) (vB vS vR : Value) (S R : List Int) (line : ByteArray) (sf : L.RunS) (hm : MachAt w mb vB vS vR S R) (htab : TabOk w) (hF : ¬ MFoot mb vS vR 0) (hlen : line.size ≤ 500)
    (hpl : ∀ l ∈ L.split line.data.toList, L.isBold l = false) (hfin : L.runAll (L.split line.data.toList).length (start S R (L.split line.data.toList)) = (sf, 0)) :
    Calls Tryd.prog 10 #[.pointer (some ⟨mb, 0, none⟩), .string line] w fun r w' => r = .returned (.agg #[.string ⟨sf.out.toArray⟩, .int .i64 0, .int .i64 0]) ∧
      ∃ v1 v2, MachAt w' mb vB v1 v2 sf.S sf.R ∧ Mv (MFoot mb vS vR) w w' ∧ Fresh w (MFoot mb vS vR) (MFoot mb v1 v2) := by
  have Hm := hide hm
  have Htab := hide htab
  have HF := hide hF
  have Hpl := hide hpl
  have Hfin := hide hfin
  clear hm htab hF hpl hfin
  go_enter Tryd.func10, Tryd.ntmps10
  go_wp2_with fail
  have hb0 : Below w.heap.size w (w.alloc (Obj.cells #[Value.string ⟨#[]⟩, Value.int .i64 0, Value.int .i64 0] 36)) := (Below.refl _ _).alloc (Nat.le_refl _) _
  have hr0 : (w.alloc (Obj.cells #[Value.string ⟨#[]⟩, Value.int .i64 0, Value.int .i64 0] 36)).heap[w.heap.size]? = some (Obj.cells #[Value.string ⟨#[]⟩, Value.int .i64 0, Value.int .i64 0] 36) := heap_alloc_new w _
  generalize (w.alloc (Obj.cells #[Value.string ⟨#[]⟩, Value.int .i64 0, Value.int .i64 0] 36)) = w0 at *
  refine (words_any line _ (by omega)).mono ?_
  rintro e w1 ⟨vW, rfl, hown, hb1⟩
  obtain ⟨aW, capW, hvW, _, _⟩ := owns_slice hown
  subst hvW
  have hmm := unhide Hm
  have hlt0 : w.heap.size < w0.heap.size := heap_lt hr0
  have hlt1 := hb1.size
  have hbw1 : Below w.heap.size w w1 := hb0.trans (hb1.mono (Nat.le_of_lt hlt0))
  have hwl : (L.split line.data.toList).length ≤ 500 := by
    rcases split_len0 line.data.toList [] with h | h
    · exact (h rfl).elim
    · have hs := Lib.size_eq line
      show (L.splitGo line.data.toList []).length ≤ 500
      omega
  have hbW : Below w.heap.size w (w1.alloc (Obj.cells #[Value.pointer (some ⟨mb, 0, none⟩), Value.slice aW (L.split line.data.toList).length capW, Value.int .i64 0, Value.int .i64 0, Value.int .i64 0, Value.slice none 0 0] 43)) := hbw1.alloc (by omega) _
  have hltm := heap_lt hmm.m
  have hwd : w1.ownsRow 0 9 1 (.slice aW (L.split line.data.toList).length capW) (L.split line.data.toList).length ((L.split line.data.toList).map wordCell) := by
    refine ⟨hown.1, ?_⟩
    rcases hown.2 with h | ⟨g, cap, cur, h1, _, h3⟩
    · exact .inl h
    · exact .inr ⟨g, cap, cur, h1, Nat.zero_le _, h3⟩
  have hrun : RunAt (w1.alloc (Obj.cells #[Value.pointer (some ⟨mb, 0, none⟩), Value.slice aW (L.split line.data.toList).length capW, Value.int .i64 0, Value.int .i64 0, Value.int .i64 0, Value.slice none 0 0] 43)) mb w1.heap.size (.slice none 0 0) vB (.slice aW (L.split line.data.toList).length capW) vS vR (.slice none 0 0) (start S R (L.split line.data.toList)) := by
    refine ⟨(hbW.block mb hltm).trans hmm.m, heap_alloc_new w1 _, ?_, ?_, World.ownsRow_nil _ _ _ _, ?_, hmm.ap, hmm.sl, hmm.rl, by simp [start], hwl, hmm.si, hmm.ri⟩
    · exact owns_kept hmm.st fun k e => hbW.block k (hmm.st.lt k e).2
    · exact owns_kept hmm.rt fun k e => hbW.block k (hmm.rt.lt k e).2
    · exact owns_kept hwd fun k e => Below.heap_alloc _ _ _ (hwd.lt k e).2
  have htl := tab_lt (unhide Htab)
  have htabW : TabOk _ := tabIs_of_block (unhide Htab) (hbW.block _ htl)
  have hFW : ¬ Foot mb w1.heap.size vS vR (.slice none 0 0) 0 := by
    rintro (h | h | h | h | h)
    · exact unhide HF (.inl h)
    · omega
    · exact unhide HF (.inr (.inl h))
    · exact unhide HF (.inr (.inr h))
    · simp [Value.ownBlock] at h
  have hall := all_ok _ mb w1.heap.size vB _ vS vR (.slice none 0 0) (start S R (L.split line.data.toList)) sf hrun (Nat.zero_le _) htabW hFW (hide fun wr s' v1 v2 v3 l a b c d e f => step_any wr mb w1.heap.size vB _ v1 v2 v3 s' l a b c d e f) (unhide Hpl) (Nat.zero_le _) (by simpa [start] using unhide Hfin)
  have hrb : (w1.alloc (Obj.cells #[Value.pointer (some ⟨mb, 0, none⟩), Value.slice aW (L.split line.data.toList).length capW, Value.int .i64 0, Value.int .i64 0, Value.int .i64 0, Value.slice none 0 0] 43)).heap[w.heap.size]? = some (Obj.cells #[Value.string ⟨#[]⟩, Value.int .i64 0, Value.int .i64 0] 36) := (Below.heap_alloc _ _ _ (by omega)).trans ((hb1.block _ hlt0).trans hr0)
  have HA := hide hall
  have HRB := hide hrb
  have HBW := hide hbW
  have HRun := hide hrun
  have Hl := hide (And.intro hlt0 hlt1)
  clear hall hrb hbW hrun hlt0 hlt1 hmm hwl hwd htabW hFW hbw1 hb1 hb0 hr0 hown htl hltm
  go_wp2_with fail
  refine (unhide HA).mono ?_
  rintro e w3 ⟨rfl, x1, x2, x3, hr3, hm3, hf3⟩
  generalize (w1.alloc (Obj.cells #[Value.pointer (some ⟨mb, 0, none⟩), Value.slice aW (L.split line.data.toList).length capW, Value.int .i64 0, Value.int .i64 0, Value.int .i64 0, Value.slice none 0 0] 43)) = W at *
  have hltW : w.heap.size < W.heap.size := heap_lt (unhide HRB)
  have hnF : ¬ Foot mb w1.heap.size vS vR (.slice none 0 0) w.heap.size := by
    have hl := unhide Hl
    have hmm := unhide Hm
    rintro (h | h | h | h | h)
    · have := heap_lt hmm.m; omega
    · omega
    · have := (hmm.st.lt _ h).2; omega
    · have := (hmm.rt.lt _ h).2; omega
    · simp [Value.ownBlock] at h
  have hb3 : w3.heap[w.heap.size]? = some (Obj.cells #[Value.string ⟨#[]⟩, Value.int .i64 0, Value.int .i64 0] 36) := (hm3.block _ hltW hnF).trans (unhide HRB)
  have b0 : w3.cell? ⟨w.heap.size, 0, none⟩ = some (.string ⟨#[]⟩) := cell_of_block hb3 rfl
  have b1 : w3.cell? ⟨w.heap.size, 1, none⟩ = some (.int .i64 0) := cell_of_block hb3 rfl
  have b2 : w3.cell? ⟨w.heap.size, 2, none⟩ = some (.int .i64 0) := cell_of_block hb3 rfl
  have g0 : w3.frozen? ⟨w.heap.size, 0, none⟩ = false := frozen_of_block 0 hb3
  have g1 : w3.frozen? ⟨w.heap.size, 1, none⟩ = false := frozen_of_block 1 hb3
  have g2 : w3.frozen? ⟨w.heap.size, 2, none⟩ = false := frozen_of_block 2 hb3
  have H3 := hide (And.intro hr3 (And.intro hm3 hf3))
  clear hr3 hm3 hf3 hb3
  go_wp2
  refine bodyPost_ret (v := .agg #[.string ⟨sf.out.toArray⟩, .int .i64 0, .int .i64 0]) (by simp [results, Tryd.results10, go_sem, b0, b1, b2]) rfl ⟨rfl, x1, x2, ?_, ?_, ?_⟩
  · obtain ⟨hr3, hm3, hf3⟩ := unhide H3
    have hoth : ∀ k, k ≠ w.heap.size → (((w3.setCell ⟨w.heap.size, 0, none⟩ (.string ⟨sf.out.toArray⟩)).setCell ⟨w.heap.size, 1, none⟩ (.int .i64 0)).setCell ⟨w.heap.size, 2, none⟩ (.int .i64 0)).heap[k]? = w3.heap[k]? := fun k hne =>
      (Below.heap_setCell _ _ _ _ hne).trans ((Below.heap_setCell _ _ _ _ hne).trans (Below.heap_setCell _ _ _ _ hne))
    have hk : ∀ k, Foot mb w1.heap.size x1 x2 x3 k → k ≠ w.heap.size := fun k hk e => by
      rcases hf3 k hk with h | h
      · exact hnF (e ▸ h)
      · omega
    refine ⟨(hoth mb (hk mb (.inl rfl))).trans hr3.m, ?_, ?_, hr3.ap, hr3.sl, hr3.rl, hr3.si, hr3.ri⟩
    · exact owns_kept hr3.st fun k e => hoth k (hk k (.inr (.inr (.inl e))))
    · exact owns_kept hr3.as fun k e => hoth k (hk k (.inr (.inr (.inr (.inl e)))))
  · obtain ⟨hr3, hm3, hf3⟩ := unhide H3
    have hb := unhide HBW
    have hl := unhide Hl
    have hmv : Mv (MFoot mb vS vR) w w3 := ⟨hm3.os.trans hb.os, hm3.tape.trans hb.tape, hm3.output.trans hb.output, Nat.le_trans hb.size hm3.size, fun k hk hn => (hm3.block k (by omega) (by
      rintro (h | h | h | h | h)
      · exact hn (.inl h)
      · omega
      · exact hn (.inr (.inl h))
      · exact hn (.inr (.inr h))
      · simp [Value.ownBlock] at h)).trans (hb.block k hk)⟩
    exact ((hmv.setCell (.inr (Nat.le_refl _)) _).setCell (.inr (Nat.le_refl _)) _).setCell (.inr (Nat.le_refl _)) _
  · obtain ⟨hr3, hm3, hf3⟩ := unhide H3
    have hl := unhide Hl
    intro k hk
    have hk' : Foot mb w1.heap.size x1 x2 x3 k := by
      rcases hk with h | h | h
      · exact .inl h
      · exact .inr (.inr (.inl h))
      · exact .inr (.inr (.inr (.inl h)))
    rcases hf3 k hk' with (h | h | h | h | h) | h
    · exact .inl (.inl h)
    · exact .inr (by omega)
    · exact .inl (.inr (.inl h))
    · exact .inl (.inr (.inr h))
    · simp [Value.ownBlock] at h
    · exact .inr (by omega)

set_option maxRecDepth 100000 in
/-- does: a line that is done, and tells this. -/
theorem does_ok (w : World) (mb : Nat) (line out : ByteArray) (P : World → Prop)
    (H : Hid (Calls Tryd.prog 10 #[.pointer (some ⟨mb, 0, none⟩), .string line] w fun r w' => r = .returned (.agg #[.string out, .int .i64 0, .int .i64 0]) ∧ P w')) :
    Calls Tryd.prog 7 #[.pointer (some ⟨mb, 0, none⟩), .string line, .string out] w fun r w' => r = .returned (.bool true) ∧ ∃ W, P W ∧ Below W.heap.size W w' := by
  go_enter Tryd.func7, Tryd.ntmps7
  go_wp2_with fail
  refine (unhide H).mono ?_
  rintro e w1 ⟨rfl, hP⟩
  have HP := hide hP
  clear hP
  go_wp2
  go_ret
  exact ⟨rfl, w1, unhide HP, (Below.refl _ _).alloc (Nat.le_refl _) _⟩
end Go.Proofs.YthpcapohfjidoaaDoor
