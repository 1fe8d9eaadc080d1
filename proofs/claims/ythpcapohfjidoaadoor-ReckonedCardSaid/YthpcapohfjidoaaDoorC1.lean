/- What two appends and their stores leave: no walk, no program's run: the run in memory again. -/
import Derived.Test.YthpcapohfjidoaaDoorS0
namespace Go.Proofs.YthpcapohfjidoaaDoor
open Go.RowKit

theorem own_slice (a : Option Addr) (n c : Nat) : (Value.slice a n c).ownBlock = a.map (·.block) := by cases a <;> rfl

/-- Two rows were appended to, one behind the other. -/
structure Two (w1 w3 : World) (bS bR : Option Nat) (v1 v2 : Value) (k1 k2 : Nat) (xs ys : List Value) : Prop where
  os : w3.os = w1.os
  tape : w3.tape = w1.tape
  output : w3.output = w1.output
  size : w1.heap.size ≤ w3.heap.size
  block : ∀ k, k < w1.heap.size → some k ≠ bS → some k ≠ bR → w3.heap[k]? = w1.heap[k]?
  o1 : w3.ownsRow 0 3 1 v1 k1 xs
  o2 : w3.ownsRow 0 3 1 v2 k2 ys
  t1 : ∀ k, v1.ownBlock = some k → bS = some k ∨ w1.heap.size ≤ k
  t2 : ∀ k, v2.ownBlock = some k → bR = some k ∨ w1.heap.size ≤ k
  ap : ∀ k, v1.ownBlock = some k → v2.ownBlock = some k → False

theorem Two.symm {w1 w3 : World} {bS bR : Option Nat} {v1 v2 : Value} {k1 k2 : Nat} {xs ys : List Value} (h : Two w1 w3 bS bR v1 v2 k1 k2 xs ys) : Two w1 w3 bR bS v2 v1 k2 k1 ys xs :=
  ⟨h.os, h.tape, h.output, h.size, fun k a b c => h.block k a c b, h.o2, h.o1, h.t2, h.t1, fun k a b => h.ap k b a⟩

theorem two_app {w1 w2 w3 : World} {bS bR : Option Nat} {v1 v2 : Value} {k1 k2 : Nat} {xs ys : List Value} (g1 : w1.grownBy w2 bS) (g2 : w2.grownBy w3 bR) (o1 : w2.ownsRow 0 3 1 v1 k1 xs) (o2 : w3.ownsRow 0 3 1 v2 k2 ys)
    (t1 : v1.ownBlock = bS ∨ v1.ownBlock = some w1.heap.size) (t2 : v2.ownBlock = bR ∨ v2.ownBlock = some w2.heap.size) (hR : ∀ k, bR = some k → k < w1.heap.size) (ap : ∀ k, bS = some k → bR = some k → False) :
    Two w1 w3 bS bR v1 v2 k1 k2 xs ys := by
  have hlt := o1.lt
  have hne : ∀ k, v1.ownBlock = some k → some k ≠ bR := fun k hk e => by
    rcases t1 with t | t
    · exact ap k (t ▸ hk) e.symm
    · have := hR k e.symm
      rw [t] at hk
      injection hk with hk
      omega
  have hs1 := g1.size
  refine ⟨g2.os.trans g1.os, g2.tape.trans g1.tape, g2.output.trans g1.output, Nat.le_trans g1.size g2.size, fun k hk h1 h2 => (g2.block k (by omega) h2).trans (g1.block k hk h1), ?_, o2, ?_, ?_, ?_⟩
  · exact owns_kept o1 fun k hk => g2.block k (hlt k hk).2 (hne k hk)
  · intro k hk
    rcases t1 with t | t
    · exact .inl (t ▸ hk)
    · rw [t] at hk; injection hk with hk; exact .inr (by omega)
  · intro k hk
    rcases t2 with t | t
    · exact .inl (t ▸ hk)
    · rw [t] at hk; injection hk with hk; exact .inr (by omega)
  · intro k hk hk2
    rcases t2 with t | t
    · exact hne k hk (t ▸ hk2).symm
    · rw [t] at hk2
      injection hk2 with hk2
      have := (hlt k hk).2
      omega

theorem set_block {w : World} {b : Nat} {cs : Array Value} {t : TypeId} {fr : Nat × Nat} (h : w.heap[b]? = some (.cells cs t fr)) (j : Nat) (u : Value) : (w.setCell ⟨b, j, none⟩ u).heap[b]? = some (.cells (cs.setIfInBounds j u) t fr) := by
  simp [World.setCell, Array.getElem?_modify, h]

theorem own_ne_of_type {w : World} {base e n k : Nat} {v : Value} {xs : List Value} {c : Array Value} {t : TypeId} {f : Nat × Nat} (h : w.ownsRow base e 1 v n xs) (hk : w.heap[k]? = some (.cells c t f)) (ht : t ≠ e) : v.ownBlock ≠ some k := fun hv => by
  obtain ⟨cur, hc⟩ := owns_block h hv
  exact ne_of_type hk hc ht rfl

/-- A run again, behind the two appends, the stores of their rows, the append of what is told and its store. -/
theorem commit_end {w0 w1 w3 w4 w5 w6 : World} {mb rb : Nat} {vO vB vW vS vR vT v1 v2 v3 : Value} {s : L.RunS} {lays aside : List Int} {tells : List UInt8} {t a : Nat}
    (hrun0 : RunAt w0 mb rb vO vB vW vS vR vT s) (hbel : Below w0.heap.size w0 w1)
    (two : Two w1 w3 vS.ownBlock vR.ownBlock v1 v2 (s.S.length - t + lays.length) (s.R.length - a + aside.length) ((s.S.map (Value.int .i64)).take (s.S.length - t) ++ lays.map (Value.int .i64)) ((s.R.map (Value.int .i64)).take (s.R.length - a) ++ aside.map (Value.int .i64)))
    (h4o : w4.os = w3.os) (h4t : w4.tape = w3.tape) (h4p : w4.output = w3.output) (h4s : w4.heap.size = w3.heap.size) (h4b : ∀ k, k ≠ mb → w4.heap[k]? = w3.heap[k]?) (h4m : w4.heap[mb]? = some (.cells #[v1, v2, vO, vB] 33))
    (g5 : w4.grownBy w5 vT.ownBlock) (o5 : w5.ownsRow 0 5 1 v3 (s.out.length + tells.length) (s.out.map byteCell ++ tells.map byteCell)) (t5 : v3.ownBlock = vT.ownBlock ∨ v3.ownBlock = some w4.heap.size)
    (h6o : w6.os = w5.os) (h6t : w6.tape = w5.tape) (h6p : w6.output = w5.output) (h6s : w6.heap.size = w5.heap.size) (h6b : ∀ k, k ≠ rb → w6.heap[k]? = w5.heap[k]?)
    (h6r : w6.heap[rb]? = some (.cells #[.pointer (some ⟨mb, 0, none⟩), vW, .int .i64 s.pos, .int .i64 s.steps, .int .i64 s.depth, v3] 43))
    (hl1 : s.S.length - t + lays.length ≤ 16) (hl2 : s.R.length - a + aside.length ≤ 16) (hl3 : s.out.length + tells.length ≤ 300) (hi1 : ∀ x ∈ lays, inI64 x) (hi2 : ∀ x ∈ aside, inI64 x) :
    RunAt w6 mb rb vO vB vW v1 v2 v3 { s with S := s.S.take (s.S.length - t) ++ lays, R := s.R.take (s.R.length - a) ++ aside, out := s.out ++ tells } ∧
    Mv (Foot mb rb vS vR vT) w0 w6 ∧ Fresh w0 (Foot mb rb vS vR vT) (Foot mb rb v1 v2 v3) := by
  have hrun1 := hrun0.below hbel
  have hlt1 := hrun1.lt
  have hb1 := hbel.size
  have hs3 := two.size
  -- the blocks that are of other types
  have neSm := own_ne_of_type hrun1.st hrun1.m (by decide)
  have neRm := own_ne_of_type hrun1.as hrun1.m (by decide)
  have neTm := own_ne_of_type hrun1.ot hrun1.m (by decide)
  have neWm := own_ne_of_type hrun1.wd hrun1.m (by decide)
  have neSr := own_ne_of_type hrun1.st hrun1.r (by decide)
  have neRr := own_ne_of_type hrun1.as hrun1.r (by decide)
  have neTr := own_ne_of_type hrun1.ot hrun1.r (by decide)
  have neWr := own_ne_of_type hrun1.wd hrun1.r (by decide)
  have nemr : mb ≠ rb := ne_of_type hrun1.m hrun1.r (by decide)
  have ltm := hlt1 mb (.inl (.inl rfl))
  have ltr := hlt1 rb (.inl (.inr (.inl rfl)))
  have neST : ∀ k, vS.ownBlock = some k → vT.ownBlock = some k → False := fun k e1 e2 => by
    obtain ⟨c1, h1⟩ := owns_block hrun1.st e1
    obtain ⟨c2, h2⟩ := owns_block hrun1.ot e2
    exact ne_of_type h1 h2 (by decide) rfl
  have neRT : ∀ k, vR.ownBlock = some k → vT.ownBlock = some k → False := fun k e1 e2 => by
    obtain ⟨c1, h1⟩ := owns_block hrun1.as e1
    obtain ⟨c2, h2⟩ := owns_block hrun1.ot e2
    exact ne_of_type h1 h2 (by decide) rfl
  have neSW : ∀ k, vS.ownBlock = some k → vW.ownBlock = some k → False := fun k e1 e2 => by
    obtain ⟨c1, h1⟩ := owns_block hrun1.st e1
    obtain ⟨c2, h2⟩ := owns_block hrun1.wd e2
    exact ne_of_type h1 h2 (by decide) rfl
  have neRW : ∀ k, vR.ownBlock = some k → vW.ownBlock = some k → False := fun k e1 e2 => by
    obtain ⟨c1, h1⟩ := owns_block hrun1.as e1
    obtain ⟨c2, h2⟩ := owns_block hrun1.wd e2
    exact ne_of_type h1 h2 (by decide) rfl
  have neTW : ∀ k, vT.ownBlock = some k → vW.ownBlock = some k → False := fun k e1 e2 => by
    obtain ⟨c1, h1⟩ := owns_block hrun1.ot e1
    obtain ⟨c2, h2⟩ := owns_block hrun1.wd e2
    exact ne_of_type h1 h2 (by decide) rfl
  -- a row that is none of T's, and neither the run's block, is behind all as it was behind the two appends
  have late : ∀ k, k < w3.heap.size → k ≠ mb → k ≠ rb → vT.ownBlock ≠ some k → w6.heap[k]? = w3.heap[k]? := fun k hk h1 h2 h3 =>
    (h6b k h2).trans ((g5.block k (by omega) (fun e => h3 e.symm)).trans (h4b k h1))
  have o1lt := two.o1.lt
  have o2lt := two.o2.lt
  have c1 : ∀ k, v1.ownBlock = some k → k ≠ mb ∧ k ≠ rb ∧ vT.ownBlock ≠ some k := fun k hk => by
    rcases two.t1 k hk with e | e
    · exact ⟨fun h => neSm (h ▸ e), fun h => neSr (h ▸ e), fun h => neST k e h⟩
    · exact ⟨by omega, by omega, fun h => by have := hlt1 k (.inl (.inr (.inr (.inr (.inr h))))); omega⟩
  have c2 : ∀ k, v2.ownBlock = some k → k ≠ mb ∧ k ≠ rb ∧ vT.ownBlock ≠ some k := fun k hk => by
    rcases two.t2 k hk with e | e
    · exact ⟨fun h => neRm (h ▸ e), fun h => neRr (h ▸ e), fun h => neRT k e h⟩
    · exact ⟨by omega, by omega, fun h => by have := hlt1 k (.inl (.inr (.inr (.inr (.inr h))))); omega⟩
  have c3 : ∀ k, v3.ownBlock = some k → k ≠ rb := fun k hk => by
    rcases t5 with e | e
    · rw [e] at hk; exact fun h => neTr (h ▸ hk)
    · rw [e] at hk; injection hk with hk; omega
  refine ⟨⟨?_, h6r, ?_, ?_, ?_, ?_, two.ap, ?_, ?_, ?_, hrun0.wl, ?_, ?_⟩, ⟨?_, ?_, ?_, ?_, ?_⟩, ?_⟩
  · rw [h6b mb nemr, g5.block mb (by omega) (fun e => neTm e.symm)]; exact h4m
  · have := owns_kept two.o1 (w' := w6) fun k hk => late k (o1lt k hk).2 (c1 k hk).1 (c1 k hk).2.1 (c1 k hk).2.2
    simpa [List.map_take] using this
  · have := owns_kept two.o2 (w' := w6) fun k hk => late k (o2lt k hk).2 (c2 k hk).1 (c2 k hk).2.1 (c2 k hk).2.2
    simpa [List.map_take] using this
  · have := owns_kept o5 (w' := w6) fun k hk => h6b k (c3 k hk)
    simpa using this
  · refine owns_kept hrun1.wd fun k hk => ?_
    have hk1 := hlt1 k (.inr hk)
    rw [late k (by omega) (fun h => neWm (h ▸ hk)) (fun h => neWr (h ▸ hk)) (fun h => neTW k h hk), two.block k hk1 (fun e => neSW k e.symm hk) (fun e => neRW k e.symm hk)]
  · simp only [List.length_append, List.length_take]; omega
  · simp only [List.length_append, List.length_take]; omega
  · simp only [List.length_append]; omega
  · intro x hx
    rcases List.mem_append.1 hx with h | h
    · exact hrun0.si x (List.mem_of_mem_take h)
    · exact hi1 x h
  · intro x hx
    rcases List.mem_append.1 hx with h | h
    · exact hrun0.ri x (List.mem_of_mem_take h)
    · exact hi2 x h
  · rw [h6o, g5.os, h4o, two.os, hbel.os]
  · rw [h6t, g5.tape, h4t, two.tape, hbel.tape]
  · rw [h6p, g5.output, h4p, two.output, hbel.output]
  · have := g5.size; omega
  · intro k hk hn
    have n1 : k ≠ mb := fun h => hn (.inl h)
    have n2 : k ≠ rb := fun h => hn (.inr (.inl h))
    have n3 : some k ≠ vS.ownBlock := fun h => hn (.inr (.inr (.inl h.symm)))
    have n4 : some k ≠ vR.ownBlock := fun h => hn (.inr (.inr (.inr (.inl h.symm))))
    have n5 : vT.ownBlock ≠ some k := fun h => hn (.inr (.inr (.inr (.inr h))))
    rw [late k (by omega) n1 n2 n5, two.block k (by omega) n3 n4, hbel.block k hk]
  · rintro k (rfl | rfl | e | e | e)
    · exact .inl (.inl rfl)
    · exact .inl (.inr (.inl rfl))
    · rcases two.t1 k e with h | h
      · exact .inl (.inr (.inr (.inl h)))
      · exact .inr (by omega)
    · rcases two.t2 k e with h | h
      · exact .inl (.inr (.inr (.inr (.inl h))))
      · exact .inr (by omega)
    · rcases t5 with h | h
      · exact .inl (.inr (.inr (.inr (.inr (h ▸ e)))))
      · rw [h] at e; injection e with e; exact .inr (by omega)
end Go.Proofs.YthpcapohfjidoaaDoor
