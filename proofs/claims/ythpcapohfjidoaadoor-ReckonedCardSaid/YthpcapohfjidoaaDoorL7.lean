/- What the lines of Reckoned come to, in plain terms. -/
import Derived.Test.YthpcapohfjidoaaDoorR8
import Derived.Test.YthpcapohfjidoaaDoorL5
import Derived.Test.YthpcapohfjidoaaDoorL6
namespace Go.Proofs.YthpcapohfjidoaaDoor
open Go.RowKit
namespace L

/-- A run with k words done, as many steps. -/
def at' (ws : List (List UInt8)) (S R : List Int) (k : Nat) (out : List UInt8) : RunS := ⟨S, R, ws, k, k, 0, out⟩

theorem runAll_go {n k : Nat} {ws : List (List UInt8)} {S R S' R' : List Int} {out out' l : List UInt8} (hl : ws[k]? = some l) (h : stepPlain (at' ws S R k out) l = (⟨S', R', ws, k, k + 1, 0, out'⟩, 0)) :
    runAll (n + 1) (at' ws S R k out) = runAll n (at' ws S' R' (k + 1) out') := by
  rw [runAll]
  simp only [show (at' ws S R k out).words[(at' ws S R k out).pos]? = some l from hl, h]
  rfl

theorem step_number {ws : List (List UInt8)} {S R : List Int} {k : Nat} {out l : List UInt8} {x : Int} (hx : number l = some x) (hS : S.length < 16) (hR : R.length ≤ 16) (hk : k < 1000) (ho : out.length ≤ 300) :
    stepPlain (at' ws S R k out) l = (⟨S ++ [x], R, ws, k, k + 1, 0, out⟩, 0) := by
  have hc : countStep (at' ws S R k out) = (⟨S, R, ws, k, k + 1, 0, out⟩, 0) := by
    exact if_neg (show ¬ k = 1000 by omega)
  unfold stepPlain
  rw [hc, if_neg (by simp)]
  unfold doWord
  rw [find_of_number hx, hx]
  unfold commit
  simp only [List.length_cons, List.length_nil]
  rw [if_neg (by omega), if_neg (by omega)]
  simp

theorem step_dot {ws : List (List UInt8)} {v : Int} {S : List Int} {k : Nat} (hv : inI64 v) (hk : k < 1000) (hS : S = [v]) :
    stepPlain (at' ws (S ++ [v]) [] k []) [46] = (⟨[v], [], ws, k, k + 1, 0, Lib.itoa v ++ [32]⟩, 0) := by
  subst hS
  have hc : countStep (at' ws ([v] ++ [v]) [] k []) = (⟨[v, v], [], ws, k, k + 1, 0, []⟩, 0) := by
    exact if_neg (show ¬ k = 1000 by omega)
  unfold stepPlain
  rw [hc, if_neg (by simp)]
  have hf : find [46] = some ⟨[46], 1, 0, 2⟩ := by kernel_rfl
  unfold doWord
  rw [hf]
  have hl := itoa_len' v hv.1 hv.2
  have hd : doPrim ⟨[v, v], [], ws, k, k + 1, 0, []⟩ ⟨[46], 1, 0, 2⟩ = commit ⟨[v, v], [], ws, k, k + 1, 0, []⟩ 1 0 ⟨[], [], Lib.itoa v ++ [32], 0⟩ := by kernel_rfl
  show doPrim ⟨[v, v], [], ws, k, k + 1, 0, []⟩ ⟨[46], 1, 0, 2⟩ = _
  rw [hd]
  unfold commit
  simp only [List.length_cons, List.length_nil, List.length_append]
  rw [if_neg (by omega), if_neg (by omega)]
  rfl

/-- The words ahead are done; then 'dup .': what stands there is told, and stays. -/
theorem run_end {ws : List (List UInt8)} {v : Int} {k : Nat} (hv : inI64 v) (hk : k + 1 < 1000) (h1 : ws[k]? = some [100, 117, 112]) (h2 : ws[k + 1]? = some [46]) :
    runAll 2 (at' ws [v] [] k []) = (at' ws [v] [] (k + 2) (Lib.itoa v ++ [32]), 0) := by
  have hd : stepPlain (at' ws [v] [] k []) [100, 117, 112] = (⟨[v, v], [], ws, k, k + 1, 0, []⟩, 0) := by
    have hc : countStep (at' ws [v] [] k []) = (⟨[v], [], ws, k, k + 1, 0, []⟩, 0) := by
      exact if_neg (show ¬ k = 1000 by omega)
    unfold stepPlain
    rw [hc, if_neg (by simp)]
    exact (show doWord ⟨[v], [], ws, k, k + 1, 0, []⟩ [100, 117, 112] = (⟨[v, v], [], ws, k, k + 1, 0, []⟩, 0) by kernel_rfl)
  have hdot : stepPlain (at' ws [v, v] [] (k + 1) []) [46] = (⟨[v], [], ws, k + 1, k + 1 + 1, 0, Lib.itoa v ++ [32]⟩, 0) := step_dot (S := [v]) hv hk rfl
  rw [runAll_go h1 hd, runAll_go h2 hdot]
  rfl

theorem run_three {n : Nat} {ws : List (List UInt8)} {x y z : Int} (hx : -1000000000000000000 < x ∧ x < 1000000000000000000) (hy : -1000000000000000000 < y ∧ y < 1000000000000000000) (hz : -1000000000000000000 < z ∧ z < 1000000000000000000)
    (h0 : ws[0]? = some (Lib.itoa x)) (h1 : ws[1]? = some (Lib.itoa y)) (h2 : ws[2]? = some (Lib.itoa z)) :
    runAll (n + 1 + 1 + 1) (at' ws [] [] 0 []) = runAll n (at' ws [x, y, z] [] 3 []) := by
  rw [runAll_go h0 (step_number (number_itoa x hx.1 hx.2) (by simp) (by simp) (by omega) (by simp)),
    runAll_go h1 (step_number (number_itoa y hy.1 hy.2) (by simp) (by simp) (by omega) (by simp)),
    runAll_go h2 (step_number (number_itoa z hz.1 hz.2) (by simp) (by simp) (by omega) (by simp))]
  rfl

/-- The line of three numbers and some words more. -/
def line3 (x y z : Int) (word : List UInt8) : List UInt8 := Lib.itoa x ++ 32 :: (Lib.itoa y ++ 9 :: (Lib.itoa z ++ 32 :: word))
theorem split_line3 (x y z : Int) (word : List UInt8) : split (line3 x y z word) = Lib.itoa x :: Lib.itoa y :: Lib.itoa z :: split word := by
  unfold line3
  rw [split_cons _ _ _ (itoa_plain x).1 (itoa_plain x).2 (by decide), split_cons _ _ _ (itoa_plain y).1 (itoa_plain y).2 (by decide), split_cons _ _ _ (itoa_plain z).1 (itoa_plain z).2 (by decide)]

end L
end Go.Proofs.YthpcapohfjidoaaDoor
