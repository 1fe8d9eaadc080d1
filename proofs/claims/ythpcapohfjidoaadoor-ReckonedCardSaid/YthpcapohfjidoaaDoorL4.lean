/- What each word of the language does with what it takes, in plain terms, of no program. -/
import Derived.Test.YthpcapohfjidoaaDoorL3
namespace Go.Proofs.YthpcapohfjidoaaDoor
namespace L
open Go.RowKit

/-- What a word is about to do in place of what it takes; an error, and then nothing. -/
structure Eff where
  lays : List Int
  aside : List Int
  tells : List UInt8
  err : Int

def planOf (n : List UInt8) (x y z a d : Int) : Eff :=
  if n == [43] then (⟨[wrap64 (x + y)], [], [], 0⟩)
  else if n == [45] then (⟨[wrap64 (x - y)], [], [], 0⟩)
  else if n == [42] then (⟨[wrap64 (x * y)], [], [], 0⟩)
  else if n == [47] then (if y = 0 then ⟨[], [], [], 8⟩ else ⟨[wrap64 (x.tdiv y)], [], [], 0⟩)
  else if n == [109, 111, 100] then (if y = 0 then ⟨[], [], [], 8⟩ else ⟨[x.tmod y], [], [], 0⟩)
  else if n == [61] then (⟨[truth (x == y)], [], [], 0⟩)
  else if n == [60] then (⟨[truth (decide (x < y))], [], [], 0⟩)
  else if n == [62] then (⟨[truth (decide (y < x))], [], [], 0⟩)
  else if n == [97, 110, 100] then (⟨[bits .and .i64 x y], [], [], 0⟩)
  else if n == [111, 114] then (⟨[bits .or .i64 x y], [], [], 0⟩)
  else if n == [120, 111, 114] then (⟨[bits .xor .i64 x y], [], [], 0⟩)
  else if n == [110, 111, 116] then (⟨[truth (x == 0)], [], [], 0⟩)
  else if n == [100, 117, 112] then (⟨[x, x], [], [], 0⟩)
  else if n == [100, 114, 111, 112] then (⟨[], [], [], 0⟩)
  else if n == [62, 114] then (⟨[], [x], [], 0⟩)
  else if n == [115, 119, 97, 112] then (⟨[y, x], [], [], 0⟩)
  else if n == [111, 118, 101, 114] then (⟨[x, y, x], [], [], 0⟩)
  else if n == [114, 111, 116] then (⟨[y, z, x], [], [], 0⟩)
  else if n == [114, 62] then (⟨[a], [], [], 0⟩)
  else if n == [114, 64] then (⟨[a], [a], [], 0⟩)
  else if n == [100, 101, 112, 116, 104] then (⟨[d], [], [], 0⟩)
  else if n == [46] then (⟨[], [], Lib.itoa x ++ [32], 0⟩)
  else if n == [101, 109, 105, 116] then (if x < 32 ∨ 126 < x then ⟨[], [], [], 11⟩ else ⟨[], [], [UInt8.ofNat x.toNat], 0⟩)
  else if n == [99, 114] then (⟨[], [], [10], 0⟩)
  else ⟨[], [], [], 0⟩
def plan (n : List UInt8) (T A : List Int) (d : Int) : Eff := planOf n (T.getD 0 0) (T.getD 1 0) (T.getD 2 0) (A.getD 0 0) d
end L
end Go.Proofs.YthpcapohfjidoaaDoor
