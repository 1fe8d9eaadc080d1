/- The words of the language in plain terms, of no program: what each takes, and what it does with that. -/
import Derived.Lib.ItoaNum
import Derived.WalkKit
namespace Go.Proofs.YthpcapohfjidoaaDoor
namespace L

/-- A word of the language: its name; how many it takes from the stack, and from what is aside; its group (0 reckons, 1 moves, 2 tells). -/
structure Prim where
  name : List UInt8
  takes : Nat
  aside : Nat
  group : Nat

def primTab : List Prim := [⟨[43], 2, 0, 0⟩, ⟨[45], 2, 0, 0⟩, ⟨[42], 2, 0, 0⟩, ⟨[47], 2, 0, 0⟩, ⟨[109, 111, 100], 2, 0, 0⟩, ⟨[61], 2, 0, 0⟩, ⟨[60], 2, 0, 0⟩, ⟨[62], 2, 0, 0⟩, ⟨[97, 110, 100], 2, 0, 0⟩, ⟨[111, 114], 2, 0, 0⟩, ⟨[120, 111, 114], 2, 0, 0⟩,
  ⟨[110, 111, 116], 1, 0, 0⟩, ⟨[100, 117, 112], 1, 0, 1⟩, ⟨[100, 114, 111, 112], 1, 0, 1⟩, ⟨[62, 114], 1, 0, 1⟩, ⟨[115, 119, 97, 112], 2, 0, 1⟩, ⟨[111, 118, 101, 114], 2, 0, 1⟩, ⟨[114, 111, 116], 3, 0, 1⟩, ⟨[114, 62], 0, 1, 1⟩, ⟨[114, 64], 0, 1, 1⟩, ⟨[100, 101, 112, 116, 104], 0, 0, 1⟩,
  ⟨[46], 1, 0, 2⟩, ⟨[101, 109, 105, 116], 1, 0, 2⟩, ⟨[99, 114], 0, 0, 2⟩]
def find (l : List UInt8) : Option Prim := primTab.find? fun p => l == p.name
def truth (b : Bool) : Int := if b then -1 else 0
def divOr (y v : Int) : Int := if y = 0 then 0 else v
def zeroErr (y : Int) : Int := if y = 0 then 8 else 0
end L
def primVal (p : L.Prim) : Value := .agg #[.string ⟨p.name.toArray⟩, .int .i64 p.takes, .int .i64 p.aside, .int .i64 p.group]
end Go.Proofs.YthpcapohfjidoaaDoor
