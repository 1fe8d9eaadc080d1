/- The language in plain terms, of no program: which texts are bold. -/
import Derived.WalkKit
namespace Go.Proofs.YthpcapohfjidoaaDoor
namespace L

def boldNames : List (List UInt8) := [[58], [59], [118, 97, 114, 105, 97, 98, 108, 101], [99, 111, 110, 115, 116, 97, 110, 116], [109, 97, 114, 107, 101, 114], [102, 111, 114, 103, 101, 116], [39], [114, 101, 99, 117, 114, 115, 101], [105, 102], [101, 108, 115, 101], [116, 104, 101, 110], [98, 101, 103, 105, 110], [117, 110, 116, 105, 108], [97, 103, 97, 105, 110], [119, 104, 105, 108, 101], [114, 101, 112, 101, 97, 116], [100, 111], [108, 111, 111, 112], [105], [108, 101, 97, 118, 101], [101, 120, 105, 116]]
def isBold (l : List UInt8) : Bool := boldNames.any fun b => l == b
end L
end Go.Proofs.YthpcapohfjidoaaDoor
