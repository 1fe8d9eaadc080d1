/- What is proved: Apart answers true at every list of numbers, on the tables of the library as their text lays them. No condition besides. -/
import Derived.Test.YtgnlokmeohffaaaDoorZ2B1
namespace Go.Proofs.YtgnlokmeohffaaaDoor
open Go.RowKit

/-- Apart, as it is given. -/
theorem apart_said : Rows.ApartCardSaid :=
  Apart.card_holds fun a0 l0 c0 z0 W h0 htab => apart_walk a0 l0 c0 z0 W h0 htab
end Go.Proofs.YtgnlokmeohffaaaDoor
