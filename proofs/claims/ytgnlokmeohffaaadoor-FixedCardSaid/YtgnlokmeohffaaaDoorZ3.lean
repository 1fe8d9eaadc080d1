/- What is proved: Fixed answers true at every two lists of numbers and every number, on the tables of the library as their text lays them. No condition besides. -/
import Derived.Test.YtgnlokmeohffaaaDoorZ3B2
namespace Go.Proofs.YtgnlokmeohffaaaDoor
open Go.RowKit

/-- Fixed, as it is given. -/
theorem fixed_said : Rows.FixedCardSaid :=
  Fixed.card_holds fun a0 l0 c0 z0 a1 l1 c1 z1 a2 W h0 h1 h2 htab => fixed_walk a0 l0 c0 z0 a1 l1 c1 z1 a2 W h0 h1 h2 htab
end Go.Proofs.YtgnlokmeohffaaaDoor
