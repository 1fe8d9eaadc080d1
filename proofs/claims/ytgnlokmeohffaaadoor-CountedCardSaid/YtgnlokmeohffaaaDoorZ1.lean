/- What is proved: Counted answers true at every three numbers, on the tables of the library as their text lays them. No condition besides. -/
import Derived.Test.YtgnlokmeohffaaaDoorZ1B1
namespace Go.Proofs.YtgnlokmeohffaaaDoor
open Go.RowKit

/-- Counted, as it is given. -/
theorem counted_said : Rows.CountedCardSaid :=
  Counted.card_holds fun a0 a1 a2 W h0 h1 h2 htab => counted_walk a0 a1 a2 W htab h0 h1 h2
end Go.Proofs.YtgnlokmeohffaaaDoor
