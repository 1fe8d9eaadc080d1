/- What is proved: Failed answers true at every list of numbers and every number, on the tables of the library as their text lays them. No condition besides. -/
import Derived.Test.YtgnlokmeohffaaaGreatDoorZ4B3
namespace Go.Proofs.YtgnlokmeohffaaaGreatDoor
open Go.RowKit

/-- Failed, as it is given. -/
theorem failed_said : Rows.FailedCardSaid :=
  Failed.card_holds fun a0 l0 c0 z0 a1 W h0 h1 htab => failed_walk a0 l0 c0 z0 a1 W h0 h1 htab
end Go.Proofs.YtgnlokmeohffaaaGreatDoor
