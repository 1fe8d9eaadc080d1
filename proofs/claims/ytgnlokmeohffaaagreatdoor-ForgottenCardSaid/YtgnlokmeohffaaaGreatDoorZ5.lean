/- What is proved: Forgotten answers true at every two lists of numbers, on the tables of the library as their text lays them. No condition besides. -/
import Derived.Test.YtgnlokmeohffaaaGreatDoorZ5B3
namespace Go.Proofs.YtgnlokmeohffaaaGreatDoor
open Go.RowKit

/-- Forgotten, as it is given. -/
theorem forgotten_said : Rows.ForgottenCardSaid :=
  Forgotten.card_holds fun a0 l0 c0 z0 a1 l1 c1 z1 W h0 h1 htab => forgotten_walk a0 l0 c0 z0 a1 l1 c1 z1 W h0 h1 htab
end Go.Proofs.YtgnlokmeohffaaaGreatDoor
