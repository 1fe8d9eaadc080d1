/- What is proved: All answers true at every script, where what is read is of bulk at most 1048576, on the tables of the library as their text lays them. No condition besides. -/
import Derived.Test.YtgnlokmeohffaaaGreatDoorZ6R
namespace Go.Proofs.YtgnlokmeohffaaaGreatDoor
open Go.Proofs.Tryz
open Go.RowKit
theorem all_said:Rows.AllUptoCardSaid:=
 All.DW λa n c zs W P4 hn _ htab=>XV a n c zs W P4 hn htab
end Go.Proofs.YtgnlokmeohffaaaGreatDoor
