/- What is proved: Varied answers true at every script, where what is read is of bulk at most 1048576, on the tables and the lists of words as their text lays them. No condition besides. -/
import Derived.Test.YtgnlokmeohffaaaGreatDoorZ7R
namespace Go.Proofs.YtgnlokmeohffaaaGreatDoor
open Go.Proofs.Tryz
open Go.RowKit
theorem varied_said:Rows.VariedUptoCardSaid:=
 Varied.DW λa n c zs W P4 hn hL htab=>kc W a n c (kz hL "anvil/anvillaw.forgetting" Rows.laid_anvil_anvillaw_forgetting rfl (by kernel_rfl) (by kernel_rfl) (by kernel_rfl) (by kernel_rfl) (by decide) (by decide)) (kr W htab a n c zs P4 hn)
end Go.Proofs.YtgnlokmeohffaaaGreatDoor
