/- What is proved: Varied answers true at every script, where what is read is of bulk at most 1048576, on the tables and the lists of words as their text lays them. No condition besides. -/
import Derived.Test.YtgnlokmeohffaaaGreatDoorZ7R
namespace Go.Proofs.YtgnlokmeohffaaaGreatDoor
open Go.Proofs.Tryz renaming prog → aQ
open Go renaming World → aY
open Go.Proofs.Tryz
open Go.RowKit
variable {W:aY}
theorem kn (h:laidMetH aQ Rows.variedUptoRow.laid W):jn W 2:=by
 rw[MakeChecks.laidMetH_plain _ _ _ (by kernel_rfl)] at h;have h2:=laidMet.filter (λx=>x.1== "anvil/anvillaw.forgetting") h
 have e:(Rows.variedUptoRow.laid.filter λx=>x.1== "anvil/anvillaw.forgetting")=[("anvil/anvillaw.forgetting",Rows.laid_anvil_anvillaw_forgetting)]:=by kernel_rfl
 rw[e] at h2;exact kg (by kernel_rfl) (by kernel_rfl) (by decide) (by decide) h2
theorem varied_said:Rows.VariedUptoCardSaid:=
 Varied.DW λa n c zs W P4 hn hL htab=>kc W a n c (kn hL) (kr W htab a n c zs P4 hn)
end Go.Proofs.YtgnlokmeohffaaaGreatDoor
