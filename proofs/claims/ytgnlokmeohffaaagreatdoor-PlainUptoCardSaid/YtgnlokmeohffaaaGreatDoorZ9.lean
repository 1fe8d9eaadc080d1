/- What is proved: Plain answers true at every script, where what is read is of bulk at most 1048576, on the tables and the lists of words as their text lays them. No condition besides. -/
import Derived.Test.YtgnlokmeohffaaaGreatDoorZ9R
namespace Go.Proofs.YtgnlokmeohffaaaGreatDoor
open Go.Proofs.Tryz renaming prog → aQ
open Go renaming World → aY
open Go.Proofs.Tryz
open Go.RowKit
variable {W:aY}
theorem ko (h:laidMetH aQ Rows.plainUptoRow.laid W):jn W 0:=by
 rw[MakeChecks.laidMetH_plain _ _ _ (by kernel_rfl)] at h;have h2:=laidMet.filter (λx=>x.1== "anvil/anvillaw.definitions") h
 have e:(Rows.plainUptoRow.laid.filter λx=>x.1== "anvil/anvillaw.definitions")=[("anvil/anvillaw.definitions",Rows.laid_anvil_anvillaw_definitions)]:=by kernel_rfl
 rw[e] at h2;exact kg (by kernel_rfl) (by kernel_rfl) (by decide) (by decide) h2
theorem kt (h:laidMetH aQ Rows.plainUptoRow.laid W):jn W 1:=by
 rw[MakeChecks.laidMetH_plain _ _ _ (by kernel_rfl)] at h;have h2:=laidMet.filter (λx=>x.1== "anvil/anvillaw.variables") h
 have e:(Rows.plainUptoRow.laid.filter λx=>x.1== "anvil/anvillaw.variables")=[("anvil/anvillaw.variables",Rows.laid_anvil_anvillaw_variables)]:=by kernel_rfl
 rw[e] at h2;exact kg (by kernel_rfl) (by kernel_rfl) (by decide) (by decide) h2
theorem kq (h:laidMetH aQ Rows.plainUptoRow.laid W):jn W 2:=by
 rw[MakeChecks.laidMetH_plain _ _ _ (by kernel_rfl)] at h;have h2:=laidMet.filter (λx=>x.1== "anvil/anvillaw.forgetting") h
 have e:(Rows.plainUptoRow.laid.filter λx=>x.1== "anvil/anvillaw.forgetting")=[("anvil/anvillaw.forgetting",Rows.laid_anvil_anvillaw_forgetting)]:=by kernel_rfl
 rw[e] at h2;exact kg (by kernel_rfl) (by kernel_rfl) (by decide) (by decide) h2
theorem plain_said:Rows.PlainUptoCardSaid:=
 Plain.DW λa n c zs W P4 hn hL htab=>ke W a n c (ko hL) (kt hL) (kq hL) (kr W htab a n c zs P4 hn)
end Go.Proofs.YtgnlokmeohffaaaGreatDoor
