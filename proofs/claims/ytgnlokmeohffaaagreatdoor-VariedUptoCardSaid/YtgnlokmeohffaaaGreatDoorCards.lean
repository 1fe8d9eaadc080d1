/-
  DERIVED. GIVEN WITH THE SEED: THE CARDS: each row of YtgnlokmeohffaaaGreatDoorRows.lean that lists a variable, with what it lists TIED to the program's text (the seventh form; the later family's looks); each row that meets fmt, with fmt's text TOLD by the authors' own Lean function (tested against real Go, not proved from fmt's source: count such statements apart). THE CARD IS WHAT COUNTS. Prove the row's statement (the work); the ties are given (YtgnlokmeohffaaaGreatDoorTie.lean); close each card by the builder's one call (the guide's Derived/Test/ToyasCard.lean, 'card_holds'). Laid BY PROGRAM, IN A SANDBOX (cutbox-door.mjs). By AI agents, Wed Nov 11 2026. No macro, syntax, notation, axiom, sorry.
-/
import Derived.Test.YtgnlokmeohffaaaGreatDoorRows
import GoSem.ClaimSeven
namespace Go.Proofs.YtgnlokmeohffaaaGreatDoor
namespace Rows

/-- THE TIED CARD OF 'anvillaw.Plain'. -/
def plainCard : Claim7 := { stood := { row := plainRow, standIns := [], harness := (true, "ef5e8ce67f3895affe342043fc8d4182ccb061d0f383efd92875074a224e3c62"), looks := true }, kinds := [], alts := [], laidByText := true, laidKinds := [.data, .data, .data, .widerDeep, .widerDeep, .widerDeep], laidTests := true, laidLooks := .later }
def PlainCardSaid : Prop := Claim7.holds Tryz.pinned (.plain (OpenSpec.ofChange plainSpec)) plainCard

/-- THE TIED CARD OF 'anvillaw.Defined'. -/
def definedCard : Claim7 := { stood := { row := definedRow, standIns := [], harness := (true, "ef5e8ce67f3895affe342043fc8d4182ccb061d0f383efd92875074a224e3c62"), looks := true }, kinds := [], alts := [], laidByText := true, laidKinds := [.data, .data, .data, .widerDeep, .widerDeep], laidTests := true, laidLooks := .later }
def DefinedCardSaid : Prop := Claim7.holds Tryz.pinned (.plain (OpenSpec.ofChange definedSpec)) definedCard

/-- THE TIED CARD OF 'anvillaw.Varied'. -/
def variedCard : Claim7 := { stood := { row := variedRow, standIns := [], harness := (true, "ef5e8ce67f3895affe342043fc8d4182ccb061d0f383efd92875074a224e3c62"), looks := true }, kinds := [], alts := [], laidByText := true, laidKinds := [.data, .data, .data, .widerDeep], laidTests := true, laidLooks := .later }
def VariedCardSaid : Prop := Claim7.holds Tryz.pinned (.plain (OpenSpec.ofChange variedSpec)) variedCard

/-- THE TIED CARD OF 'anvilkeep.Failed'. -/
def failedCard : Claim7 := { stood := { row := failedRow, standIns := [], harness := (true, "ef5e8ce67f3895affe342043fc8d4182ccb061d0f383efd92875074a224e3c62"), looks := true }, kinds := [], alts := [], laidByText := true, laidKinds := [.data, .data, .data], laidTests := true, laidLooks := .later }
def FailedCardSaid : Prop := Claim7.holds Tryz.pinned (.plain (OpenSpec.ofChange failedSpec)) failedCard

/-- THE TIED CARD OF 'anvilkeep.Forgotten'. -/
def forgottenCard : Claim7 := { stood := { row := forgottenRow, standIns := [], harness := (true, "ef5e8ce67f3895affe342043fc8d4182ccb061d0f383efd92875074a224e3c62"), looks := true }, kinds := [], alts := [], laidByText := true, laidKinds := [.data, .data, .data], laidTests := true, laidLooks := .later }
def ForgottenCardSaid : Prop := Claim7.holds Tryz.pinned (.plain (OpenSpec.ofChange forgottenSpec)) forgottenCard

/-- THE TIED CARD OF 'anvillaw.All'. -/
def allCard : Claim7 := { stood := { row := allRow, standIns := [], harness := (true, "ef5e8ce67f3895affe342043fc8d4182ccb061d0f383efd92875074a224e3c62"), looks := true }, kinds := [], alts := [], laidByText := true, laidKinds := [.data, .data, .data], laidTests := true, laidLooks := .later }
def AllCardSaid : Prop := Claim7.holds Tryz.pinned (.plain (OpenSpec.ofChange allSpec)) allCard

/-- THE SECOND FORM's CARD OF 'anvillaw.Plain'. -/
def plainUptoCard : Claim7 := { stood := { row := plainUptoRow, standIns := [], harness := (true, "ef5e8ce67f3895affe342043fc8d4182ccb061d0f383efd92875074a224e3c62"), looks := true }, kinds := [], alts := [], laidByText := true, laidKinds := [.data, .data, .data, .widerDeep, .widerDeep, .widerDeep], laidTests := true, laidLooks := .later }
def PlainUptoCardSaid : Prop := Claim7.holds Tryz.pinned (.plain (OpenSpec.upto plainSpec)) plainUptoCard

/-- THE SECOND FORM's CARD OF 'anvillaw.Defined'. -/
def definedUptoCard : Claim7 := { stood := { row := definedUptoRow, standIns := [], harness := (true, "ef5e8ce67f3895affe342043fc8d4182ccb061d0f383efd92875074a224e3c62"), looks := true }, kinds := [], alts := [], laidByText := true, laidKinds := [.data, .data, .data, .widerDeep, .widerDeep], laidTests := true, laidLooks := .later }
def DefinedUptoCardSaid : Prop := Claim7.holds Tryz.pinned (.plain (OpenSpec.upto definedSpec)) definedUptoCard

/-- THE SECOND FORM's CARD OF 'anvillaw.Varied'. -/
def variedUptoCard : Claim7 := { stood := { row := variedUptoRow, standIns := [], harness := (true, "ef5e8ce67f3895affe342043fc8d4182ccb061d0f383efd92875074a224e3c62"), looks := true }, kinds := [], alts := [], laidByText := true, laidKinds := [.data, .data, .data, .widerDeep], laidTests := true, laidLooks := .later }
def VariedUptoCardSaid : Prop := Claim7.holds Tryz.pinned (.plain (OpenSpec.upto variedSpec)) variedUptoCard

/-- THE SECOND FORM's CARD OF 'anvilkeep.Failed'. -/
def failedUptoCard : Claim7 := { stood := { row := failedUptoRow, standIns := [], harness := (true, "ef5e8ce67f3895affe342043fc8d4182ccb061d0f383efd92875074a224e3c62"), looks := true }, kinds := [], alts := [], laidByText := true, laidKinds := [.data, .data, .data], laidTests := true, laidLooks := .later }
def FailedUptoCardSaid : Prop := Claim7.holds Tryz.pinned (.plain (OpenSpec.upto failedSpec)) failedUptoCard

/-- THE SECOND FORM's CARD OF 'anvilkeep.Forgotten'. -/
def forgottenUptoCard : Claim7 := { stood := { row := forgottenUptoRow, standIns := [], harness := (true, "ef5e8ce67f3895affe342043fc8d4182ccb061d0f383efd92875074a224e3c62"), looks := true }, kinds := [], alts := [], laidByText := true, laidKinds := [.data, .data, .data], laidTests := true, laidLooks := .later }
def ForgottenUptoCardSaid : Prop := Claim7.holds Tryz.pinned (.plain (OpenSpec.upto forgottenSpec)) forgottenUptoCard

/-- THE SECOND FORM's CARD OF 'anvillaw.All'. -/
def allUptoCard : Claim7 := { stood := { row := allUptoRow, standIns := [], harness := (true, "ef5e8ce67f3895affe342043fc8d4182ccb061d0f383efd92875074a224e3c62"), looks := true }, kinds := [], alts := [], laidByText := true, laidKinds := [.data, .data, .data], laidTests := true, laidLooks := .later }
def AllUptoCardSaid : Prop := Claim7.holds Tryz.pinned (.plain (OpenSpec.upto allSpec)) allUptoCard
end Rows
end Go.Proofs.YtgnlokmeohffaaaGreatDoor
