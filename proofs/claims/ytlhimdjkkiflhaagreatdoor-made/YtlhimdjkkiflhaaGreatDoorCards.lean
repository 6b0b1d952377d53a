/-
  DERIVED. GIVEN WITH THE SEED: THE CARDS: each row of YtlhimdjkkiflhaaGreatDoorRows.lean that lists a variable, with what it lists TIED to the program's text (the seventh form; the later family's looks); each row that meets fmt, with fmt's text TOLD by the authors' own Lean function (tested against real Go, not proved from fmt's source: count such statements apart). THE CARD IS WHAT COUNTS. Prove the row's statement (the work); the ties are given (YtlhimdjkkiflhaaGreatDoorTie.lean); close each card by the builder's one call (the guide's Derived/Test/ToyasCard.lean, 'card_holds'). Laid BY PROGRAM, IN A SANDBOX (cutbox-door.mjs). By AI agents, Wed Nov 11 2026. No macro, syntax, notation, axiom, sorry.
-/
import Derived.Test.YtlhimdjkkiflhaaGreatDoorRows
import GoSem.ClaimSeven
namespace Go.Proofs.YtlhimdjkkiflhaaGreatDoor
namespace Rows

/-- THE TIED CARD OF 'looptextlaw.Reckons'. -/
def reckonsCard : Claim7 := { stood := { row := reckonsRow, standIns := [], harness := (true, "d97700acc5c00657c6582649aeb32a994b5620174cee17be7ddbfddcec76b2fa"), looks := true }, kinds := [], alts := [], goes := true, laidByText := true, laidKinds := [.data, .data, .data], laidTests := true, laidLooks := .later }
def ReckonsCardSaid : Prop := Claim7.holds Tryz.pinned (.plain (OpenSpec.ofChange reckonsSpec)) reckonsCard

/-- THE TIED CARD OF 'looptextlaw.All'. -/
def allCard : Claim7 := { stood := { row := allRow, standIns := [], harness := (true, "d97700acc5c00657c6582649aeb32a994b5620174cee17be7ddbfddcec76b2fa"), looks := true }, kinds := [], alts := [], goes := true, laidByText := true, laidKinds := [.data, .data, .data], laidTests := true, laidLooks := .later }
def AllCardSaid : Prop := Claim7.holds Tryz.pinned (.plain (OpenSpec.ofChange allSpec)) allCard

/-- THE TIED CARD OF 'looptextkeep.Known'. -/
def knownCard : Claim7 := { stood := { row := knownRow, standIns := [], harness := (true, "d97700acc5c00657c6582649aeb32a994b5620174cee17be7ddbfddcec76b2fa"), looks := true }, kinds := [], alts := [], goes := true, laidByText := true, laidKinds := [.data, .data, .data], laidTests := true, laidLooks := .later }
def KnownCardSaid : Prop := Claim7.holds Tryz.pinned (.plain (OpenSpec.ofChange knownSpec)) knownCard

/-- THE TIED CARD OF 'looptextkeep.Cut'. -/
def cutCard : Claim7 := { stood := { row := cutRow, standIns := [], harness := (true, "d97700acc5c00657c6582649aeb32a994b5620174cee17be7ddbfddcec76b2fa"), looks := true }, kinds := [], alts := [], goes := true, laidByText := true, laidKinds := [.data, .data, .data], laidTests := true, laidLooks := .later }
def CutCardSaid : Prop := Claim7.holds Tryz.pinned (.plain (OpenSpec.ofChange cutSpec)) cutCard

/-- THE TIED CARD OF 'looptextkeep.Deep'. -/
def deepCard : Claim7 := { stood := { row := deepRow, standIns := [], harness := (true, "d97700acc5c00657c6582649aeb32a994b5620174cee17be7ddbfddcec76b2fa"), looks := true }, kinds := [], alts := [], goes := true, laidByText := true, laidKinds := [.data, .data, .data], laidTests := true, laidLooks := .later }
def DeepCardSaid : Prop := Claim7.holds Tryz.pinned (.plain (OpenSpec.ofChange deepSpec)) deepCard

/-- THE TIED CARD OF 'looptextkeep.Added'. -/
def addedCard : Claim7 := { stood := { row := addedRow, standIns := [], harness := (true, "d97700acc5c00657c6582649aeb32a994b5620174cee17be7ddbfddcec76b2fa"), looks := true }, kinds := [], alts := [], goes := true, laidByText := true, laidKinds := [.data, .data, .data], laidTests := true, laidLooks := .later }
def AddedCardSaid : Prop := Claim7.holds Tryz.pinned (.plain (OpenSpec.ofChange addedSpec)) addedCard

/-- THE TIED CARD OF 'looptextkeep.Returned'. -/
def returnedCard : Claim7 := { stood := { row := returnedRow, standIns := [], harness := (true, "d97700acc5c00657c6582649aeb32a994b5620174cee17be7ddbfddcec76b2fa"), looks := true }, kinds := [], alts := [], goes := true, laidByText := true, laidKinds := [.data, .data, .data], laidTests := true, laidLooks := .later }
def ReturnedCardSaid : Prop := Claim7.holds Tryz.pinned (.plain (OpenSpec.ofChange returnedSpec)) returnedCard

/-- THE TIED CARD OF 'looptextkeep.Made'. -/
def madeCard : Claim7 := { stood := { row := madeRow, standIns := [], harness := (true, "d97700acc5c00657c6582649aeb32a994b5620174cee17be7ddbfddcec76b2fa"), looks := true }, kinds := [], alts := [], goes := true, laidByText := true, laidKinds := [.data, .data, .data], laidTests := true, laidLooks := .later }
def MadeCardSaid : Prop := Claim7.holds Tryz.pinned (.plain (OpenSpec.ofChange madeSpec)) madeCard

/-- THE SECOND FORM's CARD OF 'looptextlaw.Reckons'. -/
def reckonsUptoCard : Claim7 := { stood := { row := reckonsUptoRow, standIns := [], harness := (true, "d97700acc5c00657c6582649aeb32a994b5620174cee17be7ddbfddcec76b2fa"), looks := true }, kinds := [], alts := [], goes := true, laidByText := true, laidKinds := [.data, .data, .data], laidTests := true, laidLooks := .later }
def ReckonsUptoCardSaid : Prop := Claim7.holds Tryz.pinned (.plain (OpenSpec.upto reckonsSpec)) reckonsUptoCard

/-- THE SECOND FORM's CARD OF 'looptextlaw.All'. -/
def allUptoCard : Claim7 := { stood := { row := allUptoRow, standIns := [], harness := (true, "d97700acc5c00657c6582649aeb32a994b5620174cee17be7ddbfddcec76b2fa"), looks := true }, kinds := [], alts := [], goes := true, laidByText := true, laidKinds := [.data, .data, .data], laidTests := true, laidLooks := .later }
def AllUptoCardSaid : Prop := Claim7.holds Tryz.pinned (.plain (OpenSpec.upto allSpec)) allUptoCard

/-- THE SECOND FORM's CARD OF 'looptextkeep.Known'. -/
def knownUptoCard : Claim7 := { stood := { row := knownUptoRow, standIns := [], harness := (true, "d97700acc5c00657c6582649aeb32a994b5620174cee17be7ddbfddcec76b2fa"), looks := true }, kinds := [], alts := [], goes := true, laidByText := true, laidKinds := [.data, .data, .data], laidTests := true, laidLooks := .later }
def KnownUptoCardSaid : Prop := Claim7.holds Tryz.pinned (.plain (OpenSpec.upto knownSpec)) knownUptoCard

/-- THE SECOND FORM's CARD OF 'looptextkeep.Cut'. -/
def cutUptoCard : Claim7 := { stood := { row := cutUptoRow, standIns := [], harness := (true, "d97700acc5c00657c6582649aeb32a994b5620174cee17be7ddbfddcec76b2fa"), looks := true }, kinds := [], alts := [], goes := true, laidByText := true, laidKinds := [.data, .data, .data], laidTests := true, laidLooks := .later }
def CutUptoCardSaid : Prop := Claim7.holds Tryz.pinned (.plain (OpenSpec.upto cutSpec)) cutUptoCard

/-- THE SECOND FORM's CARD OF 'looptextkeep.Deep'. -/
def deepUptoCard : Claim7 := { stood := { row := deepUptoRow, standIns := [], harness := (true, "d97700acc5c00657c6582649aeb32a994b5620174cee17be7ddbfddcec76b2fa"), looks := true }, kinds := [], alts := [], goes := true, laidByText := true, laidKinds := [.data, .data, .data], laidTests := true, laidLooks := .later }
def DeepUptoCardSaid : Prop := Claim7.holds Tryz.pinned (.plain (OpenSpec.upto deepSpec)) deepUptoCard

/-- THE SECOND FORM's CARD OF 'looptextkeep.Added'. -/
def addedUptoCard : Claim7 := { stood := { row := addedUptoRow, standIns := [], harness := (true, "d97700acc5c00657c6582649aeb32a994b5620174cee17be7ddbfddcec76b2fa"), looks := true }, kinds := [], alts := [], goes := true, laidByText := true, laidKinds := [.data, .data, .data], laidTests := true, laidLooks := .later }
def AddedUptoCardSaid : Prop := Claim7.holds Tryz.pinned (.plain (OpenSpec.upto addedSpec)) addedUptoCard

/-- THE SECOND FORM's CARD OF 'looptextkeep.Returned'. -/
def returnedUptoCard : Claim7 := { stood := { row := returnedUptoRow, standIns := [], harness := (true, "d97700acc5c00657c6582649aeb32a994b5620174cee17be7ddbfddcec76b2fa"), looks := true }, kinds := [], alts := [], goes := true, laidByText := true, laidKinds := [.data, .data, .data], laidTests := true, laidLooks := .later }
def ReturnedUptoCardSaid : Prop := Claim7.holds Tryz.pinned (.plain (OpenSpec.upto returnedSpec)) returnedUptoCard

/-- THE SECOND FORM's CARD OF 'looptextkeep.Made'. -/
def madeUptoCard : Claim7 := { stood := { row := madeUptoRow, standIns := [], harness := (true, "d97700acc5c00657c6582649aeb32a994b5620174cee17be7ddbfddcec76b2fa"), looks := true }, kinds := [], alts := [], goes := true, laidByText := true, laidKinds := [.data, .data, .data], laidTests := true, laidLooks := .later }
def MadeUptoCardSaid : Prop := Claim7.holds Tryz.pinned (.plain (OpenSpec.upto madeSpec)) madeUptoCard
end Rows
end Go.Proofs.YtlhimdjkkiflhaaGreatDoor
