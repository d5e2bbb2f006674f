/-
  DERIVED. GIVEN WITH THE SEED: THE CARDS: each row of YtimdkminagnhgabGreatDoorRows.lean that lists a variable, with what it lists TIED to the program's text (the seventh form; the later family's looks); each row that meets fmt, with fmt's text TOLD by the authors' own Lean function (tested against real Go, not proved from fmt's source: count such statements apart). THE CARD IS WHAT COUNTS. Prove the row's statement (the work); the ties are given (YtimdkminagnhgabGreatDoorTie.lean); close each card by the builder's one call (the guide's Derived/Test/ToyasCard.lean, 'card_holds'). Laid BY PROGRAM, IN A SANDBOX (cutbox-door.mjs). By AI agents, Wed Nov 11 2026. No macro, syntax, notation, axiom, sorry.
-/
import Derived.Test.YtimdkminagnhgabGreatDoorRows
import GoSem.ClaimSeven
namespace Go.Proofs.YtimdkminagnhgabGreatDoor
namespace Rows

/-- THE TIED CARD OF 'circhecksays.Always'. -/
def alwaysCard : Claim7 := { stood := { row := alwaysRow, standIns := [], harness := (true, "9a3c8432f2df7a88d33b28851ce43671bcb7eec46b988644e87efa6504786978"), looks := false }, kinds := [], alts := [], laidByText := true, laidKinds := [.data, .data, .data], laidTests := true, laidLooks := .later }
def AlwaysCardSaid : Prop := Claim7.holds Tryz.pinned (.plain (OpenSpec.ofChange alwaysSpec)) alwaysCard

/-- THE TIED CARD OF 'circhecksays.Idle'. -/
def idleCard : Claim7 := { stood := { row := idleRow, standIns := [], harness := (true, "9a3c8432f2df7a88d33b28851ce43671bcb7eec46b988644e87efa6504786978"), looks := false }, kinds := [], alts := [], laidByText := true, laidKinds := [.data, .data, .data], laidTests := true, laidLooks := .later }
def IdleCardSaid : Prop := Claim7.holds Tryz.pinned (.plain (OpenSpec.ofChange idleSpec)) idleCard

/-- THE TIED CARD OF 'circhecksays.Wide'. -/
def wideCard : Claim7 := { stood := { row := wideRow, standIns := [], harness := (true, "9a3c8432f2df7a88d33b28851ce43671bcb7eec46b988644e87efa6504786978"), looks := false }, kinds := [], alts := [], laidByText := true, laidKinds := [.data, .data, .data], laidTests := true, laidLooks := .later }
def WideCardSaid : Prop := Claim7.holds Tryz.pinned (.plain (OpenSpec.ofChange wideSpec)) wideCard

/-- THE TIED CARD OF 'circhecksays.Faults'. -/
def faultsCard : Claim7 := { stood := { row := faultsRow, standIns := [], harness := (true, "9a3c8432f2df7a88d33b28851ce43671bcb7eec46b988644e87efa6504786978"), looks := false }, kinds := [], alts := [], laidByText := true, laidKinds := [.data, .data, .data], laidTests := true, laidLooks := .later }
def FaultsCardSaid : Prop := Claim7.holds Tryz.pinned (.plain (OpenSpec.ofChange faultsSpec)) faultsCard

/-- THE TIED CARD OF 'circhecksays.Forms'. -/
def formsCard : Claim7 := { stood := { row := formsRow, standIns := [], harness := (true, "9a3c8432f2df7a88d33b28851ce43671bcb7eec46b988644e87efa6504786978"), looks := false }, kinds := [], alts := [], laidByText := true, laidKinds := [.data, .data, .data], laidTests := true, laidLooks := .later }
def FormsCardSaid : Prop := Claim7.holds Tryz.pinned (.plain (OpenSpec.ofChange formsSpec)) formsCard

/-- THE TIED CARD OF 'circhecklaw.All'. -/
def allCard : Claim7 := { stood := { row := allRow, standIns := [], harness := (true, "9a3c8432f2df7a88d33b28851ce43671bcb7eec46b988644e87efa6504786978"), looks := false }, kinds := [], alts := [], laidByText := true, laidKinds := [.data, .data, .data], laidTests := true, laidLooks := .later }
def AllCardSaid : Prop := Claim7.holds Tryz.pinned (.plain (OpenSpec.ofChange allSpec)) allCard

/-- THE SECOND FORM's CARD OF 'circhecksays.Always'. -/
def alwaysUptoCard : Claim7 := { stood := { row := alwaysUptoRow, standIns := [], harness := (true, "9a3c8432f2df7a88d33b28851ce43671bcb7eec46b988644e87efa6504786978"), looks := false }, kinds := [], alts := [], laidByText := true, laidKinds := [.data, .data, .data], laidTests := true, laidLooks := .later }
def AlwaysUptoCardSaid : Prop := Claim7.holds Tryz.pinned (.plain (OpenSpec.upto alwaysSpec)) alwaysUptoCard

/-- THE SECOND FORM's CARD OF 'circhecksays.Idle'. -/
def idleUptoCard : Claim7 := { stood := { row := idleUptoRow, standIns := [], harness := (true, "9a3c8432f2df7a88d33b28851ce43671bcb7eec46b988644e87efa6504786978"), looks := false }, kinds := [], alts := [], laidByText := true, laidKinds := [.data, .data, .data], laidTests := true, laidLooks := .later }
def IdleUptoCardSaid : Prop := Claim7.holds Tryz.pinned (.plain (OpenSpec.upto idleSpec)) idleUptoCard

/-- THE SECOND FORM's CARD OF 'circhecksays.Wide'. -/
def wideUptoCard : Claim7 := { stood := { row := wideUptoRow, standIns := [], harness := (true, "9a3c8432f2df7a88d33b28851ce43671bcb7eec46b988644e87efa6504786978"), looks := false }, kinds := [], alts := [], laidByText := true, laidKinds := [.data, .data, .data], laidTests := true, laidLooks := .later }
def WideUptoCardSaid : Prop := Claim7.holds Tryz.pinned (.plain (OpenSpec.upto wideSpec)) wideUptoCard

/-- THE SECOND FORM's CARD OF 'circhecksays.Faults'. -/
def faultsUptoCard : Claim7 := { stood := { row := faultsUptoRow, standIns := [], harness := (true, "9a3c8432f2df7a88d33b28851ce43671bcb7eec46b988644e87efa6504786978"), looks := false }, kinds := [], alts := [], laidByText := true, laidKinds := [.data, .data, .data], laidTests := true, laidLooks := .later }
def FaultsUptoCardSaid : Prop := Claim7.holds Tryz.pinned (.plain (OpenSpec.upto faultsSpec)) faultsUptoCard

/-- THE SECOND FORM's CARD OF 'circhecksays.Forms'. -/
def formsUptoCard : Claim7 := { stood := { row := formsUptoRow, standIns := [], harness := (true, "9a3c8432f2df7a88d33b28851ce43671bcb7eec46b988644e87efa6504786978"), looks := false }, kinds := [], alts := [], laidByText := true, laidKinds := [.data, .data, .data], laidTests := true, laidLooks := .later }
def FormsUptoCardSaid : Prop := Claim7.holds Tryz.pinned (.plain (OpenSpec.upto formsSpec)) formsUptoCard

/-- THE SECOND FORM's CARD OF 'circhecklaw.All'. -/
def allUptoCard : Claim7 := { stood := { row := allUptoRow, standIns := [], harness := (true, "9a3c8432f2df7a88d33b28851ce43671bcb7eec46b988644e87efa6504786978"), looks := false }, kinds := [], alts := [], laidByText := true, laidKinds := [.data, .data, .data], laidTests := true, laidLooks := .later }
def AllUptoCardSaid : Prop := Claim7.holds Tryz.pinned (.plain (OpenSpec.upto allSpec)) allUptoCard
end Rows
end Go.Proofs.YtimdkminagnhgabGreatDoor
