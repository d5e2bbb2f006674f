/-
  DERIVED. GIVEN WITH THE SEED: THE CARDS: each row of YtimdkminagnhgaaGreatDoorRows.lean that lists a variable, with what it lists TIED to the program's text (the seventh form; the later family's looks); each row that meets fmt, with fmt's text TOLD by the authors' own Lean function (tested against real Go, not proved from fmt's source: count such statements apart). THE CARD IS WHAT COUNTS. Prove the row's statement (the work); the ties are given (YtimdkminagnhgaaGreatDoorTie.lean); close each card by the builder's one call (the guide's Derived/Test/ToyasCard.lean, 'card_holds'). Laid BY PROGRAM, IN A SANDBOX (cutbox-door.mjs). By AI agents, Wed Nov 11 2026. No macro, syntax, notation, axiom, sorry.
-/
import Derived.Test.YtimdkminagnhgaaGreatDoorRows
import GoSem.ClaimSeven
namespace Go.Proofs.YtimdkminagnhgaaGreatDoor
namespace Rows

/-- THE TIED CARD OF 'circhecklaw.Reads'. -/
def readsCard : Claim7 := { stood := { row := readsRow, standIns := [], harness := (true, "131303ee424c31930012cc834d997908c510ff6fc664ef21dab11f3fa8bb4ab4"), looks := false }, kinds := [], alts := [], laidByText := true, laidKinds := [.data, .data, .data], laidTests := true, laidLooks := .later }
def ReadsCardSaid : Prop := Claim7.holds Tryz.pinned (.plain (OpenSpec.ofChange readsSpec)) readsCard

/-- THE TIED CARD OF 'circhecklaw.Prints'. -/
def printsCard : Claim7 := { stood := { row := printsRow, standIns := [], harness := (true, "131303ee424c31930012cc834d997908c510ff6fc664ef21dab11f3fa8bb4ab4"), looks := false }, kinds := [], alts := [], laidByText := true, laidKinds := [.data, .data, .data], laidTests := true, laidLooks := .later }
def PrintsCardSaid : Prop := Claim7.holds Tryz.pinned (.plain (OpenSpec.ofChange printsSpec)) printsCard

/-- THE TIED CARD OF 'circhecklaw.Steps'. -/
def stepsCard : Claim7 := { stood := { row := stepsRow, standIns := [], harness := (true, "131303ee424c31930012cc834d997908c510ff6fc664ef21dab11f3fa8bb4ab4"), looks := false }, kinds := [], alts := [], laidByText := true, laidKinds := [.data, .data, .data], laidTests := true, laidLooks := .later }
def StepsCardSaid : Prop := Claim7.holds Tryz.pinned (.plain (OpenSpec.ofChange stepsSpec)) stepsCard

/-- THE TIED CARD OF 'circhecklaw.Solves'. -/
def solvesCard : Claim7 := { stood := { row := solvesRow, standIns := [], harness := (true, "131303ee424c31930012cc834d997908c510ff6fc664ef21dab11f3fa8bb4ab4"), looks := false }, kinds := [], alts := [], laidByText := true, laidKinds := [.data, .data, .data], laidTests := true, laidLooks := .later }
def SolvesCardSaid : Prop := Claim7.holds Tryz.pinned (.plain (OpenSpec.ofChange solvesSpec)) solvesCard

/-- THE TIED CARD OF 'circhecklaw.Runs'. -/
def runsCard : Claim7 := { stood := { row := runsRow, standIns := [], harness := (true, "131303ee424c31930012cc834d997908c510ff6fc664ef21dab11f3fa8bb4ab4"), looks := false }, kinds := [], alts := [], laidByText := true, laidKinds := [.data, .data, .data], laidTests := true, laidLooks := .later }
def RunsCardSaid : Prop := Claim7.holds Tryz.pinned (.plain (OpenSpec.ofChange runsSpec)) runsCard

/-- THE TIED CARD OF 'circhecklaw.Raw'. -/
def rawCard : Claim7 := { stood := { row := rawRow, standIns := [], harness := (true, "131303ee424c31930012cc834d997908c510ff6fc664ef21dab11f3fa8bb4ab4"), looks := false }, kinds := [], alts := [], laidByText := true, laidKinds := [.data, .data, .data], laidTests := true, laidLooks := .later }
def RawCardSaid : Prop := Claim7.holds Tryz.pinned (.plain (OpenSpec.ofChange rawSpec)) rawCard

/-- THE TIED CARD OF 'circhecksays.Counter'. -/
def counterCard : Claim7 := { stood := { row := counterRow, standIns := [], harness := (true, "131303ee424c31930012cc834d997908c510ff6fc664ef21dab11f3fa8bb4ab4"), looks := false }, kinds := [], alts := [], laidByText := true, laidKinds := [.data, .data, .data], laidTests := true, laidLooks := .later }
def CounterCardSaid : Prop := Claim7.holds Tryz.pinned (.plain (OpenSpec.ofChange counterSpec)) counterCard

/-- THE TIED CARD OF 'circhecksays.Even'. -/
def evenCard : Claim7 := { stood := { row := evenRow, standIns := [], harness := (true, "131303ee424c31930012cc834d997908c510ff6fc664ef21dab11f3fa8bb4ab4"), looks := false }, kinds := [], alts := [], laidByText := true, laidKinds := [.data, .data, .data], laidTests := true, laidLooks := .later }
def EvenCardSaid : Prop := Claim7.holds Tryz.pinned (.plain (OpenSpec.ofChange evenSpec)) evenCard

/-- THE TIED CARD OF 'circhecksays.Shift'. -/
def shiftCard : Claim7 := { stood := { row := shiftRow, standIns := [], harness := (true, "131303ee424c31930012cc834d997908c510ff6fc664ef21dab11f3fa8bb4ab4"), looks := false }, kinds := [], alts := [], laidByText := true, laidKinds := [.data, .data, .data], laidTests := true, laidLooks := .later }
def ShiftCardSaid : Prop := Claim7.holds Tryz.pinned (.plain (OpenSpec.ofChange shiftSpec)) shiftCard

/-- THE TIED CARD OF 'circhecksays.Lock'. -/
def lockCard : Claim7 := { stood := { row := lockRow, standIns := [], harness := (true, "131303ee424c31930012cc834d997908c510ff6fc664ef21dab11f3fa8bb4ab4"), looks := false }, kinds := [], alts := [], laidByText := true, laidKinds := [.data, .data, .data], laidTests := true, laidLooks := .later }
def LockCardSaid : Prop := Claim7.holds Tryz.pinned (.plain (OpenSpec.ofChange lockSpec)) lockCard

/-- THE TIED CARD OF 'circhecksays.Ring'. -/
def ringCard : Claim7 := { stood := { row := ringRow, standIns := [], harness := (true, "131303ee424c31930012cc834d997908c510ff6fc664ef21dab11f3fa8bb4ab4"), looks := false }, kinds := [], alts := [], laidByText := true, laidKinds := [.data, .data, .data], laidTests := true, laidLooks := .later }
def RingCardSaid : Prop := Claim7.holds Tryz.pinned (.plain (OpenSpec.ofChange ringSpec)) ringCard

/-- THE TIED CARD OF 'circhecksays.Free'. -/
def freeCard : Claim7 := { stood := { row := freeRow, standIns := [], harness := (true, "131303ee424c31930012cc834d997908c510ff6fc664ef21dab11f3fa8bb4ab4"), looks := false }, kinds := [], alts := [], laidByText := true, laidKinds := [.data, .data, .data], laidTests := true, laidLooks := .later }
def FreeCardSaid : Prop := Claim7.holds Tryz.pinned (.plain (OpenSpec.ofChange freeSpec)) freeCard

/-- THE SECOND FORM's CARD OF 'circhecklaw.Reads'. -/
def readsUptoCard : Claim7 := { stood := { row := readsUptoRow, standIns := [], harness := (true, "131303ee424c31930012cc834d997908c510ff6fc664ef21dab11f3fa8bb4ab4"), looks := false }, kinds := [], alts := [], laidByText := true, laidKinds := [.data, .data, .data], laidTests := true, laidLooks := .later }
def ReadsUptoCardSaid : Prop := Claim7.holds Tryz.pinned (.plain (OpenSpec.upto readsSpec)) readsUptoCard

/-- THE SECOND FORM's CARD OF 'circhecklaw.Prints'. -/
def printsUptoCard : Claim7 := { stood := { row := printsUptoRow, standIns := [], harness := (true, "131303ee424c31930012cc834d997908c510ff6fc664ef21dab11f3fa8bb4ab4"), looks := false }, kinds := [], alts := [], laidByText := true, laidKinds := [.data, .data, .data], laidTests := true, laidLooks := .later }
def PrintsUptoCardSaid : Prop := Claim7.holds Tryz.pinned (.plain (OpenSpec.upto printsSpec)) printsUptoCard

/-- THE SECOND FORM's CARD OF 'circhecklaw.Steps'. -/
def stepsUptoCard : Claim7 := { stood := { row := stepsUptoRow, standIns := [], harness := (true, "131303ee424c31930012cc834d997908c510ff6fc664ef21dab11f3fa8bb4ab4"), looks := false }, kinds := [], alts := [], laidByText := true, laidKinds := [.data, .data, .data], laidTests := true, laidLooks := .later }
def StepsUptoCardSaid : Prop := Claim7.holds Tryz.pinned (.plain (OpenSpec.upto stepsSpec)) stepsUptoCard

/-- THE SECOND FORM's CARD OF 'circhecklaw.Solves'. -/
def solvesUptoCard : Claim7 := { stood := { row := solvesUptoRow, standIns := [], harness := (true, "131303ee424c31930012cc834d997908c510ff6fc664ef21dab11f3fa8bb4ab4"), looks := false }, kinds := [], alts := [], laidByText := true, laidKinds := [.data, .data, .data], laidTests := true, laidLooks := .later }
def SolvesUptoCardSaid : Prop := Claim7.holds Tryz.pinned (.plain (OpenSpec.upto solvesSpec)) solvesUptoCard

/-- THE SECOND FORM's CARD OF 'circhecklaw.Runs'. -/
def runsUptoCard : Claim7 := { stood := { row := runsUptoRow, standIns := [], harness := (true, "131303ee424c31930012cc834d997908c510ff6fc664ef21dab11f3fa8bb4ab4"), looks := false }, kinds := [], alts := [], laidByText := true, laidKinds := [.data, .data, .data], laidTests := true, laidLooks := .later }
def RunsUptoCardSaid : Prop := Claim7.holds Tryz.pinned (.plain (OpenSpec.upto runsSpec)) runsUptoCard

/-- THE SECOND FORM's CARD OF 'circhecklaw.Raw'. -/
def rawUptoCard : Claim7 := { stood := { row := rawUptoRow, standIns := [], harness := (true, "131303ee424c31930012cc834d997908c510ff6fc664ef21dab11f3fa8bb4ab4"), looks := false }, kinds := [], alts := [], laidByText := true, laidKinds := [.data, .data, .data], laidTests := true, laidLooks := .later }
def RawUptoCardSaid : Prop := Claim7.holds Tryz.pinned (.plain (OpenSpec.upto rawSpec)) rawUptoCard

/-- THE SECOND FORM's CARD OF 'circhecksays.Counter'. -/
def counterUptoCard : Claim7 := { stood := { row := counterUptoRow, standIns := [], harness := (true, "131303ee424c31930012cc834d997908c510ff6fc664ef21dab11f3fa8bb4ab4"), looks := false }, kinds := [], alts := [], laidByText := true, laidKinds := [.data, .data, .data], laidTests := true, laidLooks := .later }
def CounterUptoCardSaid : Prop := Claim7.holds Tryz.pinned (.plain (OpenSpec.upto counterSpec)) counterUptoCard

/-- THE SECOND FORM's CARD OF 'circhecksays.Even'. -/
def evenUptoCard : Claim7 := { stood := { row := evenUptoRow, standIns := [], harness := (true, "131303ee424c31930012cc834d997908c510ff6fc664ef21dab11f3fa8bb4ab4"), looks := false }, kinds := [], alts := [], laidByText := true, laidKinds := [.data, .data, .data], laidTests := true, laidLooks := .later }
def EvenUptoCardSaid : Prop := Claim7.holds Tryz.pinned (.plain (OpenSpec.upto evenSpec)) evenUptoCard

/-- THE SECOND FORM's CARD OF 'circhecksays.Shift'. -/
def shiftUptoCard : Claim7 := { stood := { row := shiftUptoRow, standIns := [], harness := (true, "131303ee424c31930012cc834d997908c510ff6fc664ef21dab11f3fa8bb4ab4"), looks := false }, kinds := [], alts := [], laidByText := true, laidKinds := [.data, .data, .data], laidTests := true, laidLooks := .later }
def ShiftUptoCardSaid : Prop := Claim7.holds Tryz.pinned (.plain (OpenSpec.upto shiftSpec)) shiftUptoCard

/-- THE SECOND FORM's CARD OF 'circhecksays.Lock'. -/
def lockUptoCard : Claim7 := { stood := { row := lockUptoRow, standIns := [], harness := (true, "131303ee424c31930012cc834d997908c510ff6fc664ef21dab11f3fa8bb4ab4"), looks := false }, kinds := [], alts := [], laidByText := true, laidKinds := [.data, .data, .data], laidTests := true, laidLooks := .later }
def LockUptoCardSaid : Prop := Claim7.holds Tryz.pinned (.plain (OpenSpec.upto lockSpec)) lockUptoCard

/-- THE SECOND FORM's CARD OF 'circhecksays.Ring'. -/
def ringUptoCard : Claim7 := { stood := { row := ringUptoRow, standIns := [], harness := (true, "131303ee424c31930012cc834d997908c510ff6fc664ef21dab11f3fa8bb4ab4"), looks := false }, kinds := [], alts := [], laidByText := true, laidKinds := [.data, .data, .data], laidTests := true, laidLooks := .later }
def RingUptoCardSaid : Prop := Claim7.holds Tryz.pinned (.plain (OpenSpec.upto ringSpec)) ringUptoCard

/-- THE SECOND FORM's CARD OF 'circhecksays.Free'. -/
def freeUptoCard : Claim7 := { stood := { row := freeUptoRow, standIns := [], harness := (true, "131303ee424c31930012cc834d997908c510ff6fc664ef21dab11f3fa8bb4ab4"), looks := false }, kinds := [], alts := [], laidByText := true, laidKinds := [.data, .data, .data], laidTests := true, laidLooks := .later }
def FreeUptoCardSaid : Prop := Claim7.holds Tryz.pinned (.plain (OpenSpec.upto freeSpec)) freeUptoCard
end Rows
end Go.Proofs.YtimdkminagnhgaaGreatDoor
