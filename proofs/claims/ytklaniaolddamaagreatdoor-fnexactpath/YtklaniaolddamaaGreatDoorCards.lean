/-
  DERIVED. GIVEN WITH THE SEED: THE CARDS: each row of YtklaniaolddamaaGreatDoorRows.lean that lists a variable, with what it lists TIED to the program's text (the seventh form; the later family's looks); each row that meets fmt, with fmt's text TOLD by the authors' own Lean function (tested against real Go, not proved from fmt's source: count such statements apart). THE CARD IS WHAT COUNTS. Prove the row's statement (the work); the ties are given (YtklaniaolddamaaGreatDoorTie.lean); close each card by the builder's one call (the guide's Derived/Test/ToyasCard.lean, 'card_holds'). Laid BY PROGRAM, IN A SANDBOX (cutbox-door.mjs). By AI agents, Wed Nov 11 2026. No macro, syntax, notation, axiom, sorry.
-/
import Derived.Test.YtklaniaolddamaaGreatDoorRows
import GoSem.ClaimSeven
namespace Go.Proofs.YtklaniaolddamaaGreatDoor
namespace Rows

/-- THE TIED CARD OF 'laws.FnExactSheetOk'. -/
def fnExactSheetOkCard : Claim7 := { stood := { row := fnExactSheetOkRow, standIns := [], harness := (true, "a516f5b0d98ec938995f288c0baa92e563d2b6be751bc46695a7ab21c69d6154"), looks := true }, kinds := [], alts := [], laidByText := true, laidKinds := [.data, .data, .data, .sentinel, .sentinel, .data, .data, .data], laidTests := true, laidLooks := .later }
def FnExactSheetOkCardSaid : Prop := Claim7.holds Tryz.pinned (.plain (OpenSpec.ofChange fnExactSheetOkSpec)) fnExactSheetOkCard

/-- THE TIED CARD OF 'laws.FnExactPath'. -/
def fnExactPathCard : Claim7 := { stood := { row := fnExactPathRow, standIns := [], harness := (true, "a516f5b0d98ec938995f288c0baa92e563d2b6be751bc46695a7ab21c69d6154"), looks := true }, kinds := [], alts := [], laidByText := true, laidKinds := [.data, .data, .data, .sentinel, .sentinel, .data, .data, .data], laidTests := true, laidLooks := .later }
def FnExactPathCardSaid : Prop := Claim7.holds Tryz.pinned (.plain (OpenSpec.ofChange fnExactPathSpec)) fnExactPathCard

/-- THE TIED CARD OF 'laws.FnExactOutline'. -/
def fnExactOutlineCard : Claim7 := { stood := { row := fnExactOutlineRow, standIns := [], harness := (true, "a516f5b0d98ec938995f288c0baa92e563d2b6be751bc46695a7ab21c69d6154"), looks := true }, kinds := [], alts := [], laidByText := true, laidKinds := [.data, .data, .data, .sentinel, .sentinel, .data, .data, .data], laidTests := true, laidLooks := .later }
def FnExactOutlineCardSaid : Prop := Claim7.holds Tryz.pinned (.plain (OpenSpec.ofChange fnExactOutlineSpec)) fnExactOutlineCard

/-- THE TIED CARD OF 'laws.FnExactDump'. -/
def fnExactDumpCard : Claim7 := { stood := { row := fnExactDumpRow, standIns := [], harness := (true, "a516f5b0d98ec938995f288c0baa92e563d2b6be751bc46695a7ab21c69d6154"), looks := true }, kinds := [], alts := [], laidByText := true, laidKinds := [.data, .data, .data, .sentinel, .sentinel, .data, .data, .data], laidTests := true, laidLooks := .later }
def FnExactDumpCardSaid : Prop := Claim7.holds Tryz.pinned (.plain (OpenSpec.ofChange fnExactDumpSpec)) fnExactDumpCard

/-- THE SECOND FORM's CARD OF 'laws.FnExactSheetOk'. -/
def fnExactSheetOkUptoCard : Claim7 := { stood := { row := fnExactSheetOkUptoRow, standIns := [], harness := (true, "a516f5b0d98ec938995f288c0baa92e563d2b6be751bc46695a7ab21c69d6154"), looks := true }, kinds := [], alts := [], laidByText := true, laidKinds := [.data, .data, .data, .sentinel, .sentinel, .data, .data, .data], laidTests := true, laidLooks := .later }
def FnExactSheetOkUptoCardSaid : Prop := Claim7.holds Tryz.pinned (.plain (OpenSpec.upto fnExactSheetOkSpec)) fnExactSheetOkUptoCard

/-- THE SECOND FORM's CARD OF 'laws.FnExactPath'. -/
def fnExactPathUptoCard : Claim7 := { stood := { row := fnExactPathUptoRow, standIns := [], harness := (true, "a516f5b0d98ec938995f288c0baa92e563d2b6be751bc46695a7ab21c69d6154"), looks := true }, kinds := [], alts := [], laidByText := true, laidKinds := [.data, .data, .data, .sentinel, .sentinel, .data, .data, .data], laidTests := true, laidLooks := .later }
def FnExactPathUptoCardSaid : Prop := Claim7.holds Tryz.pinned (.plain (OpenSpec.upto fnExactPathSpec)) fnExactPathUptoCard

/-- THE SECOND FORM's CARD OF 'laws.FnExactOutline'. -/
def fnExactOutlineUptoCard : Claim7 := { stood := { row := fnExactOutlineUptoRow, standIns := [], harness := (true, "a516f5b0d98ec938995f288c0baa92e563d2b6be751bc46695a7ab21c69d6154"), looks := true }, kinds := [], alts := [], laidByText := true, laidKinds := [.data, .data, .data, .sentinel, .sentinel, .data, .data, .data], laidTests := true, laidLooks := .later }
def FnExactOutlineUptoCardSaid : Prop := Claim7.holds Tryz.pinned (.plain (OpenSpec.upto fnExactOutlineSpec)) fnExactOutlineUptoCard

/-- THE SECOND FORM's CARD OF 'laws.FnExactDump'. -/
def fnExactDumpUptoCard : Claim7 := { stood := { row := fnExactDumpUptoRow, standIns := [], harness := (true, "a516f5b0d98ec938995f288c0baa92e563d2b6be751bc46695a7ab21c69d6154"), looks := true }, kinds := [], alts := [], laidByText := true, laidKinds := [.data, .data, .data, .sentinel, .sentinel, .data, .data, .data], laidTests := true, laidLooks := .later }
def FnExactDumpUptoCardSaid : Prop := Claim7.holds Tryz.pinned (.plain (OpenSpec.upto fnExactDumpSpec)) fnExactDumpUptoCard
end Rows
end Go.Proofs.YtklaniaolddamaaGreatDoor
