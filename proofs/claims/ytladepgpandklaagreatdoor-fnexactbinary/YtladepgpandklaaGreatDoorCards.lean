/-
  DERIVED. GIVEN WITH THE SEED: THE CARDS: each row of YtladepgpandklaaGreatDoorRows.lean that lists a variable, with what it lists TIED to the program's text (the seventh form; the later family's looks); each row that meets fmt, with fmt's text TOLD by the authors' own Lean function (tested against real Go, not proved from fmt's source: count such statements apart). THE CARD IS WHAT COUNTS. Prove the row's statement (the work); the ties are given (YtladepgpandklaaGreatDoorTie.lean); close each card by the builder's one call (the guide's Derived/Test/ToyasCard.lean, 'card_holds'). Laid BY PROGRAM, IN A SANDBOX (cutbox-door.mjs). By AI agents, Wed Nov 11 2026. No macro, syntax, notation, axiom, sorry.
-/
import Derived.Test.YtladepgpandklaaGreatDoorRows
import GoSem.ClaimSeven
namespace Go.Proofs.YtladepgpandklaaGreatDoor
namespace Rows

/-- THE TIED CARD OF 'laws.FnExactBinary'. -/
def fnExactBinaryCard : Claim7 := { stood := { row := fnExactBinaryRow, standIns := [], harness := (true, "f74c06fe67b0d3a0fb993ea40e19e7a5032b8c8f5fbd4cba2f1ccc0d32f9e54c"), looks := false }, kinds := [], alts := [], laidByText := true, laidKinds := [.data, .data, .data], laidTests := true, laidLooks := .later }
def FnExactBinaryCardSaid : Prop := Claim7.holds Tryz.pinned (.plain (OpenSpec.ofChange fnExactBinarySpec)) fnExactBinaryCard

/-- THE SECOND FORM's CARD OF 'laws.FnExactBinary'. -/
def fnExactBinaryUptoCard : Claim7 := { stood := { row := fnExactBinaryUptoRow, standIns := [], harness := (true, "f74c06fe67b0d3a0fb993ea40e19e7a5032b8c8f5fbd4cba2f1ccc0d32f9e54c"), looks := false }, kinds := [], alts := [], laidByText := true, laidKinds := [.data, .data, .data], laidTests := true, laidLooks := .later }
def FnExactBinaryUptoCardSaid : Prop := Claim7.holds Tryz.pinned (.plain (OpenSpec.upto fnExactBinarySpec)) fnExactBinaryUptoCard
end Rows
end Go.Proofs.YtladepgpandklaaGreatDoor
