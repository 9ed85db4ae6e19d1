/-
  DERIVED. GIVEN WITH THE SEED: THE CARDS: each row of YtohbcpfjjimdnaaGreatDoorRows.lean that lists a variable, with what it lists TIED to the program's text (the seventh form; the later family's looks); each row that meets fmt, with fmt's text TOLD by the authors' own Lean function (tested against real Go, not proved from fmt's source: count such statements apart). THE CARD IS WHAT COUNTS. Prove the row's statement (the work); the ties are given (YtohbcpfjjimdnaaGreatDoorTie.lean); close each card by the builder's one call (the guide's Derived/Test/ToyasCard.lean, 'card_holds'). Laid BY PROGRAM, IN A SANDBOX (cutbox-door.mjs). By AI agents, Wed Nov 11 2026. No macro, syntax, notation, axiom, sorry.
-/
import Derived.Test.YtohbcpfjjimdnaaGreatDoorRows
import GoSem.ClaimSeven
namespace Go.Proofs.YtohbcpfjjimdnaaGreatDoor
namespace Rows

/-- THE TIED CARD OF 'laws.FnExactStates'. -/
def fnExactStatesCard : Claim7 := { stood := { row := fnExactStatesRow, standIns := [], harness := (true, "7cb87163532fd180cf4a3fded39a620f4a0c3fd34f9eada4b13b41776def2062"), looks := false }, kinds := [], alts := [], laidByText := true, laidKinds := [.data], laidTests := true, laidLooks := .later }
def FnExactStatesCardSaid : Prop := Claim7.holds Tryz.pinned (.plain (OpenSpec.ofChange fnExactStatesSpec)) fnExactStatesCard

/-- THE SECOND FORM's CARD OF 'laws.FnExactStates'. -/
def fnExactStatesUptoCard : Claim7 := { stood := { row := fnExactStatesUptoRow, standIns := [], harness := (true, "7cb87163532fd180cf4a3fded39a620f4a0c3fd34f9eada4b13b41776def2062"), looks := false }, kinds := [], alts := [], laidByText := true, laidKinds := [.data], laidTests := true, laidLooks := .later }
def FnExactStatesUptoCardSaid : Prop := Claim7.holds Tryz.pinned (.plain (OpenSpec.upto fnExactStatesSpec)) fnExactStatesUptoCard
end Rows
end Go.Proofs.YtohbcpfjjimdnaaGreatDoor
