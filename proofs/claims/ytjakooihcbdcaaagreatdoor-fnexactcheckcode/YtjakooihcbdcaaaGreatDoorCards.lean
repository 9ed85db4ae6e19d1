/-
  DERIVED. GIVEN WITH THE SEED: THE CARDS: each row of YtjakooihcbdcaaaGreatDoorRows.lean that lists a variable, with what it lists TIED to the program's text (the seventh form; the later family's looks); each row that meets fmt, with fmt's text TOLD by the authors' own Lean function (tested against real Go, not proved from fmt's source: count such statements apart). THE CARD IS WHAT COUNTS. Prove the row's statement (the work); the ties are given (YtjakooihcbdcaaaGreatDoorTie.lean); close each card by the builder's one call (the guide's Derived/Test/ToyasCard.lean, 'card_holds'). Laid BY PROGRAM, IN A SANDBOX (cutbox-door.mjs). By AI agents, Wed Nov 11 2026. No macro, syntax, notation, axiom, sorry.
-/
import Derived.Test.YtjakooihcbdcaaaGreatDoorRows
import GoSem.ClaimSeven
namespace Go.Proofs.YtjakooihcbdcaaaGreatDoor
namespace Rows

/-- THE TIED CARD OF 'laws.FnExactCheckCode'. -/
def fnExactCheckCodeCard : Claim7 := { stood := { row := fnExactCheckCodeRow, standIns := [], harness := (true, "7833888e542b17fbd8aec5de4b214e5035e26fe709c1b965112030bf01bac773"), looks := false }, kinds := [], alts := [], laidByText := true, laidKinds := [.data], laidTests := true, laidLooks := .later }
def FnExactCheckCodeCardSaid : Prop := Claim7.holds Tryz.pinned (.plain (OpenSpec.ofChange fnExactCheckCodeSpec)) fnExactCheckCodeCard

/-- THE TIED CARD OF 'laws.FnExactStates'. -/
def fnExactStatesCard : Claim7 := { stood := { row := fnExactStatesRow, standIns := [], harness := (true, "7833888e542b17fbd8aec5de4b214e5035e26fe709c1b965112030bf01bac773"), looks := false }, kinds := [], alts := [], laidByText := true, laidKinds := [.data], laidTests := true, laidLooks := .later }
def FnExactStatesCardSaid : Prop := Claim7.holds Tryz.pinned (.plain (OpenSpec.ofChange fnExactStatesSpec)) fnExactStatesCard

/-- THE TIED CARD OF 'laws.FnExactPrepare'. -/
def fnExactPrepareCard : Claim7 := { stood := { row := fnExactPrepareRow, standIns := [], harness := (true, "7833888e542b17fbd8aec5de4b214e5035e26fe709c1b965112030bf01bac773"), looks := false }, kinds := [], alts := [], laidByText := true, laidKinds := [.data], laidTests := true, laidLooks := .later }
def FnExactPrepareCardSaid : Prop := Claim7.holds Tryz.pinned (.plain (OpenSpec.ofChange fnExactPrepareSpec)) fnExactPrepareCard

/-- THE TIED CARD OF 'laws.FnExactQuickListing'. -/
def fnExactQuickListingCard : Claim7 := { stood := { row := fnExactQuickListingRow, standIns := [], harness := (true, "7833888e542b17fbd8aec5de4b214e5035e26fe709c1b965112030bf01bac773"), looks := false }, kinds := [], alts := [], laidByText := true, laidKinds := [.data, .data, .data, .data, .data], laidTests := true, laidLooks := .later }
def FnExactQuickListingCardSaid : Prop := Claim7.holds Tryz.pinned (.plain (OpenSpec.ofChange fnExactQuickListingSpec)) fnExactQuickListingCard

/-- THE SECOND FORM's CARD OF 'laws.FnExactCheckCode'. -/
def fnExactCheckCodeUptoCard : Claim7 := { stood := { row := fnExactCheckCodeUptoRow, standIns := [], harness := (true, "7833888e542b17fbd8aec5de4b214e5035e26fe709c1b965112030bf01bac773"), looks := false }, kinds := [], alts := [], laidByText := true, laidKinds := [.data], laidTests := true, laidLooks := .later }
def FnExactCheckCodeUptoCardSaid : Prop := Claim7.holds Tryz.pinned (.plain (OpenSpec.upto fnExactCheckCodeSpec)) fnExactCheckCodeUptoCard

/-- THE SECOND FORM's CARD OF 'laws.FnExactStates'. -/
def fnExactStatesUptoCard : Claim7 := { stood := { row := fnExactStatesUptoRow, standIns := [], harness := (true, "7833888e542b17fbd8aec5de4b214e5035e26fe709c1b965112030bf01bac773"), looks := false }, kinds := [], alts := [], laidByText := true, laidKinds := [.data], laidTests := true, laidLooks := .later }
def FnExactStatesUptoCardSaid : Prop := Claim7.holds Tryz.pinned (.plain (OpenSpec.upto fnExactStatesSpec)) fnExactStatesUptoCard

/-- THE SECOND FORM's CARD OF 'laws.FnExactPrepare'. -/
def fnExactPrepareUptoCard : Claim7 := { stood := { row := fnExactPrepareUptoRow, standIns := [], harness := (true, "7833888e542b17fbd8aec5de4b214e5035e26fe709c1b965112030bf01bac773"), looks := false }, kinds := [], alts := [], laidByText := true, laidKinds := [.data], laidTests := true, laidLooks := .later }
def FnExactPrepareUptoCardSaid : Prop := Claim7.holds Tryz.pinned (.plain (OpenSpec.upto fnExactPrepareSpec)) fnExactPrepareUptoCard

/-- THE SECOND FORM's CARD OF 'laws.FnExactQuickListing'. -/
def fnExactQuickListingUptoCard : Claim7 := { stood := { row := fnExactQuickListingUptoRow, standIns := [], harness := (true, "7833888e542b17fbd8aec5de4b214e5035e26fe709c1b965112030bf01bac773"), looks := false }, kinds := [], alts := [], laidByText := true, laidKinds := [.data, .data, .data, .data, .data], laidTests := true, laidLooks := .later }
def FnExactQuickListingUptoCardSaid : Prop := Claim7.holds Tryz.pinned (.plain (OpenSpec.upto fnExactQuickListingSpec)) fnExactQuickListingUptoCard
end Rows
end Go.Proofs.YtjakooihcbdcaaaGreatDoor
