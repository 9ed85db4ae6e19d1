/-
  DERIVED. GIVEN WITH THE SEED: THE CARDS: each row of YtgocahalfanpjaaDoorRows.lean that lists a variable, with what it lists TIED to the program's text (the seventh form; the later family's looks); each row that meets fmt, with fmt's text TOLD by the authors' own Lean function (tested against real Go, not proved from fmt's source: count such statements apart). THE CARD IS WHAT COUNTS. Prove the row's statement (the work); the ties are given (YtgocahalfanpjaaDoorTie.lean); close each card by the builder's one call (the guide's Derived/Test/ToyasCard.lean, 'card_holds'). Laid BY PROGRAM, IN A SANDBOX (cutbox-door.mjs). By AI agents, Wed Nov 11 2026. No macro, syntax, notation, axiom, sorry.
-/
import Derived.Test.YtgocahalfanpjaaDoorRows
import GoSem.ClaimSeven
namespace Go.Proofs.YtgocahalfanpjaaDoor
namespace Rows

/-- THE TIED CARD OF 'laws.FnExactWithin'. -/
def fnExactWithinCard : Claim7 := { stood := { row := fnExactWithinRow, standIns := [], harness := (true, "686f05960de9e5c406ef35d6bf741f0d23417cecfae2c8f2e3e55bd564198dfc"), looks := false }, kinds := [], alts := [], laidByText := true, laidKinds := [.data, .pinned], laidTests := true, laidLooks := .later }
def FnExactWithinCardSaid : Prop := Claim7.holds Tryd.pinned (.plain (OpenSpec.ofChange fnExactWithinSpec)) fnExactWithinCard

/-- THE TIED CARD OF 'laws.FnExactTries'. -/
def fnExactTriesCard : Claim7 := { stood := { row := fnExactTriesRow, standIns := [], harness := (true, "686f05960de9e5c406ef35d6bf741f0d23417cecfae2c8f2e3e55bd564198dfc"), looks := false }, kinds := [], alts := [], laidByText := true, laidKinds := [.data, .pinned], laidTests := true, laidLooks := .later }
def FnExactTriesCardSaid : Prop := Claim7.holds Tryd.pinned (.plain (OpenSpec.ofChange fnExactTriesSpec)) fnExactTriesCard

/-- THE SECOND FORM's CARD OF 'laws.FnExactWithin'. -/
def fnExactWithinUptoCard : Claim7 := { stood := { row := fnExactWithinUptoRow, standIns := [], harness := (true, "686f05960de9e5c406ef35d6bf741f0d23417cecfae2c8f2e3e55bd564198dfc"), looks := false }, kinds := [], alts := [], laidByText := true, laidKinds := [.data, .pinned], laidTests := true, laidLooks := .later }
def FnExactWithinUptoCardSaid : Prop := Claim7.holds Tryd.pinned (.plain (OpenSpec.upto fnExactWithinSpec)) fnExactWithinUptoCard

/-- THE SECOND FORM's CARD OF 'laws.FnExactTries'. -/
def fnExactTriesUptoCard : Claim7 := { stood := { row := fnExactTriesUptoRow, standIns := [], harness := (true, "686f05960de9e5c406ef35d6bf741f0d23417cecfae2c8f2e3e55bd564198dfc"), looks := false }, kinds := [], alts := [], laidByText := true, laidKinds := [.data, .pinned], laidTests := true, laidLooks := .later }
def FnExactTriesUptoCardSaid : Prop := Claim7.holds Tryd.pinned (.plain (OpenSpec.upto fnExactTriesSpec)) fnExactTriesUptoCard
end Rows
end Go.Proofs.YtgocahalfanpjaaDoor
