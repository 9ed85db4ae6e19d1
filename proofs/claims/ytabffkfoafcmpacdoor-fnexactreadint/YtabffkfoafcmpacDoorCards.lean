/-
  DERIVED. GIVEN WITH THE SEED: THE CARDS: each row of YtabffkfoafcmpacDoorRows.lean that lists a variable, with what it lists TIED to the program's text (the seventh form; the later family's looks); each row that meets fmt, with fmt's text TOLD by the authors' own Lean function (tested against real Go, not proved from fmt's source: count such statements apart). THE CARD IS WHAT COUNTS. Prove the row's statement (the work); the ties are given (YtabffkfoafcmpacDoorTie.lean); close each card by the builder's one call (the guide's Derived/Test/ToyasCard.lean, 'card_holds'). Laid BY PROGRAM, IN A SANDBOX (cutbox-door.mjs). By AI agents, Wed Nov 11 2026. No macro, syntax, notation, axiom, sorry.
-/
import Derived.Test.YtabffkfoafcmpacDoorRows
import GoSem.ClaimSeven
namespace Go.Proofs.YtabffkfoafcmpacDoor
namespace Rows

/-- THE TIED CARD OF 'laws.FnExactWriteInt'. -/
def fnExactWriteIntCard : Claim7 := { stood := { row := fnExactWriteIntRow, standIns := [], harness := (true, "7d8833e04194314bb93980d125664c7fb061ea31fc02353133d22faef0a0f34e"), looks := true }, kinds := [], alts := [], laidByText := true, laidKinds := [.data, .data, .data], laidTests := true, laidLooks := .later }
def FnExactWriteIntCardSaid : Prop := Claim7.holds Tryd.pinned (.plain (OpenSpec.ofChange fnExactWriteIntSpec)) fnExactWriteIntCard

/-- THE TIED CARD OF 'laws.FnExactWriteBits'. -/
def fnExactWriteBitsCard : Claim7 := { stood := { row := fnExactWriteBitsRow, standIns := [], harness := (true, "7d8833e04194314bb93980d125664c7fb061ea31fc02353133d22faef0a0f34e"), looks := true }, kinds := [], alts := [], laidByText := true, laidKinds := [.data, .data, .data], laidTests := true, laidLooks := .later }
def FnExactWriteBitsCardSaid : Prop := Claim7.holds Tryd.pinned (.plain (OpenSpec.ofChange fnExactWriteBitsSpec)) fnExactWriteBitsCard

/-- THE TIED CARD OF 'laws.FnExactReadInt'. -/
def fnExactReadIntCard : Claim7 := { stood := { row := fnExactReadIntRow, standIns := [], harness := (true, "7d8833e04194314bb93980d125664c7fb061ea31fc02353133d22faef0a0f34e"), looks := true }, kinds := [], alts := [], laidByText := true, laidKinds := [.data, .data, .data, .sentinel, .sentinel], laidTests := true, laidLooks := .later }
def FnExactReadIntCardSaid : Prop := Claim7.holds Tryd.pinned (.plain (OpenSpec.ofChange fnExactReadIntSpec)) fnExactReadIntCard

/-- THE SECOND FORM's CARD OF 'laws.FnExactWriteInt'. -/
def fnExactWriteIntUptoCard : Claim7 := { stood := { row := fnExactWriteIntUptoRow, standIns := [], harness := (true, "7d8833e04194314bb93980d125664c7fb061ea31fc02353133d22faef0a0f34e"), looks := true }, kinds := [], alts := [], laidByText := true, laidKinds := [.data, .data, .data], laidTests := true, laidLooks := .later }
def FnExactWriteIntUptoCardSaid : Prop := Claim7.holds Tryd.pinned (.plain (OpenSpec.upto fnExactWriteIntSpec)) fnExactWriteIntUptoCard

/-- THE SECOND FORM's CARD OF 'laws.FnExactWriteBits'. -/
def fnExactWriteBitsUptoCard : Claim7 := { stood := { row := fnExactWriteBitsUptoRow, standIns := [], harness := (true, "7d8833e04194314bb93980d125664c7fb061ea31fc02353133d22faef0a0f34e"), looks := true }, kinds := [], alts := [], laidByText := true, laidKinds := [.data, .data, .data], laidTests := true, laidLooks := .later }
def FnExactWriteBitsUptoCardSaid : Prop := Claim7.holds Tryd.pinned (.plain (OpenSpec.upto fnExactWriteBitsSpec)) fnExactWriteBitsUptoCard

/-- THE SECOND FORM's CARD OF 'laws.FnExactReadInt'. -/
def fnExactReadIntUptoCard : Claim7 := { stood := { row := fnExactReadIntUptoRow, standIns := [], harness := (true, "7d8833e04194314bb93980d125664c7fb061ea31fc02353133d22faef0a0f34e"), looks := true }, kinds := [], alts := [], laidByText := true, laidKinds := [.data, .data, .data, .sentinel, .sentinel], laidTests := true, laidLooks := .later }
def FnExactReadIntUptoCardSaid : Prop := Claim7.holds Tryd.pinned (.plain (OpenSpec.upto fnExactReadIntSpec)) fnExactReadIntUptoCard
end Rows
end Go.Proofs.YtabffkfoafcmpacDoor
