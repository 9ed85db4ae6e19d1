/-
  No cell of these rows narrows 'for every input' (looked for: loops, veiled, ifaces, maps, wideKeys, modest, calm, conditions, laid).
  DERIVED. THE GIVEN ROWS OF THIS SEAT. 2 by the template 'for every input the law returns true; each argument reads behind the call as it read before'; 0 by the template 'total and deterministic' (their statements: YtipiahdcmjchjaaTotals.lean).
  GIVEN WITH THE SEED: the statements are not yours to turn. If you find one false, say at which input.
  Laid BY PROGRAM, IN A SANDBOX (cutbox-rows.mjs): the forced cells as the released guide's own fill.sh prints them over the translation 22fe5b6dd0f155a0… (all of the seat's roots in one cut). By AI agents, Wed Nov 11 2026. No macro, syntax, notation, axiom, sorry.
-/
import Derived.Test.YtipiahdcmjchjaaChecked
import GoSem.Claim
import GoSem.ClaimJoined
import GoSem.ClaimMapViews
import Derived.JoinedTies
import Derived.KernelRfl
namespace Go.Proofs.Ytipiahdcmjchjaa
/- THE CELL 'sum', in the pinned program and in every row, IS THE sha256 OF THE DUMP (.gsa) THAT YtipiahdcmjchjaaProg.lean LOADS. Nothing in Lean hashes anything: it is a label: what it is worth is what the hold of that sum in a sandbox is worth. -/
noncomputable def Try.pinned : Pinned := { name := "ytipiahdcmjchjaa", sum := "22fe5b6dd0f155a0b33dafc70f846d03ce3426cf8af1c91ba292705f6dae4399", checked := Try.checked }
namespace Rows
def none {H : Type} : Left H := { results := [], args := [] }

/-- 'laws.FnExactCheckUnit': WHATEVER THE INPUT: true; the input reads as it did. -/
def fnExactCheckUnitSpec : ChangeSpec := { name := "fnExactCheckUnit", fn := fun _ => fun
  | [d] => { results := [.lit (.bool true)], args := [d] }
  | _ => none }
def fnExactCheckUnitRow : OpenClaim := { program := "ytipiahdcmjchjaa", sum := "22fe5b6dd0f155a0b33dafc70f846d03ce3426cf8af1c91ba292705f6dae4399", func := "loop.example/heddle/laws.FnExactCheckUnit", spec := "fnExactCheckUnit", unfollowed := true, recurses := true, apart := false }
def FnExactCheckUnitSaid : Prop := fnExactCheckUnitRow.holds Try.pinned (OpenSpec.ofChange fnExactCheckUnitSpec)

/-- ITS FALSE NEIGHBOUR: 'it returns false'. Refute it at one input. -/
def fnExactCheckUnitWrong : ChangeSpec := { name := "fnExactCheckUnit", fn := fun _ => fun
  | [d] => { results := [.lit (.bool false)], args := [d] }
  | _ => none }
def FnExactCheckUnitWrongFalsely : Prop := fnExactCheckUnitRow.holds Try.pinned (OpenSpec.ofChange fnExactCheckUnitWrong)

/-- 'laws.FnExactInputOk': WHATEVER THE INPUT: true; the input reads as it did. -/
def fnExactInputOkSpec : ChangeSpec := { name := "fnExactInputOk", fn := fun _ => fun
  | [d] => { results := [.lit (.bool true)], args := [d] }
  | _ => none }
def fnExactInputOkRow : OpenClaim := { program := "ytipiahdcmjchjaa", sum := "22fe5b6dd0f155a0b33dafc70f846d03ce3426cf8af1c91ba292705f6dae4399", func := "loop.example/heddle/laws.FnExactInputOk", spec := "fnExactInputOk", unfollowed := true, recurses := true, apart := false }
def FnExactInputOkSaid : Prop := fnExactInputOkRow.holds Try.pinned (OpenSpec.ofChange fnExactInputOkSpec)

/-- ITS FALSE NEIGHBOUR: 'it returns false'. Refute it at one input. -/
def fnExactInputOkWrong : ChangeSpec := { name := "fnExactInputOk", fn := fun _ => fun
  | [d] => { results := [.lit (.bool false)], args := [d] }
  | _ => none }
def FnExactInputOkWrongFalsely : Prop := fnExactInputOkRow.holds Try.pinned (OpenSpec.ofChange fnExactInputOkWrong)

/- THE SECOND FORM. 'bulk': how many values and letters a reading holds, each counted each time it is reached (what is shared counts as often as it is met; a slice's spare places count too). A statement '..UptoSaid' is the law's where the arguments, and the package variables that the reading takes, are together of bulk at most 1048576: NARROWER than '..Said'. Prove '..Said' where nothing that the law and all that it calls make is longer than what came in: it says more and counts as full. Else prove '..UptoSaid'. A law counts once. -/
mutual
def uptoBulk {H : Type} : DataW H → Nat
  | .lit (.string bytes) => bytes.length + 1
  | .lit _ => 1
  | .nil => 1
  | .ptr d => uptoBulk d + 1
  | .slice elems spare => uptoBulkAll elems + uptoBulkAll spare + 1
  | .agg parts => uptoBulkAll parts + 1
  | .iface _ d => uptoBulk d + 1
  | .map entries => uptoBulkEntries entries + 1
  | .held _ => 1
def uptoBulkAll {H : Type} : List (DataW H) → Nat
  | [] => 0
  | d :: r => uptoBulk d + uptoBulkAll r
def uptoBulkEntries {H : Type} : List (Lit × DataW H) → Nat
  | [] => 0
  | x :: r => uptoBulkEntry x + uptoBulkEntries r
def uptoBulkEntry {H : Type} : Lit × DataW H → Nat
  | (.string bytes, d) => bytes.length + uptoBulk d + 1
  | (_, d) => uptoBulk d + 1
 end
def uptoSmall : (H : Type) → List (DataW H) → Bool := fun _ ds => decide (uptoBulkAll ds ≤ 1048576)
def OpenSpec.upto (s : _root_.Go.ChangeSpec) : _root_.Go.OpenSpec := { _root_.Go.OpenSpec.ofChange s with cond := some uptoSmall }

/-- 'laws.FnExactCheckUnit', WHERE WHAT IT READS IS OF BULK AT MOST 1048576: true; the input reads as it did. -/
def fnExactCheckUnitUptoRow : OpenClaim := { program := "ytipiahdcmjchjaa", sum := "22fe5b6dd0f155a0b33dafc70f846d03ce3426cf8af1c91ba292705f6dae4399", func := "loop.example/heddle/laws.FnExactCheckUnit", spec := "fnExactCheckUnit", unfollowed := true, recurses := true, apart := false, narrowed := true }
def FnExactCheckUnitUptoSaid : Prop := fnExactCheckUnitUptoRow.holds Try.pinned (OpenSpec.upto fnExactCheckUnitSpec)

/-- 'laws.FnExactInputOk', WHERE WHAT IT READS IS OF BULK AT MOST 1048576: true; the input reads as it did. -/
def fnExactInputOkUptoRow : OpenClaim := { program := "ytipiahdcmjchjaa", sum := "22fe5b6dd0f155a0b33dafc70f846d03ce3426cf8af1c91ba292705f6dae4399", func := "loop.example/heddle/laws.FnExactInputOk", spec := "fnExactInputOk", unfollowed := true, recurses := true, apart := false, narrowed := true }
def FnExactInputOkUptoSaid : Prop := fnExactInputOkUptoRow.holds Try.pinned (OpenSpec.upto fnExactInputOkSpec)

end Rows
end Go.Proofs.Ytipiahdcmjchjaa
