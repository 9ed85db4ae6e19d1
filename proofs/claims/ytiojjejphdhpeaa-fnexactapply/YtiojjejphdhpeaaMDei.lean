import Derived.Deep.RegionHeld3
import Derived.Test.YtiojjejphdhpeaaMDeh
import Derived.Test.YtiojjejphdhpeaaMDag
import Derived.Test.YtiojjejphdhpeaaMDch
namespace Go.Proofs.Ytiojjejphdhpeaa.Fo
open Go.ChangeShapes Go.WideShapes Go.ChangeAt Go.RowKit
set_option linter.unusedVariables false
set_option maxRecDepth 100000
/-- a disk as an answer -/
def DsP (D' : Dd) (w : World) (e : Ending) (w' : World) : Prop := ∃ u1 u2, e = .returned (.agg #[u1, u2]) ∧ OwD w.heap.size w'.heap.size w' u1 u2 D' ∧ Kb 0 w w'
theorem ow_none (K L H : Nat) (W : World) (F : Nat → Ed) : OwE K L H W (.slice none 0 0) 0 F 0 (fun _ => .slice none 0 0) (fun _ => 0) := ⟨⟨none, 0, rfl, fun q => by omega⟩, fun q => by omega, fun j hj => by omega, fun q => by omega, fun i hi => by omega, fun i hi => by omega, fun i j hi => by omega⟩
theorem ds_none {w w' : World} {e : Ending} (he : e = .returned (.agg #[.slice none 0 0, .slice none 0 0])) (k : Kb 0 w w') : DsP ⟨0, fun _ => zE, 0, fun _ => zE⟩ w e w' := ⟨_, _, he, ⟨w.heap.size, 0, _, _, 0, _, _, ow_none 1 _ _ _ _, ow_none 2 _ _ _ _, Nat.le_refl _, k.size⟩, k⟩
theorem bd_none : BdD ⟨0, fun _ => zE, 0, fun _ => zE⟩ := bd_of (by show dsz ⟨0, fun _ => zE, 0, fun _ => zE⟩ ≤ _; have : dsz ⟨0, fun _ => zE, 0, fun _ => zE⟩ = 0 := rfl; omega)
theorem bd_pages (P : Nat → Nat → Int) (Q : Nat → Ed) : BdD ⟨258, pE P, 0, Q⟩ := bd_of (by have : dsz ⟨258, pE P, 0, Q⟩ = 16770 := by kernel_rfl
                                                                                           omega)
end Go.Proofs.Ytiojjejphdhpeaa.Fo
