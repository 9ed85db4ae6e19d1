import Derived.Laws.StructEq
import Derived.Test.YtaggciimacanbaaMGde
namespace Go.Proofs.Ytaggciimacanbaa.Fo
open Go.ChangeShapes Go.WideShapes Go.ChangeAt Go.RowKit
set_option linter.unusedVariables false
set_option maxRecDepth 100000
theorem em0 {x : ByteArray} (h : x = ⟨#[]⟩) : x.size = 0 := by rw [h]; rfl
end Go.Proofs.Ytaggciimacanbaa.Fo
