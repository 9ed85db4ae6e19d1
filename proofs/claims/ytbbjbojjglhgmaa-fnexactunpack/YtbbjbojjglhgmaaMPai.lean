import Derived.Test.YtbbjbojjglhgmaaMPah
namespace Go.Proofs.Ytbbjbojjglhgmaa.Fo
open Go.ChangeShapes Go.WideShapes Go.ChangeAt Go.RowKit
set_option linter.unusedVariables false
set_option maxRecDepth 100000
theorem pfl_len {n : Nat} {F : Nat → Td} {a : Gv} (hG : Gok n F a) (hr : Rg n F a) : (pfl n F a).length ≤ 800000000 := by
  have hgb := gb_of hG hr
  have h1 := gb_head hgb
  have h2 := gb_nodes hgb _ (Nat.le_refl _)
  unfold pfl pbd gbl
  rw [List.length_append, eig_len, ← List.append_assoc, List.length_append]
  omega
end Go.Proofs.Ytbbjbojjglhgmaa.Fo
