import Derived.Test.YtfpidccjcemcjaaVaj
import Derived.Test.YtfpidccjcemcjaaVak
namespace Go.Proofs.Ytfpidccjcemcjaa
open Go.ChangeShapes Go.WideShapes Go.ChangeAt Go.RowKit
set_option linter.unusedVariables false
set_option maxRecDepth 100000
attribute [local go_sem] run_equalIn_flt
/-- the values that count as true -/
def vtr (v : Vv) : Prop := vok v ∧ ¬ v.k = 0 ∧ (v.k = 1 → v.m = 1)
end Go.Proofs.Ytfpidccjcemcjaa
