import Derived.Test.YtfpidccjcemcjaaVad
import Derived.Test.YtfpidccjcemcjaaVae
import Derived.Test.YtfpidccjcemcjaaVaf
import Derived.Test.YtfpidccjcemcjaaVag
import Derived.Test.YtfpidccjcemcjaaVah
import Derived.Test.YtfpidccjcemcjaaVai
namespace Go.Proofs.Ytfpidccjcemcjaa
open Go.ChangeShapes Go.WideShapes Go.ChangeAt Go.RowKit
set_option linter.unusedVariables false
set_option maxRecDepth 100000
theorem sp_ok (v : Vv) (hx : (v.x.size : Int) ≤ 1048576) (w : World) : Calls Try.prog 31 #[vv v] w fun e w' => e = .returned (.bool (dc (vok v))) ∧ Grown w w' := by
  by_cases hk : v.k = 0 ∨ v.k = 1 ∨ v.k = 2 ∨ v.k = 3 ∨ v.k = 4 ∨ v.k = 5 ∨ v.k = 6 ∨ v.k = 7 ∨ v.k = 8
  · rcases hk with hk | hk | hk | hk | hk | hk | hk | hk | hk
    · exact sp_ok0 v hk hx w
    · exact sp_ok1 v hk hx w
    · exact sp_ok2 v hk hx w
    · exact sp_ok3 v hk hx w
    · exact sp_ok4 v hk hx w
    · exact sp_ok5 v hk hx w
    · exact sp_ok6 v hk hx w
    · exact sp_ok7 v hk hx w
    · exact sp_ok8 v hk hx w
  · exact sp_okx v hk w
theorem im_ok (v : Vv) (hx : (v.x.size : Int) ≤ 1048576) (w : World) : Calls Try.prog 49 #[vv v] w fun e w' => e = .returned (.bool (dc (vok v))) ∧ Grown w w' := by
  by_cases hk : v.k = 0 ∨ v.k = 1 ∨ v.k = 2 ∨ v.k = 3 ∨ v.k = 4 ∨ v.k = 5 ∨ v.k = 6 ∨ v.k = 7 ∨ v.k = 8
  · rcases hk with hk | hk | hk | hk | hk | hk | hk | hk | hk
    · exact im_ok0 v hk hx w
    · exact im_ok1 v hk hx w
    · exact im_ok2 v hk hx w
    · exact im_ok3 v hk hx w
    · exact im_ok4 v hk hx w
    · exact im_ok5 v hk hx w
    · exact im_ok6 v hk hx w
    · exact im_ok7 v hk hx w
    · exact im_ok8 v hk hx w
  · exact im_okx v hk w
end Go.Proofs.Ytfpidccjcemcjaa
