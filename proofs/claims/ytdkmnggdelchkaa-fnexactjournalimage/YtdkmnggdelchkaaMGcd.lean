import Derived.Deep.RegionHeldLaw
import Derived.Test.YtdkmnggdelchkaaMGca
import Derived.Test.YtdkmnggdelchkaaMGde
namespace Go.Proofs.Ytdkmnggdelchkaa.Fo
open Go.ChangeShapes Go.WideShapes Go.ChangeAt Go.RowKit
set_option linter.unusedVariables false
set_option maxRecDepth 100000
end Go.Proofs.Ytdkmnggdelchkaa.Fo
