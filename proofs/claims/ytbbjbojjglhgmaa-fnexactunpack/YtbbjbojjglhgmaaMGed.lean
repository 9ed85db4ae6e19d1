import Derived.Test.YtbbjbojjglhgmaaMGec
import Derived.Test.YtbbjbojjglhgmaaMGcd
namespace Go.Proofs.Ytbbjbojjglhgmaa.Fo
open Go.ChangeShapes Go.WideShapes Go.ChangeAt Go.RowKit
set_option linter.unusedVariables false
set_option maxRecDepth 100000
end Go.Proofs.Ytbbjbojjglhgmaa.Fo
