import Derived.Test.YtamcnmnaadpfoaaFBab
import Derived.Deep.RegionHeldLaw
import Derived.Deep.RegionHeld3
import Derived.Test.YtamcnmnaadpfoaaFJtc
namespace Go.Proofs.Ytamcnmnaadpfoaa.Fo
open Go.ChangeShapes Go.WideShapes Go.ChangeAt Go.RowKit
set_option linter.unusedVariables false
set_option maxRecDepth 100000
def mtx (k:Nat):ByteArray:=⟨#[109]⟩ ++ mtl k ⟨#[]⟩
end Go.Proofs.Ytamcnmnaadpfoaa.Fo
