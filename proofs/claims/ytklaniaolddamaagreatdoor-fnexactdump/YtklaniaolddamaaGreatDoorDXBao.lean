import Derived.Test.YtklaniaolddamaaGreatDoorBBan
import Derived.Test.YtklaniaolddamaaGreatDoorBBab
import Derived.Test.YtklaniaolddamaaGreatDoorBBaa
import Derived.Test.YtklaniaolddamaaGreatDoorProg
import GoSem.Claim
import GoSem.ClaimJoined
import GoSem.ClaimMapViews
import Derived.JoinedTies
import Derived.KernelRfl
import Derived.WalkKit
import Derived.ProofKit
import Derived.OpenShut
import Derived.Handy
import Derived.Laws.Strings3
import Derived.Lib.Strings
import Derived.Laws.OwnMore
import Derived.Laws.IdiomStrings
import Derived.Lib.UnsafeStr
import Derived.Deep.QuietTactic
import Derived.BigQuiet
import Derived.Deep.AppendLies
import Derived.Deep.RegionHeldLaw
import Derived.Deep.CutBlock
import Derived.Laws.MakeOwn
import Derived.OwnWalk
import Derived.WalkSpells
namespace Go.Proofs.YtklaniaolddamaaGreatDoor.Fo
open Go.ChangeShapes Go.WideShapes Go.ChangeAt Go.RowKit
set_option linter.unusedVariables false
theorem info9:(Tryz.prog.info? 9).map (fun i=>(i.zero,i.size,i.bytes))=some (some (.string ⟨#[]⟩),1,16):=by kernel_rfl
theorem qr_cells (w:World) (c:Array Value) (t:TypeId) (l:List Value) (hl:c.toList=l):∀ j u,l[j]? = some u→(w.alloc (.cells c t)).cell? ((⟨w.heap.size,0,none⟩:Addr).add j)=some u:=by
 intro j u hj
 subst hl
 rw [add0,World.cell?_alloc_mark]
 simpa using hj
end Go.Proofs.YtklaniaolddamaaGreatDoor.Fo
