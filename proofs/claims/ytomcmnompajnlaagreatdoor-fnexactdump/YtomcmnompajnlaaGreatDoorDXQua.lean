import Derived.Test.YtomcmnompajnlaaGreatDoorBQua
import Derived.Test.YtomcmnompajnlaaGreatDoorProg
import GoSem.Claim
import GoSem.ClaimJoined
import GoSem.ClaimMapViews
import Derived.JoinedTies
import Derived.KernelRfl
import Derived.WalkKit
import Derived.ProofKit
import Derived.OpenShut
import Derived.Handy
import Derived.Laws.Strings3
import Derived.Lib.Strings
import Derived.Laws.OwnMore
import Derived.Laws.IdiomStrings
import Derived.Lib.UnsafeStr
import Derived.Deep.QuietTactic
import Derived.BigQuiet
import Derived.Deep.AppendLies
namespace Go.Proofs.YtomcmnompajnlaaGreatDoor
open Go.ChangeShapes Go.WideShapes Go.ChangeAt Go.RowKit
set_option linter.unusedVariables false
def QR (w:World) (l:List UInt8) (v:Value) (wr:World):Prop:=wr.ownsRow w.heap.size 5 1 v l.length (Lib.byteCells l)∧Below w.heap.size w wr
theorem qr_step {w wr w1:World} {l m:List UInt8} {v v':Value} {o:Obj} (h:QR w l v wr) (ho:w1.ownsRow w.heap.size 5 1 v' (l.length+m.length) (Lib.byteCells l ++ Lib.byteCells m)) (hg:(wr.alloc o).grownBy w1 v.ownBlock):QR w (l ++ m) v' w1:=by
  obtain ⟨h1,h2⟩:=h
  refine ⟨by rw [List.length_append,bc_append];exact ho,?_⟩
  exact (h2.alloc h2.size o).grown hg (by have:=h2.size;simp;omega) (fun k hk=>(h1.lt k hk).1)
theorem conv_row {w wr:World} {l:List UInt8} {v:Value} (hl:l ≠ []) (h:QR w l v wr):(convert 86 9 v).run Tryz.prog wr = .ok (.string ⟨l.toArray⟩) wr:=by
  obtain ⟨h1,h2⟩:=h
  obtain ⟨g,cap,rfl,_,_⟩:=World.ownsRow.form h1 (by cases l with | nil=>exact (hl rfl).elim | cons a b=>simp)
  refine run_convert_bytes_back wr 86 9 5 _ cap l Tryz.underlying86 Tryz.underlying5 Tryz.underlying9 (fun j hj=>?_)
  have:=h1.cells (g:=g) rfl j (.int .u8 (l[j].toNat:Int)) (by simp [Lib.byteCells,hj])
  exact this
end Go.Proofs.YtomcmnompajnlaaGreatDoor
