import Derived.Test.YtamcnmnaadpfoaaFJla
import Derived.Test.YtamcnmnaadpfoaaFJga
namespace Go.Proofs.Ytamcnmnaadpfoaa.Fo
open Go.ChangeShapes Go.WideShapes Go.ChangeAt Go.RowKit
set_option linter.unusedVariables false
set_option maxRecDepth 100000
def Jr (J:Jd) (W:World) (v u:Value):Prop:=RowV W v J.n (fun i=>.string (J.S i))∧Js.RowW 0 W u J.m J.T
theorem Jr.keep {J:Jd} {W W':World} {v u:Value} (h:Jr J W v u) (k:Kb 0 W W'):Jr J W' v u:=⟨((RowV.rowB h.1).keep k).row,h.2.keep k⟩
structure Jo (J:Jd) (L H:Nat) (W:World) (v u:Value) (g b:Nat):Prop where
 l:OwnR W v g J.n (fun i=>.string (J.S i))
 s:Js.OwV W u b J.m
 hg:L≤g∧g < H
 hb:L≤b∧b < H
 ne:g ≠ b
theorem Jo.block {J:Jd} {L H:Nat} {W W':World} {v u:Value} {g b:Nat} (h:Jo J L H W v u g b) (hk:∀ q,L≤q→q < H→W'.heap[q]? = W.heap[q]?):Jo J L H W' v u g b :=
 ⟨h.l.block (fun _=>hk g h.hg.1 h.hg.2),h.s.block (fun _=>hk b h.hb.1 h.hb.2),h.hg,h.hb,h.ne⟩
def Jx (J:Jd) (L:Nat) (W:World) (v u:Value):Prop:=Jr J W v u∧∃ g b,Jo J L W.heap.size W v u g b
def Jb (J:Jd):Prop:=J.n≤1048576∧J.m≤1048576∧∀ i,i < J.m→(J.T i).x.size≤1048576
end Go.Proofs.Ytamcnmnaadpfoaa.Fo
