import Derived.Test.YtfpidccjcemcjaaGreatMZsq
import Derived.Test.YtfpidccjcemcjaaGreatMNrf
import Derived.Test.YtfpidccjcemcjaaGreatMNqi
import Derived.Test.YtfpidccjcemcjaaGreatMNjb
import Derived.Deep.Slices
import Derived.SizedLaws
import Derived.Carry
namespace Go.Proofs.YtfpidccjcemcjaaGreat.Fo
open Go.ChangeShapes Go.WideShapes Go.ChangeAt Go.RowKit
set_option linter.unusedVariables false
set_option maxRecDepth 100000
theorem laidOut:laidOutB Tryz.prog=true:=by kernel_rfl
theorem rUni:Tryz.prog.readableRec 24=true∧24 < Tryz.prog.types.size:=⟨by kernel_rfl,of_decide_eq_true (by kernel_rfl)⟩
theorem cellsUn:Tryz.prog.cellsOf 24=1:=by kernel_rfl
theorem uni_stays {H:Type} {enc:TypeId × Value→H} {W W':World} {v:Value} {d:DataW H} {p:List MemPlace} (h:DataW.Trod enc Tryz.prog W 0 (fun _=>true) true 24 v d p) (hlt:∀ x ∈ p,x.block < W.heap.size) (hg:Kb 0 W W'):DataW.Trod enc Tryz.prog W' 0 (fun b=>decide (b < W.heap.size)) true 24 v d p:=by
 obtain ⟨fuel,hf⟩:=h
 refine ⟨fuel,DataW.trod_stays (kids_book laidOut rUni.1) (book_sized rUni.1) (fun h=>by cases h) ⟨rUni.2,book_self 24⟩ hf (fun x hx=>?_) (fun x hx=>by simpa using hlt x hx)⟩
 have hb:=hlt x hx
 cases x with
 | cell b o=>exact World.cell?_of_block (w:=W) (hg.block b zq hb)
 | map b=>exact hg.block b zq hb
section
variable {H:Type} {enc:TypeId × Value→H} {w:World} {base:Nat} {sp:Nat→Bool} {held:Bool}
theorem cellsFs:Tryz.prog.cellsOf 22=1:=by kernel_rfl
theorem read_unit {cs:Array Value} {d:DataW H} {p:List MemPlace} (hcz:cs.size=1) (h:DataW.Trod enc Tryz.prog w base sp held 24 (.agg cs) d p) (hz:Sz 24 d):∃ (va:Value) (nf:Nat) (F:Nat→Fd),(Value.agg cs) = .agg #[va]∧RowF 0 w va nf F∧(nf:Int) < 140737488355328∧∀ i,i < nf→RdF (F i):=by
 obtain ⟨fuel,hf⟩:=h
 obtain ⟨xs,n,_,hx,hl,hxl,hfi⟩:=DataW.trod_struct Tryz.underlying24 hf
 have hd:=congrArg Prod.fst hx
 dsimp only at hd
 subst hd
 obtain ⟨l⟩:=cs
 match l,hcz with
 | [c0],_ =>
  match xs,hxl with
  | [y0],_ =>
   have t0:=hfi 0 _ rfl
   simp [Value.cells,cellsFs] at t0
   obtain ⟨va,nf,F,e0,ra,sa,sa'⟩:=read_fns t0 (fun n hn=>hz n (by simp [DataW.weights,Tryz.underlying24,DataW.weightsEach,hn]))
   simp only [List.cons.injEq,and_true] at e0
   subst e0
   exact ⟨_,nf,F,rfl,ra,sa,sa'⟩
end
end Go.Proofs.YtfpidccjcemcjaaGreat.Fo
