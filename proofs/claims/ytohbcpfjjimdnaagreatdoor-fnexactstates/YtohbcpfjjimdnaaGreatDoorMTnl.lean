import Derived.Test.YtohbcpfjjimdnaaGreatDoorMChf
import Derived.Test.YtohbcpfjjimdnaaGreatDoorMCbi
import Derived.Test.YtohbcpfjjimdnaaGreatDoorRows
import Derived.Lib.LaidTab
import Derived.OpenVars
set_option maxRecDepth 100000
namespace Go.Proofs.YtohbcpfjjimdnaaGreatDoor.Fo
open Go.ChangeShapes Go.WideShapes Go.ChangeAt Go.RowKit
set_option linter.unusedVariables false
set_option maxRecDepth 100000
variable {H:Type}{W:World}{p:List MemPlace}{P:Program}{sp:Nat->Bool}
theorem laidOut:laidOutB Tryz.prog=true:=by kernel_rfl
theorem rCode:Tryz.prog.readableRec 24=true/\24<Tryz.prog.types.size:=⟨by kernel_rfl,of_decide_eq_true (by kernel_rfl)⟩
theorem cellsCd:Tryz.prog.cellsOf 24=1:=by kernel_rfl
theorem code_stays{enc:TypeId×Value->H}{W':World}{v:Value}{d:DataW H}(h:DataW.Trod enc Tryz.prog W 0 (λ_=>true) true 24 v d p)(hlt:∀x ∈ p,x.block<W.heap.size)(hg:Kb 0 W W'):DataW.Trod enc Tryz.prog W' 0 (λb=>decide (b<W.heap.size)) true 24 v d p:=by
 obtain⟨fuel,hf⟩:=h;refine⟨fuel,DataW.trod_stays (kids_book laidOut rCode.1) (book_sized rCode.1) (λh=>by cases h) ⟨rCode.2,book_self 24⟩ hf (λx hx=>?_) (λx hx=>by simpa using hlt x hx)⟩;have hb:=hlt x hx;cases x with
 |cell b o=>exact World.cell?_of_block (w:=W) (hg.block b zq hb)
 |map b=>exact hg.block b zq hb
section
variable {H:Type} {enc:TypeId × Value->H} {w:World} {base:Nat} {sp:Nat->Bool} {held:Bool}
theorem cellsPs:Tryz.prog.cellsOf 22=1:=by kernel_rfl
theorem read_code{cs:Array Value}{d:DataW H}(hcz:cs.size=1)(h:DataW.Trod enc Tryz.prog w base sp held 24 (.agg cs) d p)(hz:Sz 24 d):∃(va:Value) (nf:Nat) (F:Nat->Pd),(Value.agg cs)=.agg #[va]/\RowP 0 w va nf F/\(nf:Int)<140737488355328/\∀i,i<nf->RdPc (F i):=by
 obtain⟨fuel,hf⟩:=h;obtain⟨xs,n,_,hx,hl,hxl,hfi⟩:=DataW.trod_struct Tryz.underlying24 hf;have hd:=congrArg Prod.fst hx;dsimp only at hd;subst hd;obtain⟨l⟩:=cs
 match l,hcz with
 | [c0],_=>
  match xs,hxl with
  | [y0],_=>
   have t0:=hfi 0 _ rfl;simp[Value.cells,cellsPs]at t0;obtain⟨va,nf,F,e0,ra,sa,sa'⟩:=read_pros t0 (λn hn=>hz n (by simp[DataW.weights,Tryz.underlying24,DataW.weightsEach,hn]));simp only[List.cons.injEq,and_true]at e0;subst e0;exact⟨_,nf,F,rfl,ra,sa,sa'⟩
end
theorem cells_of_tab2{enc:TypeId×Value->H}{w:World}{base:Nat}{held:Bool}{fuel:Nat}{t e e2:TypeId}{n m:Nat}{k:IntKind}{cs:List Value}{zss:List (List Int)}
  (ht:P.underlying t=some (.array n e)) (he:P.underlying e=some (.array m e2)) (he2:P.underlying e2=some (.int k)) (hc2:P.cellsOf e2=1) (hce:P.cellsOf e=m) (hct:P.cellsOf t=n*m)
  (h:DataW.trod enc P w base sp held fuel t cs=some (.agg (zss.map (Lib.tabData k)),p)):∀i j,i<n->j<m->cs[i*m+j]? =some (.int k ((zss.getD i []).getD j 0)):=by
 cases fuel with
 |zero=>simp[DataW.trod]at h
 |succ fuel=>
  simp only[DataW.trod,ht,hce,hct]at h;split at h
  ·rename_i hl
   obtain⟨xs,hm,hx⟩:=Option.map_eq_some_iff.1 h
   have hxs:xs.map (·.1)=zss.map (Lib.tabData (H:=H) k):=by
    have:=congrArg Prod.fst hx
    simpa using this
   intro i j hi hj;obtain⟨b,hb,hf⟩:=Lib.mapM_at hm i i (by simp[hi]);have h2:(xs.map (·.1))[i]? =some b.1:=by simp[hb]
   rw[hxs]at h2;simp only[List.getElem?_map,Option.map_eq_some_iff]at h2;obtain⟨zs,hz,hzb⟩:=h2
   have hf2:DataW.trod enc P w base sp held fuel e ((cs.drop (i*m)).take m)=some (Lib.tabData k zs,b.2):=by
    rw[hzb];exact hf
   have hcs:=Lib.cells_of_tab he he2 hc2 hce hf2;have h3:((cs.drop (i*m)).take m)[j]? =cs[i*m+j]?:=by simp[List.getElem?_drop,hj]
   rw[<-h3,hcs]
   have hlen:zs.length=m:=by
    have:=congrArg List.length hcs;simp at this;have e1:cs.length=n*m:=by simpa using hl
    have e2:i*m+m<=n*m:=by
     have:=Nat.mul_le_mul_right m (show i+1<=n from hi);rw[Nat.succ_mul]at this;exact this
    omega
   have hzd:zss.getD i []=zs:=by simp[List.getD,hz]
   rw[hzd];simp[hlen,hj,List.getD]
  ·cases h
theorem gI:Tryz.prog.globalNamed "loop.example/heddle/impl.instructions" =some 0:=by kernel_rfl
theorem tI:(Tryz.prog.globals[0]?).map (·.type)=some 180:=by kernel_rfl
theorem cI3:Tryz.prog.cellsOf 180=43*4:=by kernel_rfl
theorem cI2:Tryz.prog.cellsOf 179=4:=by kernel_rfl
theorem cI1:Tryz.prog.cellsOf 178=1:=by kernel_rfl
def itb:List (List Int):=[[0,0,0,0],[1,0,0,0],[2,0,0,0],[0,0,0,0],[12,3,0,0],[12,22,0,0],[13,22,0,0],[12,17,0,0],[17,22,0,0],[12,4,0,0],[4,22,0,0],[12,5,0,0],[12,0,0,0],[16,22,22,0],[16,22,23,0],[12,22,22,0],[22,22,22,0],[12,7,22,0],[12,8,22,22],[6,0,0,0],[22,6,0,0],[22,6,0,0],[14,0,0,0],[18,22,0,0],[18,23,0,0],[12,23,0,0],[12,18,9,0],[14,18,0,0],[14,22,23,0],[23,0,0,0],[22,0,0,0],[6,11,0,0],[0,0,0,0],[10,0,0,0],[10,0,0,0],[22,23,0,0],[0,0,0,0],[19,0,0,0],[19,6,0,0],[19,6,0,0],[21,0,0,0],[20,6,14,0],[15,0,0,0]]
theorem laid_eq:(Rows.laid_loop_example_heddle_impl_instructions:DataW Unit)=.agg (itb.map (Lib.tabData .u8)):=by rfl
theorem itb_pr:∀o,o<43->∀j,j<4->(itb.getD o []).getD j 0=(pr o j:Int):=by decide
theorem gd_laid(h:laidMet Tryz.prog Rows.fnExactStatesRow.laid W):Gd W:=by
 obtain⟨ps,⟨g',t',cs,fuel,p,q,hg',ht',hvar,hd,_,_⟩,_⟩:=h;obtain rfl:=Option.some.inj (gI.symm.trans hg');obtain rfl:=Option.some.inj (tI.symm.trans ht');rw[laid_eq]at hd;intro o ho j hj;have:=World.var?_cell gI hvar (o*4+j);rw[this];have h2:=cells_of_tab2 Tryz.underlying180 Tryz.underlying179 Tryz.underlying178 cI1 cI2 cI3 hd o j ho hj;rw[itb_pr o ho j hj]at h2
 simpa using h2
theorem kept_vars {H:Type} {enc:TypeId×Value->H} {P:Program} (hl:laidOutB P=true) {W W':World} (hk:∀i,i<W.heap.size->W'.heap[i]? =W.heap[i]?):
  ∀{ns:List String} {gs:List (DataW H)} {ps:List MemPlace},varsRowed P ns=true->DataW.TrodVars enc P W (λ_=>true) ns gs ps->DataW.TrodVars enc P W' (λb=>decide (b<W.heap.size)) ns gs ps
 | [],[],_,_,h=>h
 | [],_::_,_,_,h=>h.elim
 |_::_,[],_,_,h=>h.elim
 |n::ns,d::ds,ps,hv,h=>by
  have hin:=h.lt;obtain⟨g,t,cs,fuel,p,q,hg,hty,hc,hd,hr,hps⟩:=h;subst hps;have hv1:=hv;unfold varsRowed at hv1;rw[List.all_cons,Bool.and_eq_true,hg]at hv1
  have hrow:P.readableRec t=true/\t<P.types.size:=by
   cases hgl:P.globals[g]? with
   |none=>rw[hgl]at hty;cases hty
   |some gl=>
    rw[hgl]at hty;have e:gl.type=t:=Option.some.inj hty;have h1:=hv1.1;rw[show(some g).bind (P.globals[·]?)=some gl from hgl]at h1;subst e
    simpa using h1
  have hold:∀x ∈ p,x.block<W.heap.size:=λx hx=>hin x (by simp[hx])
  have hgs:g<W.heap.size:=by
   unfold World.var? at hc;rw[hg]at hc;cases hh:W.heap[g]? with
   |none=>simp[hh]at hc
   |some o=>exact(Array.getElem?_eq_some_iff.1 hh).1
  refine⟨g,t,cs,fuel,p,q,hg,hty,?_,?_,kept_vars hl hk (by unfold varsRowed;exact hv1.2) hr,rfl⟩
  ·rw[<-hc];unfold World.var?;rw[hg];simp only[Option.bind_some];rw[hk g hgs]
  ·refine DataW.trod_stays (kids_book hl hrow.1) (book_sized hrow.1) (λh=>by cases h) ⟨hrow.2,book_self t⟩ hd (λx hx=>?_) (λx hx=>by simpa using hold x hx);have hb:=hold x hx;cases x with
   |cell b o=>exact World.cell?_of_block (w:=W) (hk b hb)
   |map b=>exact hk b hb
theorem vars_one{enc:TypeId×Value->H}{a:String}{gs:List (DataW H)}{ps:List MemPlace}(h:DataW.TrodVars enc P W sp [a] gs ps):∃x,gs=[x]:=by
 match gs,h with
 | [],h=>exact h.elim
 | [x],h=>exact⟨x,rfl⟩
 |x::y::r,h=>obtain⟨_,_,_,_,_,_,_,_,_,_,h,_⟩:=h;exact h.elim
