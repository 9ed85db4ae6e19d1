import Derived.Test.YtohbcpfjjimdnaaGreatDoorMTpg
import Derived.Test.YtohbcpfjjimdnaaGreatDoorMChf
set_option maxHeartbeats 32000000
namespace Go.Proofs.YtohbcpfjjimdnaaGreatDoor.Fo
open Go.ChangeShapes Go.WideShapes Go.ChangeAt Go.RowKit Go.Shelf
set_option linter.unusedVariables false
set_option maxRecDepth 100000
variable {W w0:World}{n i db np f ca q:Nat}{d:Pd}{M M':Nat->Option Sv}{X:PX}{F:Nat->Pd}{D D':List Nat}{vd:Value}{x:Nat × Sv}{s:Sv}{A:Addr}{e:Ending}
def ts0(n:Nat):Ts:=⟨0,λ_=>0,λ_=>0,[],n⟩
theorem ts0_tv(n:Nat)(E:Nat->Nat->Prop):Tv n E (ts0 n):=⟨⟨[],List.nodup_nil,rfl,λx=>by simp[ts0]⟩,λx hx=>absurd rfl hx,λx hx=>(by cases hx),λx hx=>absurd rfl hx.1,λx hx=>(by cases hx),⟨Nat.le_refl _,λh=>absurd h (Nat.lt_irrefl _)⟩⟩
theorem ts0_lk(n:Nat):Lk n (ts0 n):=⟨Nat.le_refl _,λh=>absurd h (Nat.lt_irrefl _)⟩
theorem md_at{g:Nat}(h:W.heap[g]? =some (.cells (madeCells #[.int .i64 0] (n*Tryz.t3.size)) 3 (0,0)))(j:Nat)(hj:j<n):W.cell? ⟨g,j,none⟩=some (.int .i64 0):=by
 rw[cell_of_row W g j _ _ _ h];have e:Tryz.t3.size=1:=rfl;simp[madeCells,e,hj,Nat.mod_one]
theorem rs_of{w:World}{P R TB KB:Nat}(k:Kb 0 w W)(hR:W.heap[R]? =some (.cells #[.pointer (some ⟨P,0,none⟩),.int .i64 0,.slice (some ⟨TB,0,none⟩) n n,.slice (some ⟨KB,0,none⟩) n n,.slice none 0 0,.int .i64 n] 141 (0,0)))(hT:W.heap[TB]? =some (.cells (madeCells #[.int .i64 0] (n*Tryz.t3.size)) 3 (0,0)))(hK:W.heap[KB]? =some (.cells (madeCells #[.int .i64 0] (n*Tryz.t3.size)) 3 (0,0)))(hd:w.heap.size<=R/\w.heap.size<=TB/\w.heap.size<=KB/\R≠TB/\R≠KB/\TB≠KB):RS ⟨w,R,TB,KB,P,n⟩ (ts0 n) (.slice none 0 0) W.drew:=
 RS.kb ⟨⟨hd.1,hd.2.1,hd.2.2.1,hd.2.2.2.1,hd.2.2.2.2.1,hd.2.2.2.2.2⟩,k,hR,λj hj=>md_at hT j hj,λj hj=>md_at hK j hj,λj=>frozen_of hT,λj=>frozen_of hK,World.ownsRow_nil _ _ _ _,λg e=>(by cases e),(Array.getElem?_eq_some_iff.1 hT).1,(Array.getElem?_eq_some_iff.1 hK).1⟩ (kb_drew _)
theorem rs0(w:World)(P n:Nat):RS ⟨w,w.heap.size,(w.heap.size+1),(w.heap.size+1+1),P,n⟩ (ts0 n) (.slice none 0 0) (((w.alloc (.cells #[.pointer (some ⟨P,0,none⟩),.int .i64 0,.slice (some ⟨(w.heap.size+1),0,none⟩) n n,.slice (some ⟨(w.heap.size+1+1),0,none⟩) n n,.slice none 0 0,.int .i64 n] 141)).alloc (.cells (madeCells #[.int .i64 0] (n*Tryz.t3.size)) 3)).alloc (.cells (madeCells #[.int .i64 0] (n*Tryz.t3.size)) 3)).drew:=by
 obtain⟨q0,q1,q2,qs,qk⟩:=three_new w _ _ _ _ _ _ (((w.alloc (.cells #[.pointer (some ⟨P,0,none⟩),.int .i64 0,.slice (some ⟨(w.heap.size+1),0,none⟩) n n,.slice (some ⟨(w.heap.size+1+1),0,none⟩) n n,.slice none 0 0,.int .i64 n] 141)).alloc (.cells (madeCells #[.int .i64 0] (n*Tryz.t3.size)) 3)).alloc (.cells (madeCells #[.int .i64 0] (n*Tryz.t3.size)) 3)) rfl;exact rs_of qk q0 q1 q2 ⟨by omega,by omega,by omega,by omega,by omega,by omega⟩
theorem rs1(w:World)(P n:Nat):RS ⟨w,w.heap.size,(w.heap.size+1+1),(w.heap.size+1),P,n⟩ (ts0 n) (.slice none 0 0) (((w.alloc (.cells #[.pointer (some ⟨P,0,none⟩),.int .i64 0,.slice (some ⟨(w.heap.size+1+1),0,none⟩) n n,.slice (some ⟨(w.heap.size+1),0,none⟩) n n,.slice none 0 0,.int .i64 n] 141)).alloc (.cells (madeCells #[.int .i64 0] (n*Tryz.t3.size)) 3)).alloc (.cells (madeCells #[.int .i64 0] (n*Tryz.t3.size)) 3)).drew:=by
 obtain⟨q0,q1,q2,qs,qk⟩:=three_new w _ _ _ _ _ _ (((w.alloc (.cells #[.pointer (some ⟨P,0,none⟩),.int .i64 0,.slice (some ⟨(w.heap.size+1+1),0,none⟩) n n,.slice (some ⟨(w.heap.size+1),0,none⟩) n n,.slice none 0 0,.int .i64 n] 141)).alloc (.cells (madeCells #[.int .i64 0] (n*Tryz.t3.size)) 3)).alloc (.cells (madeCells #[.int .i64 0] (n*Tryz.t3.size)) 3)) rfl;exact rs_of qk q0 q2 q1 ⟨by omega,by omega,by omega,by omega,by omega,by omega⟩
theorem rs2(w:World)(P n:Nat):RS ⟨w,(w.heap.size+1),w.heap.size,(w.heap.size+1+1),P,n⟩ (ts0 n) (.slice none 0 0) (((w.alloc (.cells (madeCells #[.int .i64 0] (n*Tryz.t3.size)) 3)).alloc (.cells #[.pointer (some ⟨P,0,none⟩),.int .i64 0,.slice (some ⟨w.heap.size,0,none⟩) n n,.slice (some ⟨(w.heap.size+1+1),0,none⟩) n n,.slice none 0 0,.int .i64 n] 141)).alloc (.cells (madeCells #[.int .i64 0] (n*Tryz.t3.size)) 3)).drew:=by
 obtain⟨q0,q1,q2,qs,qk⟩:=three_new w _ _ _ _ _ _ (((w.alloc (.cells (madeCells #[.int .i64 0] (n*Tryz.t3.size)) 3)).alloc (.cells #[.pointer (some ⟨P,0,none⟩),.int .i64 0,.slice (some ⟨w.heap.size,0,none⟩) n n,.slice (some ⟨(w.heap.size+1+1),0,none⟩) n n,.slice none 0 0,.int .i64 n] 141)).alloc (.cells (madeCells #[.int .i64 0] (n*Tryz.t3.size)) 3)) rfl;exact rs_of qk q1 q0 q2 ⟨by omega,by omega,by omega,by omega,by omega,by omega⟩
theorem rs3(w:World)(P n:Nat):RS ⟨w,(w.heap.size+1+1),w.heap.size,(w.heap.size+1),P,n⟩ (ts0 n) (.slice none 0 0) (((w.alloc (.cells (madeCells #[.int .i64 0] (n*Tryz.t3.size)) 3)).alloc (.cells (madeCells #[.int .i64 0] (n*Tryz.t3.size)) 3)).alloc (.cells #[.pointer (some ⟨P,0,none⟩),.int .i64 0,.slice (some ⟨w.heap.size,0,none⟩) n n,.slice (some ⟨(w.heap.size+1),0,none⟩) n n,.slice none 0 0,.int .i64 n] 141)).drew:=by
 obtain⟨q0,q1,q2,qs,qk⟩:=three_new w _ _ _ _ _ _ (((w.alloc (.cells (madeCells #[.int .i64 0] (n*Tryz.t3.size)) 3)).alloc (.cells (madeCells #[.int .i64 0] (n*Tryz.t3.size)) 3)).alloc (.cells #[.pointer (some ⟨P,0,none⟩),.int .i64 0,.slice (some ⟨w.heap.size,0,none⟩) n n,.slice (some ⟨(w.heap.size+1),0,none⟩) n n,.slice none 0 0,.int .i64 n] 141)) rfl;exact rs_of qk q2 q0 q1 ⟨by omega,by omega,by omega,by omega,by omega,by omega⟩
theorem rs4(w:World)(P n:Nat):RS ⟨w,(w.heap.size+1),(w.heap.size+1+1),w.heap.size,P,n⟩ (ts0 n) (.slice none 0 0) (((w.alloc (.cells (madeCells #[.int .i64 0] (n*Tryz.t3.size)) 3)).alloc (.cells #[.pointer (some ⟨P,0,none⟩),.int .i64 0,.slice (some ⟨(w.heap.size+1+1),0,none⟩) n n,.slice (some ⟨w.heap.size,0,none⟩) n n,.slice none 0 0,.int .i64 n] 141)).alloc (.cells (madeCells #[.int .i64 0] (n*Tryz.t3.size)) 3)).drew:=by
 obtain⟨q0,q1,q2,qs,qk⟩:=three_new w _ _ _ _ _ _ (((w.alloc (.cells (madeCells #[.int .i64 0] (n*Tryz.t3.size)) 3)).alloc (.cells #[.pointer (some ⟨P,0,none⟩),.int .i64 0,.slice (some ⟨(w.heap.size+1+1),0,none⟩) n n,.slice (some ⟨w.heap.size,0,none⟩) n n,.slice none 0 0,.int .i64 n] 141)).alloc (.cells (madeCells #[.int .i64 0] (n*Tryz.t3.size)) 3)) rfl;exact rs_of qk q1 q2 q0 ⟨by omega,by omega,by omega,by omega,by omega,by omega⟩
theorem rs5(w:World)(P n:Nat):RS ⟨w,(w.heap.size+1+1),(w.heap.size+1),w.heap.size,P,n⟩ (ts0 n) (.slice none 0 0) (((w.alloc (.cells (madeCells #[.int .i64 0] (n*Tryz.t3.size)) 3)).alloc (.cells (madeCells #[.int .i64 0] (n*Tryz.t3.size)) 3)).alloc (.cells #[.pointer (some ⟨P,0,none⟩),.int .i64 0,.slice (some ⟨(w.heap.size+1),0,none⟩) n n,.slice (some ⟨w.heap.size,0,none⟩) n n,.slice none 0 0,.int .i64 n] 141)).drew:=by
 obtain⟨q0,q1,q2,qs,qk⟩:=three_new w _ _ _ _ _ _ (((w.alloc (.cells (madeCells #[.int .i64 0] (n*Tryz.t3.size)) 3)).alloc (.cells (madeCells #[.int .i64 0] (n*Tryz.t3.size)) 3)).alloc (.cells #[.pointer (some ⟨P,0,none⟩),.int .i64 0,.slice (some ⟨(w.heap.size+1),0,none⟩) n n,.slice (some ⟨w.heap.size,0,none⟩) n n,.slice none 0 0,.int .i64 n] 141)) rfl;exact rs_of qk q2 q1 q0 ⟨by omega,by omega,by omega,by omega,by omega,by omega⟩
theorem mt_nil{E:Nat->Nat->Prop}{S S':Ts}(h:Mt n E S i S')(hw:S.w=[]):S'.w=[]:=by
 obtain⟨u,eu,hu,-⟩:=h.ex;rw[hw,List.nil_append]at eu
 have key:∀f x,S'.t x<=f->x ∈ S'.w->False:=by
  intro f
  induction f with
  |zero=>intro x hx hm;exact h.tv.wt x hm (by omega)
  |succ f ih=>
   intro x hx hm;have h1:=(hu x (by rw[<-eu];exact hm)).2;obtain⟨-,y,hy,e,-⟩:=h.tv.bk x hm;exact ih y (by omega) hy
 cases hS:S'.w with
 |nil=>rfl
 |cons x l=>exact absurd (by rw[hS];exact List.mem_cons_self ..) (key _ x (Nat.le_refl _))
def LrA(d:Pd)(M:Nat->Option Sv)(w:World)(e:Ending)(w':World):Prop:=∃l:Nat,e=.returned (.int .i64 l)/\l<=d.n/\(l<d.n->M l≠none/\Cy (Es d) l)/\(∀x,x<d.n->M x≠none->Cy (Es d) x->l<=x)/\Kb 0 w w'
def LrI(Y:RX)(d:Pd)(M:Nat->Option Sv)(i:Nat)(W:World):Prop:=∃S vw,Tv Y.n (Es d) S/\S.w=[]/\RS Y S vw W/\Lk Y.n S/\(∀x,x<i->M x≠none->S.t x≠0)/\∀x,S.t x≠0->M x≠none
theorem LrI.kb{Y:RX}{W':World}(h:LrI Y d M i W)(k:Kb 0 W W'):LrI Y d M i W':=by
 obtain⟨S,vw,h1,h2,h3,h4⟩:=h;exact⟨S,vw,h1,h2,h3.kb k,h4⟩
theorem im_lring(w:World)(hX:PCx X F w0)(h:PW X db M D vd w)(hcl:∀x,M x≠none->∀y,Es X.d x y->M y≠none):
  Calls Tryz.prog 46 #[.pointer (some ⟨X.P,0,none⟩)] w (LrA X.d M w):=by
 have nn:=hX.nn;have n0:=hX.n0;have nI:(X.d.n:Int)<=6000:=by omega
 have n0I:(0:Int)<(X.d.n:Int):=by omega
 obtain⟨pI,cn,hv7,-⟩:=id hX.row;have hP:w.heap[X.P]? =_:=h.pc;have c7:w.cell? ⟨X.P,7,none⟩=some (.slice pI X.d.n cn):=by rw[<-hv7];exact cell_of hP rfl
 have c11:w.cell? ⟨X.P,11,none⟩=some (.slice (some ⟨X.SB,0,none⟩) X.d.n X.d.n):=cell_of hP rfl;have kw0:Kb 0 w0 w:=h.pf.old hX.k hX.hS hX.hP;have HRF:Hid (∀R TB KB,RF ⟨w,R,TB,KB,X.P,X.d.n⟩ X.d X.np pI cn):=(λR TB KB=>⟨rfl,c7,by rw[<-hv7];exact hX.row.keep kw0,hX.gd.keep kw0,hX.I,nn⟩:∀R TB KB,_)
 have HST:Hid (∀j,j<X.d.n->∃r v1 v2,(r=true↔M j≠none)/\w.cell? ⟨X.SB,j*3,none⟩=some (.bool r)/\w.cell? ⟨X.SB,j*3+1,none⟩=some v1/\w.cell? ⟨X.SB,j*3+2,none⟩=some v2/\IsSl v1/\IsSl v2):=(λj hj=>by
  have hs:=h.st j hj;cases hm:M j with
  |none=>
   rw[hm]at hs;obtain⟨z1,z2⟩:=h.ns j hj hm;exact⟨false,_,_,by simp,hs.1,z1,z2,⟨_,_,_,rfl⟩,⟨_,_,_,rfl⟩⟩
  |some s=>
   rw[hm]at hs;obtain⟨q0,vt,vg,q1,q2,⟨a1,a2,a3,-⟩,⟨b1,b2,b3,-⟩⟩:=hs
   exact⟨true,vt,vg,by simp,q0,q1,q2,⟨_,_,_,a3⟩,⟨_,_,_,b3⟩⟩:∀j,_)
 have HCL:Hid (∀x,M x≠none->∀y,Es X.d x y->M y≠none):=hcl;have hmk:∀W,_:=λW=>run_make (P:=Tryz.prog) W 53 3 Tryz.t3 (.int .i64 0) Tryz.underlying53 (by kernel_rfl) (by kernel_rfl) .i64 .i64 (X.d.n:Int) (X.d.n:Int) (by omega) (Int.le_refl _) (by show(8:Int)*(X.d.n:Int)<=_;omega) (by omega);simp only[Int.toNat_natCast]at hmk;clear hX h hcl hv7 hP kw0 nn n0;go_enter Tryz.func46,Tryz.ntmps46;go_upto_region 2 with fail
 go_cut [4]from 13 to 20 (λs4 wx=>∃(R TB KB:Nat),s4=.pointer (some ⟨R,0,none⟩)/\Hid (RS ⟨w,R,TB,KB,X.P,X.d.n⟩ (ts0 X.d.n) (.slice none 0 0) wx))
 case first=>
  clear HRF HST HCL
  go_region_with fail
  all_goals
   go_wp2_with fail
   go_meet
   first|exact⟨_,_,_,rfl,rs0 w X.P X.d.n⟩|exact⟨_,_,_,rfl,rs1 w X.P X.d.n⟩|exact⟨_,_,_,rfl,rs2 w X.P X.d.n⟩|exact⟨_,_,_,rfl,rs3 w X.P X.d.n⟩|exact⟨_,_,_,rfl,rs4 w X.P X.d.n⟩|exact⟨_,_,_,rfl,rs5 w X.P X.d.n⟩
 case rest=>
  obtain⟨R,TB,KB,rfl,HG⟩:=hcut;clear hmk;have p0:=(uh HG)
  have c11c:=p0.k.cell c11;have HL0:Hid (LrI ⟨w,R,TB,KB,X.P,X.d.n⟩ X.d M 0 wc):=⟨ts0 X.d.n,_,ts0_tv _ _,rfl,p0,ts0_lk _,λx hx=>by omega,λx hx=>absurd rfl hx⟩
  clear p0 HG;go_wp2_with fail
  go_loopw [25] (λsl wr=>∃i:Nat,sl=.int .i64 i/\i<=X.d.n/\Hid (LrI ⟨w,R,TB,KB,X.P,X.d.n⟩ X.d M i wr)) (λsl _=>X.d.n-(intOf sl).toNat)
  case atStart=>exact⟨0,rfl,Nat.zero_le _,HL0⟩
  case round=>
   clear HL0 c11c;obtain⟨i,rfl,hi,HX⟩:=hrel;have hI:=(uh HX)
   clear HX;obtain⟨S,vw,hT,hw,hS,hL,hA,hB⟩:=id hI;rcases Nat.lt_or_ge i X.d.n with h|h
   ·have iI:(i:Int)<(X.d.n:Int):=by omega
    obtain⟨r,v1,v2,hr,q0,q1,q2,⟨x1,x2,x3,rfl⟩,⟨y1,y2,y3,rfl⟩⟩:=(uh HST) i h;have z0:=hS.k.cell q0;have z1:=hS.k.cell q1;have z2:=hS.k.cell q2;obtain⟨w2,hw2⟩:∃w2,w2=wr.alloc (.cells #[.bool r,.slice x1 x2 x3,.slice y1 y2 y3] 58):=⟨_,rfl⟩
    have k2:Kb 0 wr w2:=by rw[hw2];exact kb_alloc _ _ _
    have b2:w2.heap[wr.heap.size]? =some (.cells #[.bool r,.slice x1 x2 x3,.slice y1 y2 y3] 58 (0,0)):=by rw[hw2];exact alloc_new _ _ _
    have e0:w2.cell? ⟨wr.heap.size,0,none⟩=some (.bool r):=cell_of b2 rfl;have HW2:Hid (w2=wr.alloc (.cells #[.bool r,.slice x1 x2 x3,.slice y1 y2 y3] 58)):=hw2;have p2:=hS.kb k2;have hR2:w2.heap[R]? =_:=p2.rc;have e2:w2.cell? ⟨R,2,none⟩=some (.slice (some ⟨TB,0,none⟩) X.d.n X.d.n):=cell_of hR2 rfl;obtain⟨ti,hti⟩:∃ti,ti=S.t i:=⟨_,rfl⟩
    have et:w2.cell? ⟨TB,i,none⟩=some (.int .i64 ti):=by rw[hti];exact p2.tc i h
    cases r with
    |false=>
     have hmn:¬M i≠none:=λq=>by have:=hr.2 q;cases this
     have HN:Hid (LrI ⟨w,R,TB,KB,X.P,X.d.n⟩ X.d M (i+1) w2):=⟨S,vw,hT,hw,p2,hL,λx hx hm=>by
      by_cases e:x=i
      ·subst e;exact absurd hm hmn
      ·exact hA x (by omega) hm,hB⟩
     clear hI hT hw hS hL hA hB hr q0 q1 q2 hw2 k2 b2 p2 hR2 hti hmn hi h;go_upto_region 6 with fail;rw[<-(uh HW2)];clear HW2 z0 z1 z2;go_wp2_with fail;go_roundw
     case rel=>exact⟨i+1,by go_num,by omega,HN⟩
     case measure=>simp[intOf];omega
    |true=>
     have hmn:M i≠none:=hr.1 rfl;by_cases ht0:ti=0
     ·have gt:=beq1 (show(ti:Int)=0 by omega);have HM:=im_meet ((uh HRF) R TB KB) _ S vw w2 i (Nat.le_refl _) hT p2 h (by omega) hL
      have HN:Hid (∀e w',MeA ⟨w,R,TB,KB,X.P,X.d.n⟩ (Es X.d) S i e w'->e=.returned (.tuple #[])/\LrI ⟨w,R,TB,KB,X.P,X.d.n⟩ X.d M (i+1) w'):=(λe w' hm=>by
       obtain⟨e1,S',vw',hmt,hS',hL'⟩:=hm;refine⟨e1,S',vw',hmt.tv,mt_nil hmt hw,hS',hL',λx hx hm=>?_,λx hx=>?_⟩
       ·by_cases e:x=i
        ·subst e;exact hmt.mt
        ·have h1:=hA x (by omega) hm;rw[hmt.tk x h1];exact h1
       ·by_cases q:S.t x=0
        ·exact Rc.closed (uh HCL) (hmt.nw x q hx).1 hmn
        ·exact hB x q:∀e w',_)
      clear hI hT hw hS hL hA hB hr q0 q1 q2 hw2 k2 b2 p2 hR2 hti hmn hi h ht0;go_upto_region 6 with fail;rw[<-(uh HW2)];clear HW2 z0 z1 z2;go_wp2_with fail;refine HM.mono ?_;intro e w3 hm;obtain⟨rfl,hn⟩:=(uh HN) e w3 hm;have HN3:Hid (LrI ⟨w,R,TB,KB,X.P,X.d.n⟩ X.d M (i+1) w3):=hn;clear HM HN hm hn e0 e2 et;go_wp2_with fail;go_roundw
      case rel=>exact⟨i+1,by go_num,by omega,HN3⟩
      case measure=>simp[intOf];omega
     ·have gt:=bne (show(ti:Int)≠0 by omega)
      have HN:Hid (LrI ⟨w,R,TB,KB,X.P,X.d.n⟩ X.d M (i+1) w2):=⟨S,vw,hT,hw,p2,hL,λx hx hm=>by
       by_cases e:x=i
       ·subst e;omega
       ·exact hA x (by omega) hm,hB⟩
      clear hI hT hw hS hL hA hB hr q0 q1 q2 hw2 k2 b2 p2 hR2 hti hmn hi h ht0;go_upto_region 6 with fail;rw[<-(uh HW2)];clear HW2 z0 z1 z2;go_wp2_with fail;go_roundw
      case rel=>exact⟨i+1,by go_num,by omega,HN⟩
      case measure=>simp[intOf];omega
   ·have iI:¬(i:Int)<(X.d.n:Int):=by omega
    obtain rfl:i=X.d.n:=by omega
    have hR2:wr.heap[R]? =_:=hS.rc;have e5:wr.cell? ⟨R,5,none⟩=some (.int .i64 S.l):=cell_of hR2 rfl;have hTl:=hT.least hw (R:=λx=>x<X.d.n/\M x≠none) (λx hx=>hA x hx.1 hx.2);have HZ:Hid (LrA X.d M w (.returned (.int .i64 S.l)) wr):=⟨S.l,rfl,hTl.1,λhl=>⟨hB _ (hL.2 hl),hTl.2.1 hl⟩,λx hx hm hc=>hTl.2.2 x ⟨hx,hm⟩ hc,hS.k⟩
    clear hI hT hw hS hL hA hB hR2 hTl hi h HRF HST HCL;go_wp2_with fail;go_ret;exact HZ
structure Ad (M:Nat->Option Sv) (D:List Nat) (M':Nat->Option Sv) (D':List Nat):Prop where
 m:∀y,M y≠none->M' y≠none
 d:∀y,y ∈ D->y ∈ D'
 n:∀y,M' y≠none->M y≠none\/y ∈ D'
theorem Ad.refl(M:Nat->Option Sv)(D:List Nat):Ad M D M D:=⟨λ_ h=>h,λ_ h=>h,λ_ h=>.inl h⟩
theorem Ad.trans{M1 M2:Nat->Option Sv}{D1 D2:List Nat}(h:Ad M D M1 D1)(k:Ad M1 D1 M2 D2):Ad M D M2 D2:=
 ⟨λy q=>k.m y (h.m y q),λy q=>k.d y (h.d y q),λy q=>by
  rcases k.n y q with z|z
  ·rcases h.n y z with z|z
   ·exact .inl z
   ·exact .inr (k.d y z)
  ·exact .inr z⟩
theorem adv_ad(h:adv (.ok M D) x=.ok M' D'):Ad M D M' D'/\M' x.1≠none:=by
 unfold adv at h;dsimp only at h;cases hm:M x.1 with
 |none=>
  rw[hm]at h;cases h;refine⟨⟨λy q=>?_,λy q=>insD_mem.2 (.inr q),λy q=>?_⟩,by unfold upd;rw[if_pos rfl];simp⟩
  ·unfold upd;split
   ·simp
   ·exact q
  ·unfold upd at q;split at q
   ·rename_i e;exact .inr (insD_mem.2 (.inl e))
   ·exact .inl q
 |some s=>
  rw[hm]at h;dsimp only at h;split at h
  ·cases h;exact⟨Ad.refl _ _,by rw[hm];simp⟩
  ·cases h
theorem fold_ad:∀(l:List (Nat×Sv)) (M:Nat->Option Sv) (D:List Nat) (M':Nat->Option Sv) (D':List Nat),l.foldl adv (.ok M D)=.ok M' D'->Ad M D M' D'/\∀x,x ∈ l->M' x.1≠none
 | [],M,D,M',D',h=>by cases h;exact⟨Ad.refl _ _,λx hx=>by cases hx⟩
 |x::l,M,D,M',D',h=>by
  have h:l.foldl adv (adv (.ok M D) x)=.ok M' D':=h;cases hs:adv (.ok M D) x with
  |bad c n=>
   rw[hs]at h
   have:∀l:List (Nat×Sv),l.foldl adv (.bad c n)=.bad c n:=λl=>by
    induction l with
    |nil=>rfl
    |cons y l ih=>exact ih
   rw[this]at h;cases h
  |ok M1 D1=>
   rw[hs]at h;obtain⟨a1,a2⟩:=adv_ad hs;obtain⟨b1,b2⟩:=fold_ad l M1 D1 M' D' h;refine⟨a1.trans b1,λy hy=>?_⟩;rcases List.mem_cons.1 hy with rfl|hy
   ·exact b1.m _ a2
   ·exact b2 y hy
theorem es_fol{y:Nat}{T:List Int}{G:List Gv}(h:Iok np d i)(he:Es d i y):∃s',(y,s')∈ fol (d.N i) i s T G:=by
 obtain⟨hi,hy⟩:=he;obtain⟨-,hy⟩:=(ss_iff h hi _).1 hy;unfold fol;rcases hy with hy|hy
 ·unfold ssa at hy;split at hy
  ·omega
  ·rename_i hc
   have hE:¬Ends (d.N i).o:=λq=>hc (.inr (.inl q));have:y=i+1:=by omega
   subst this;exact⟨_,List.mem_append_left _ (by rw[if_neg hE];exact List.mem_singleton.2 rfl)⟩
 ·unfold ssb at hy;split at hy
  ·omega
  ·unfold tgi at hy;cases ht:tgt (d.N i)with
   |none=>rw[ht]at hy;dsimp only at hy;omega
   |some t=>
    rw[ht]at hy;have hyt:(y:Int)=t:=hy;refine⟨att (d.N i) s T G,List.mem_append_right _ ?_⟩;rw[<-hyt]
    simp
def Cl(d:Pd)(M:Nat->Option Sv)(D:List Nat):Prop:=∀x,M x≠none->x ∈ D\/∀y,Es d x y->M y≠none
theorem nxt_cl(hI:Iok np d i)(h:Cl d M (i::D))(hn:nxt F d M D i s=.ok M' D'):Cl d M' D':=by
 unfold nxt at hn;split at hn
 ·rename_i hz
  obtain⟨a,b⟩:=fold_ad _ _ _ _ _ hn
  have hself:∀y,Es d i y->M' y≠none:=λy hy=>by
   have hst:∃T G,(stp F (d.N i) i s).2=fol (d.N i) i s T G:=by
    unfold stp at hz⊢;split at hz
    ·simp at hz
    rename_i hb
    rw[if_neg hb];split at hz
    ·simp at hz
    ·rename_i r hr
     try rw[hr]
     try dsimp only
     split at hz
     ·simp at hz
     rename_i hf
     split at hz
     ·simp at hz
     rename_i hp
     rw[if_neg hf,if_neg hp];exact⟨_,_,rfl⟩
   obtain⟨T,G,e⟩:=hst;obtain⟨s',hs'⟩:=es_fol (s:=s) (T:=T) (G:=G) hI hy;exact b _ (by rw[e];exact hs')
  intro x hx;rcases a.n x hx with q|q
  ·rcases h x q with z|z
   ·rcases List.mem_cons.1 z with rfl|z
    ·exact .inr hself
    ·exact .inl (a.d x z)
   ·exact .inr (λy hy=>a.m y (z y hy))
  ·exact .inl q
 ·cases hn
theorem wit_cl {np p:Nat} {F:Nat->Pd} {d:Pd} (hI:∀i,i<d.n->Iok np d i) (h0:0<d.n) (hd:Hd p d):∀k M D,wit F d k=.ok M D->Cl d M D
 |0,M,D,h=>by
  cases h;intro x hx;unfold upd at hx;split at hx
  ·rename_i e;exact .inl (by simp[e])
  ·exact absurd rfl hx
 |k+1,M',D',h=>by
  have h:wst F d (wit F d k)=.ok M' D':=h;cases hw:wit F d k with
  |bad c n=>rw[hw]at h;cases h
  |ok M D=>
   have ih:=wit_cl hI h0 hd k M D hw;have hso:=wit_ok (F:=F) hI h0 hd k;rw[hw]at h hso;have hso:Inv d M D:=hso;cases D with
   |nil=>cases h;exact ih
   |cons i D=>
    have h:(match M i with|none=>St.ok M (i::D)|some s=>nxt F d M D i s)=.ok M' D':=h;cases hm:M i with
    |none=>rw[hm]at h;cases h;exact ih
    |some s=>
     rw[hm]at h;exact nxt_cl (hI i (hso.st i s hm).1) ih h
def dlen(W:World)(P:Nat):Nat:=match W.cell? ⟨P,12,none⟩with|some (.slice _ n _)=>n|_=>0
noncomputable def mu2(n:Nat)(M:Nat->Option Sv)(D:List Nat):Nat:=2*freM M n+D.length
theorem PW.meas(h:PW X db M D vd W):2*fre W X.SB X.d.n+dlen W X.P=mu2 X.d.n M D:=by
 have hP:W.heap[X.P]? =_:=h.pc
 have e1:fre W X.SB X.d.n=freM M X.d.n:=by
  unfold fre freM;apply List.countP_congr;intro j hj;have:=h.st j (List.mem_range.1 hj);cases hm:M j with
  |none=>rw[hm]at this;rw[this.1];simp[dc]
  |some s=>rw[hm]at this;rw[this.1];simp[dc]
 have e2:dlen W X.P=D.length:=by
  unfold dlen;rw[show W.cell? ⟨X.P,12,none⟩=some vd from cell_of hP rfl];rcases h.du with⟨rfl,rfl⟩|⟨off,c,rfl,-⟩
  ·rfl
  ·rfl
 unfold mu2;rw[e1,e2]
theorem adv_mu2(hx:x.1<d.n)(h:adv (.ok M D) x=.ok M' D'):mu2 d.n M' D'<=mu2 d.n M D:=by
 unfold adv at h;dsimp only at h;cases hm:M x.1 with
 |none=>
  rw[hm]at h;cases h;unfold mu2;have h1:=freM_upd (s:=x.2) hx hm;rw[insD_len];omega
 |some s=>
  rw[hm]at h;dsimp only at h;split at h
  ·cases h;exact Nat.le_refl _
  ·cases h
theorem fold_mu2 {d:Pd}:∀(l:List (Nat×Sv)) (M:Nat->Option Sv) (D:List Nat) (M':Nat->Option Sv) (D':List Nat),(∀x,x ∈ l->x.1<d.n)->l.foldl adv (.ok M D)=.ok M' D'->mu2 d.n M' D'<=mu2 d.n M D
 | [],M,D,M',D',_,h=>by cases h;exact Nat.le_refl _
 |x::l,M,D,M',D',hl,h=>by
  have h:l.foldl adv (adv (.ok M D) x)=.ok M' D':=h;cases hs:adv (.ok M D) x with
  |bad c n=>rw[hs,fold_bad]at h;cases h
  |ok M1 D1=>
   rw[hs]at h;have h1:=adv_mu2 (hl x (List.mem_cons_self ..)) hs;have h2:=fold_mu2 l M1 D1 M' D' (λy hy=>hl y (List.mem_cons_of_mem _ hy)) h;omega
theorem nxt_mu2(hI:Iok np d i)(hi:i<d.n)(hs:Sok' d s)(h:nxt F d M D i s=.ok M' D'):mu2 d.n M' D'<mu2 d.n M (i::D):=by
 unfold nxt at h;split at h
 ·rename_i hz
  have:=fold_mu2 _ _ _ _ _ (λx hx=>(stp_ok hI hi hs hz x hx).1) h;unfold mu2 at this⊢;rw[List.length_cons];omega
 ·cases h
def RuA(X:PX)(F:Nat->Pd)(w0:World)(e:Ending)(w':World):Prop:=∃c f n:Nat,e=.returned (.agg #[.int .i64 c,.int .i64 f,.int .i64 n])/\WrR F X.d c n/\(c=0->f=0)/\(c≠0->f=X.q)/\Kb 0 w0 w'/\(c=0->∃k M db vd,wit F X.d k=.ok M []/\PW X db M [] vd w')
theorem dul_tail(h:Dul W db vd (i::D)):∃off c off',vd=.slice (some ⟨db,off,none⟩) (D.length+1) c/\W.cell? ⟨db,off,none⟩=some (.int .i64 i)/\D.length+1<=c/\c<=maxLen/\Dul W db (.slice (some ⟨db,off',none⟩) D.length (c-1)) D/\∀V,(Instr.slice 53 (.slice (some ⟨db,off,none⟩) (D.length+1) c) (some (.int .i64 1)) none none).run Tryz.prog V=.ok (.slice (some ⟨db,off',none⟩) D.length (c-1)) V:=by
 rcases h with⟨-,h⟩|⟨off,c,e,h2,h3,h4,h5,h6,h7⟩
 ·cases h
 ·rw[List.length_cons]at e h2
  have hrun:∀V,(Instr.slice 53 (.slice (some ⟨db,off,none⟩) (D.length+1) c) (some (.int .i64 1)) none none).run Tryz.prog V=.ok (.slice (some ⟨db,if c=1 then off else off+1,none⟩) D.length (c-1)) V:=λV=>by
   rw[run_slice_l (t:=53) (a:=some ⟨db,off,none⟩) (len:=D.length+1) (cap:=c) (ht:=Tryz.underlying53) (h0:=by omega) (h1:=by omega),elI,Tryz.sizeOf3 V];by_cases hc:c=1
   ·simp[sliced,hc,Result.andThen]
   ·simp[sliced,hc,Result.andThen,Addr.add_lit]
  refine⟨off,c,if c=1 then off else off+1,e,by have:=h4 0 i rfl;exact this,h2,h3,.inr ⟨_,c-1,rfl,by omega,by omega,λj x hx=>?_,λj hj=>?_,h6,h7⟩,hrun⟩
  ·have hj:=(List.getElem?_eq_some_iff.1 hx).1;rw[if_neg (by omega)];have:=h4 (j+1) x (by rw[List.getElem?_cons_succ];exact hx);rw[show off+1+j=off+(j+1) by omega];exact this
  ·rw[if_neg (by omega)];have:=h5 (j+1) (by omega);rw[show off+1+j=off+(j+1) by omega];exact this
theorem PW.pop{vd':Value}(h:PW X db M D vd W)(hd:Dul W db vd' D')(hv:vd≠ .slice none 0 0):PW X db M D' vd' (W.setCell ⟨X.P,12,none⟩ vd'):=by
 refine h.due hd (.inl ⟨rfl,⟨rfl,rfl,Nat.le_refl _,λ_ _ _=>rfl⟩,hv⟩) ?_;have:=h.pl;have:=h.pf.size;rcases h.dn with z|z<;>omega
theorem im_run(w:World)(hX:PCx X F w0)(h5:X.w5=w.alloc (.cells #[.int .i64 0,.int .i64 0,.int .i64 0] 39))(h:PW X X.P (λ_=>none) [] (.slice none 0 0) X.w5)(hP5:X.P<w.heap.size)(hS5:X.SB<w.heap.size):
  Calls Tryz.prog 19 #[.pointer (some ⟨X.P,0,none⟩)] w (RuA X F w0):=by
 obtain⟨B,hB⟩:∃B,B=w.heap.size:=⟨_,rfl⟩
 obtain⟨w1,hw1⟩:∃w1,w1=X.w5:=⟨_,rfl⟩
 rw[<-hw1]at h;have hB1:X.w5.heap[B]? =some (.cells #[.int .i64 0,.int .i64 0,.int .i64 0] 39 (0,0)):=by rw[h5,hB];exact alloc_new _ _ _
 have hBl:B<X.w5.heap.size:=(Array.getElem?_eq_some_iff.1 hB1).1;have hB0:w0.heap.size<=B:=by have:=hX.hP;omega
 have HFB:Hid (∀W,PF X W->W.heap[B]? =some (.cells #[.int .i64 0,.int .i64 0,.int .i64 0] 39 (0,0))/\Kb 0 w0 W):=(λW hW=>⟨(hW.block B hBl (by omega) (by omega)).trans hB1,hW.old hX.k hX.hS hX.hP⟩:∀W,_)
 have HZ:Hid (∀W c f n:Nat->World,True):=(λ_ _ _ _=>trivial)
 clear HZ
 have HRT:Hid (∀(W:World) (c f n:Nat),PF X W->WrR F X.d c n->(c=0->f=0)->(c≠0->f=X.q)->(c=0->n=0/\∃k M db vd,wit F X.d k=.ok M []/\PW X db M [] vd W)->RuA X F w0 (.returned (.agg #[.int .i64 c,.int .i64 f,.int .i64 n])) (((W.setCell ⟨B,0,none⟩ (.int .i64 c)).setCell ⟨B,1,none⟩ (.int .i64 f)).setCell ⟨B,2,none⟩ (.int .i64 n))):=(λW c f n hW hr hc0 hc1 hq=>⟨c,f,n,rfl,hr,hc0,hc1,(((hW.old hX.k hX.hS hX.hP).setCell ⟨B,0,none⟩ (.inr hB0) _).setCell ⟨B,1,none⟩ (.inr hB0) _).setCell ⟨B,2,none⟩ (.inr hB0) _,λh0=>by
  obtain⟨hn,k,M,db,vd,hk,hp⟩:=hq h0;have hf:=hc0 h0;subst h0 hn hf
  exact⟨k,M,db,vd,hk,hp.kb (zero_kb ((hW.block B hBl (by omega) (by omega)).trans hB1))⟩⟩:∀(W:World) (c f n:Nat),_)
 obtain⟨a1,b1,c1,e5⟩:=hX.s5;obtain⟨a2,b2,c2,e6⟩:=hX.s6;obtain⟨a3,b3,c3,e8⟩:=hX.s8;obtain⟨a4,c4,e7,-⟩:=id hX.row;have hP:w1.heap[X.P]? =_:=h.pc;rw[e5,e6,e7,e8]at hP;have d0:w1.cell? ⟨X.P,0,none⟩=some (.string X.d.x):=cell_of hP rfl;have d1:w1.cell? ⟨X.P,1,none⟩=some (.int .i64 X.d.l):=cell_of hP rfl;have d2:w1.cell? ⟨X.P,2,none⟩=some (.int .i64 X.d.m):=cell_of hP rfl;have d3:w1.cell? ⟨X.P,3,none⟩=some (.bool X.d.r):=cell_of hP rfl;have d4:w1.cell? ⟨X.P,4,none⟩=some (.int .i64 X.d.g):=cell_of hP rfl;have d5:w1.cell? ⟨X.P,5,none⟩=some (.slice a1 b1 c1):=cell_of hP rfl;have d6:w1.cell? ⟨X.P,6,none⟩=some (.slice a2 b2 c2):=cell_of hP rfl;have d7:w1.cell? ⟨X.P,7,none⟩=some (.slice a4 X.d.n c4):=cell_of hP rfl;have d8:w1.cell? ⟨X.P,8,none⟩=some (.slice a3 b3 c3):=cell_of hP rfl;have HTY:=im_types (d:=X.d) (p:=X.q) (a1:=a1) (a2:=a2) (a3:=a3) (a4:=a4) (b1:=b1) (b2:=b2) (b3:=b3) (b4:=X.d.n) (c1:=c1) (c2:=c2) (c3:=c3) (c4:=c4) w1 hX.hd
 have HR1:Hid (∀W v,Kb 0 w1 W->OwI w1.heap.size W v (t0 X.d)->Calls Tryz.prog 43 #[.pointer (some ⟨X.P,0,none⟩),.int .i64 0,.agg #[.bool true,v,.slice none 0 0]] W λe w'=>∃b,e=.returned (.bool b)/\∃k M D db vd,wit F X.d k=.ok M D/\PW X db M D vd w'):=(λW v k hv=>by
  have z1:=h.sl;have z2:=h.pl;have z3:=h.pf.size;refine(im_reach (i:=0) (s:=(t0 X.d,[])) W (h.kb k) hX.n0 hX.nn (hv.rz.imp (λb _ hb=>⟨by omega,by omega,by omega⟩)) ⟨none,0,rfl,Nat.le_refl _,λq=>by simp at q⟩ List.Pairwise.nil (by simp) ⟨by have h1:=t0_len hX.hd;have:=hX.hd.2.2.1.2;show(t0 X.d).length<=1000;omega,by simp⟩ (λs0 h0=>by cases h0)).mono ?_;intro e w' hr;rcases hr with⟨rfl,db',vd',M',D',e1,p,-⟩|⟨-,e1,-⟩
  ·refine⟨true,rfl,0,M',D',db',vd',?_,p⟩;exact e1
  ·exact(by cases e1):∀W v,_)
 have HW1:Hid (w1=w.alloc (.cells #[.int .i64 0,.int .i64 0,.int .i64 0] 39)/\B=w.heap.size):=(⟨hw1.trans h5,hB⟩:_/\_)
 have HPX:Hid (PCx X F w0):=hX;have HE7:Hid (X.v7=.slice a4 X.d.n c4):=e7;have nI:(X.d.n:Int)<=6000:=by have:=hX.nn;omega
 clear hX h5 h hP5 hS5 hB hw1 hB1 hBl hB0 e5 e6 e8 e7 hP;go_enter Tryz.func19,Tryz.ntmps19;go_upto_region 1 with fail;rw[<-(uh HW1).1,<-(uh HW1).2];clear HW1;go_wp2_with fail;refine HTY.mono ?_;rintro e w2 ⟨v,rfl,hv,k2⟩;have HR2:=(uh HR1) w2 v k2 hv;obtain⟨pv,cv,rfl⟩:=own_shape hv;clear HTY HR1 hv k2 d0 d1 d2 d3 d4 d5 d6 d7 d8;go_wp2_with fail;refine HR2.mono ?_;rintro e w3 ⟨bb,rfl,hst⟩;have HST:Hid (∃k M D db vd,wit F X.d k=.ok M D/\PW X db M D vd w3):=hst;clear HR2 hst;go_wp2_with fail
 go_loopw [] (λwr=>Hid (∃k M D db vd,wit F X.d k=.ok M D/\PW X db M D vd wr)) (λwr=>2*fre wr X.SB X.d.n+dlen wr X.P)
 case atStart=>exact HST
 case round=>
  clear HST
  rename World=>wr
  obtain⟨k,M,D,db,vd,hk,hW⟩:=(show ∃k M D db vd,wit F X.d k=.ok M D/\PW X db M D vd wr from hrel)
  clear hrel;have hX:=(uh HPX)
  have hinv:Inv X.d M D:=by
   have:=wit_ok (F:=F) hX.I hX.n0 hX.hd k;rw[hk]at this;exact this
  have hP:wr.heap[X.P]? =_:=hW.pc;have c12:wr.cell? ⟨X.P,12,none⟩=some vd:=cell_of hP rfl;cases D with
  |cons i D=>
   obtain⟨off,c,off',rfl,f0,hc1,hc2,hd',hsl⟩:=dul_tail hW.du;obtain⟨hi,hmn⟩:=hinv.du i (List.mem_cons_self ..)
   obtain⟨s,hm⟩:∃s,M i=some s:=by
    cases hm:M i with
    |none=>exact absurd hm hmn
    |some s=>exact⟨s,rfl⟩
   have hinv':Inv X.d M D:=⟨(List.pairwise_cons.1 hinv.so).2,λj hj=>hinv.du j (List.mem_cons_of_mem _ hj),hinv.st⟩
   have rf12:wr.frozen? ⟨X.P,12,none⟩=false:=frozen_of hP;have p4:=hW.pop hd' (by intro q;cases q);obtain⟨w4,hw4⟩:∃w4,w4=wr.setCell ⟨X.P,12,none⟩ (.slice (some ⟨db,off',none⟩) D.length (c-1)):=⟨_,rfl⟩
   rw[<-hw4]at p4;have HW4:Hid (w4=wr.setCell ⟨X.P,12,none⟩ (.slice (some ⟨db,off',none⟩) D.length (c-1))):=hw4;have HGO:=im_go w4 hX p4 hinv' hi hm
   have hwk:wit F X.d (k+1)=nxt F X.d M D i s:=by
    show wst F X.d (wit F X.d k)=_;rw[hk];show(match M i with|none=>St.ok M (i::D)|some s=>nxt F X.d M D i s)=_;rw[hm]
   have HN:Hid (∀e w5,GoA X F M D i s e w5->∃c n:Nat,e=.returned (.tuple #[.int .i64 c,.int .i64 n])/\((c=0/\n=0/\(∃k M D db vd,wit F X.d k=.ok M D/\PW X db M D vd w5)/\2*fre w5 X.SB X.d.n+dlen w5 X.P<2*fre wr X.SB X.d.n+dlen wr X.P)\/(c≠0/\PG X w5/\WrR F X.d c n))):=(λe w5 hg=>by
    obtain⟨c',n',e1,hg⟩:=hg;refine⟨c',n',e1,?_⟩;rcases hg with⟨h1,h2,db',vd',M',D',h3,h4⟩|⟨h1,h2,h3⟩
    ·refine .inl ⟨h1,h2,⟨k+1,M',D',db',vd',hwk.trans h3,h4⟩,?_⟩;rw[h4.meas,hW.meas];exact nxt_mu2 (hX.I i hi) hi (hinv.st i s hm).2 h3
    ·exact .inr ⟨h1,h3,k+1,.inl (hwk.trans h2)⟩:∀e w5,_)
   obtain⟨dl,hdl⟩:∃dl,dl=D.length:=⟨_,rfl⟩
   rw[<-hdl]at c12 hsl HW4
   have dlI:(dl:Int)<=6000:=by
    have:=so_len (i::D) X.d.n hinv.so (λx hx=>(hinv.du x hx).1);rw[List.length_cons]at this;have:=hX.nn;omega
   have c0I:(1:Int)<=(c:Int):=by omega
   have iI:(i:Int)<6000:=by have:=hX.nn;omega
   clear hk hW hX hinv hP hc1 hc2 hd' hi hmn hm hinv' p4 hw4 hwk hdl;go_upto_region 5 with fail;rw[<-(uh HW4)];clear HW4 c12 f0 hsl rf12;go_wp2_with fail;refine HGO.mono ?_;intro e w5 hg;obtain⟨c',n',rfl,hh⟩:=(uh HN) e w5 hg;clear HGO HN hg;rcases hh with⟨rfl,rfl,hrel,hmeas⟩|⟨hc,⟨hpf,vd',hps⟩,hwr⟩
   ·have HR:Hid (∃k M D db vd,wit F X.d k=.ok M D/\PW X db M D vd w5):=hrel;have HM:Hid (2*fre w5 X.SB X.d.n+dlen w5 X.P<2*fre wr X.SB X.d.n+dlen wr X.P):=hmeas;clear hrel hmeas;go_wp2_with fail;go_roundw
    case rel=>exact HR
    case measure=>exact HM
   ·have gc:=bne (show(c':Int)≠0 by omega);have hps':w5.heap[X.P]? =_:=hps;have d10:w5.cell? ⟨X.P,10,none⟩=some (.int .i64 X.q):=cell_of hps' rfl;obtain⟨hb5,-⟩:=(uh HFB) w5 hpf;have r0:w5.cell? ⟨B,0,none⟩=some (.int .i64 0):=cell_of hb5 rfl;have r1:w5.cell? ⟨B,1,none⟩=some (.int .i64 0):=cell_of hb5 rfl;have r2:w5.cell? ⟨B,2,none⟩=some (.int .i64 0):=cell_of hb5 rfl;have fr:∀j,w5.frozen? ⟨B,j,none⟩=false:=λj=>frozen_of hb5;have HZ:=(uh HRT) w5 c' X.q n' hpf hwr (λq=>absurd q hc) (λ_=>rfl) (λq=>absurd q hc);have HZh:Hid (RuA X F w0 (.returned (.agg #[.int .i64 c',.int .i64 X.q,.int .i64 n'])) (((w5.setCell ⟨B,0,none⟩ (.int .i64 c')).setCell ⟨B,1,none⟩ (.int .i64 X.q)).setCell ⟨B,2,none⟩ (.int .i64 n'))):=HZ;clear hc hpf hps hwr hps' hb5 HZ HFB HRT HPX;go_wp2_with fail;refine bodyPost_ret (by simp[results,Tryz.results19,go_sem,set3_0 r0,set3_1 r1,set3_2 r2];rfl) rfl ?_;exact HZh
  |nil=>
   have hvd:∃p0 c0,vd=.slice p0 0 c0:=by
    rcases hW.du with⟨e,-⟩|⟨off,c,e,-⟩
    ·exact⟨none,0,e⟩
    ·exact⟨_,c,e⟩
   obtain⟨p0,c0,rfl⟩:=hvd;have hcl:=wit_cl hX.I hX.n0 hX.hd k M [] hk;have HLR:=im_lring wr hX hW (λx hx=>(hcl x hx).resolve_left (λq=>by cases q))
   have HE:Hid (∀e w5,LrA X.d M wr e w5->∃l:Nat,e=.returned (.int .i64 l)/\l<=X.d.n/\(l<X.d.n->WrR F X.d 14 l)/\(¬l<X.d.n->WrR F X.d 0 0)/\PF X w5/\PsB X (.slice p0 0 c0) w5/\∃k M db vd,wit F X.d k=.ok M []/\PW X db M [] vd w5):=(λe w5 hl=>by
    obtain⟨l,e1,hl1,hl2,hl3,k5⟩:=hl;refine⟨l,e1,hl1,λq=>⟨k,.inr ⟨M,hk,.inr ⟨rfl,(hl2 q).1,(hl2 q).2,λj hj hm hc=>?_⟩⟩⟩,λq=>⟨k,.inr ⟨M,hk,.inl ⟨rfl,rfl,λj hm hc=>?_⟩⟩⟩,(hW.kb k5).pf,(hW.kb k5).pc,k,M,_,_,hk,hW.kb k5⟩
    ·have:=hl3 j (by omega) hm hc;omega
    ·cases hj:M j with
     |none=>exact hm hj
     |some s=>have:=(hinv.st j s hj).1;have:=hl3 j this hm hc;omega:∀e w5,_)
   have hE7:X.v7=.slice a4 X.d.n c4:=HE7;clear hk hW hX hinv hP hcl;go_wp2_with fail;refine HLR.mono ?_;intro e w5 hl;obtain⟨l,rfl,hl1,hl2,hl3,hpf,hps,hpw⟩:=(uh HE) e w5 hl;have hps':w5.heap[X.P]? =_:=hps;have d7:w5.cell? ⟨X.P,7,none⟩=some (.slice a4 X.d.n c4):=by rw[<-hE7];exact cell_of hps' rfl
   have d10:w5.cell? ⟨X.P,10,none⟩=some (.int .i64 X.q):=cell_of hps' rfl;obtain⟨hb5,-⟩:=(uh HFB) w5 hpf;have r0:w5.cell? ⟨B,0,none⟩=some (.int .i64 0):=cell_of hb5 rfl;have r1:w5.cell? ⟨B,1,none⟩=some (.int .i64 0):=cell_of hb5 rfl;have r2:w5.cell? ⟨B,2,none⟩=some (.int .i64 0):=cell_of hb5 rfl;have fr:∀j,w5.frozen? ⟨B,j,none⟩=false:=λj=>frozen_of hb5;have hRT:=(uh HRT) w5;by_cases hln:l<X.d.n
   ·have lI:(l:Int)<(X.d.n:Int):=by omega
    have HZ:=hRT 14 X.q l hpf (hl2 hln) (λq=>by cases q) (λ_=>rfl) (λq=>by cases q);have HZh:Hid (RuA X F w0 (.returned (.agg #[.int .i64 14,.int .i64 X.q,.int .i64 l])) (((w5.setCell ⟨B,0,none⟩ (.int .i64 14)).setCell ⟨B,1,none⟩ (.int .i64 X.q)).setCell ⟨B,2,none⟩ (.int .i64 l))):=HZ;clear hl HE hl1 hl2 hl3 hpf hps hpw hps' hb5 hRT HZ HFB HRT HPX HLR hln c12 hE7 HE7;go_wp2_with fail;refine bodyPost_ret (by simp[results,Tryz.results19,go_sem,set3_0 r0,set3_1 r1,set3_2 r2];rfl) rfl ?_;exact HZh
   ·have lI:¬(l:Int)<(X.d.n:Int):=by omega
    have HZ:=hRT 0 0 0 hpf (hl3 hln) (λ_=>rfl) (λq=>absurd rfl q) (λ_=>⟨rfl,hpw⟩);have HZh:Hid (RuA X F w0 (.returned (.agg #[.int .i64 0,.int .i64 0,.int .i64 0])) (((w5.setCell ⟨B,0,none⟩ (.int .i64 0)).setCell ⟨B,1,none⟩ (.int .i64 0)).setCell ⟨B,2,none⟩ (.int .i64 0))):=HZ;clear hl HE hl1 hl2 hl3 hpf hps hpw hps' hb5 hRT HZ HFB HRT HPX HLR hln c12 hE7 HE7;go_wp2_with fail;refine bodyPost_ret (by simp[results,Tryz.results19,go_sem,set3_0 r0,set3_1 r1,set3_2 r2];rfl) rfl ?_;exact HZh
structure Sk (np:Nat) (F:Nat->Pd):Prop where
 bp:np<=200
 hd:∀p,p<np->Hd p (F p)
 nz:∀p,p<np->0<(F p).n
 nn:∀p,p<np->(F p).n<=6000
 is:∀p,p<np->∀i,i<(F p).n->Iok np (F p) i
 fn:∀p,p<np->∀i,i<(F p).n->P6 F p i
theorem sk_of(h:Ans 7 np F 0 f n):Sk np F:=by
  rcases h with⟨h1,_⟩|⟨_,h1,_⟩|⟨h1,_,_,_,h5⟩
  · omega
  · omega
  · have l5 : ∀ p, p < np → (F p).n ≠ 0 := fun p hp => by
      have:=h5 5 (by omega) (by omega) p hp 0 (by show 0<L5 F p;unfold L5;split<;>omega);exact this.1
    refine⟨h1.2.1,λp hp=>h5 2 (by omega) (by omega) p hp 0 (by show 0<1;omega),λp hp=>by have:=l5 p hp;omega,λp hp=>by have:=sm_one (λi=>(F i).n) hp;have:=h1.2.2;omega,λp hp i hi=>(h5 5 (by omega) (by omega) p hp i (by show i<L5 F p;unfold L5;rw[if_neg (l5 p hp)];exact hi)).2,λp hp i hi=>h5 6 (by omega) (by omega) p hp i hi⟩
theorem Sk.U(h:Sk np F){p:Nat}(hp:p<np)(hi:i<(F p).n)(ho:((F p).N i).o=11):(F ((F p).N i).b.toNat).u<=250/\Uok (F p) (F ((F p).N i).b.toNat):=by
 have hb:=(h.is p hp i hi).1.2.2 1 (by omega);rw[show((F p).N i).o.toNat=11 by omega]at hb;have hb:0<=((F p).N i).b/\((F p).N i).b<=(np:Int)-1:=hb;exact⟨(h.hd _ (by omega)).2.2.2.2.1,(h.fn p hp i hi ho).2.2⟩
theorem fold_nz:∀(l:List (Nat×Sv)) (st:St),(∀n,st≠ .bad 0 n)->∀n,l.foldl adv st≠ .bad 0 n
 | [],st,h=>h
 |x::l,st,h=>fold_nz l (adv st x) (λn=>by
  cases st with
  |bad c m=>exact h n
  |ok M D=>
   unfold adv;dsimp only;cases M x.1 with
   |none=>intro q;cases q
   |some s=>
    dsimp only;split
    ·intro q;cases q
    ·intro q;cases q)
theorem wit_nz {F:Nat->Pd} {d:Pd}:∀(k n:Nat),wit F d k≠ .bad 0 n
 |0,n=>by intro q;cases q
 |k+1,n=>by
  have ih:=λn=>wit_nz (F:=F) (d:=d) k n;show wst F d (wit F d k)≠_;cases hw:wit F d k with
  |bad c m=>rw[hw]at ih;exact ih n
  |ok M D=>
   cases D with
   |nil=>intro q;cases q
   |cons i D=>
    show(match M i with|none=>St.ok M (i::D)|some s=>nxt F d M D i s)≠_;cases M i with
    |none=>intro q;cases q
    |some s=>
     dsimp only;unfold nxt;split
     ·exact fold_nz _ _ (λm q=>by cases q) n
     ·rename_i hz
      intro q;exact hz (St.bad.inj q).1
def AnC(np:Nat)(F:Nat->Pd)(c f n:Nat):Prop:=(c≠0/\Ans 7 np F c f n)\/(Ans 7 np F 0 0 0/\((c=0/\f=0/\n=0/\∀p,p<np->WrR F (F p) 0 0)\/(c≠0/\f<np/\WrR F (F f) c n/\∀p,p<f->WrR F (F p) 0 0)))
theorem AnC.uniq{c c' f' n':Nat}(h:AnC np F c f n)(k:AnC np F c' f' n'):c=c'/\f=f'/\n=n':=by
 rcases h with⟨h0,h1⟩|⟨h1,h2⟩<;>rcases k with⟨k0,k1⟩|⟨k1,k2⟩
 ·exact h1.uniq k1
 ·exact absurd (h1.uniq k1).1 h0
 ·exact absurd (k1.uniq h1).1 k0
 ·rcases h2 with⟨rfl,rfl,rfl,h3⟩|⟨h3,h4,h5,h6⟩<;>rcases k2 with⟨rfl,rfl,rfl,k3⟩|⟨k3,k4,k5,k6⟩
  ·exact⟨rfl,rfl,rfl⟩
  ·exact absurd ((k5.uniq (h3 f' k4)).1) k3
  ·exact absurd ((h5.uniq (k3 f h4)).1) h3
  ·rcases Nat.lt_trichotomy f f' with q|q|q
   ·exact absurd ((h5.uniq (k6 f q)).1) h3
   ·subst q;obtain⟨e1,e2⟩:=h5.uniq k5;exact⟨e1,rfl,e2⟩
   ·exact absurd ((k5.uniq (h6 f' q)).1) k3
theorem run_of2(w0 w':World)(hs:Sk np F)(hq:q<np)(hgd:Gd w0)(hpr:RowP 0 w0 (.slice (some A) np ca) np F)(hp:PsA (F q) A np ca q w0 e w'):
  ∃X:PX,e=.returned (.pointer (some ⟨X.P,0,none⟩))/\Kb 0 w0 w'/\w0.heap.size<=X.SB/\w0.heap.size<=X.P/\(X.d=F q/\X.q=q)/\Calls Tryz.prog 19 #[.pointer (some ⟨X.P,0,none⟩)] w' (RuA X F w0):=by
 obtain⟨P,S,v5,v6,v7,v8,rfl,hP,hS,h1,h2,h3,hrow,s5,s6,s8,k⟩:=hp;obtain⟨w5,hw5⟩:∃w5,w5=w'.alloc (.cells #[.int .i64 0,.int .i64 0,.int .i64 0] 39):=⟨_,rfl⟩
 have k5:Kb 0 w' w5:=by rw[hw5];exact kb_alloc _ _ _
 have hSl:S<w'.heap.size:=by omega
 have hP5:w5.heap[P]? =_:=(k5.block P zq h3).trans hP;have hS5:w5.heap[S]? =_:=(k5.block S zq hSl).trans hS
 have hm:∀j,j<(F q).n->∀t,t<3->w5.cell? ⟨S,j*3+t,none⟩=(.agg #[.bool false,.slice none 0 0,.slice none 0 0]:Value).cells[t]?:=λj hj t ht=>by
  rw[cell_of_row w5 S _ _ _ _ hS5];have:=made_at w0 (.agg #[.bool false,.slice none 0 0,.slice none 0 0]:Value) 3 58 (F q).n rfl j t hj ht;rw[World.cell?_alloc_mark]at this;exact this
 have hX:PCx ⟨w5,P,S,F q,v5,v6,v7,v8,A,np,ca,q⟩ F w0:=⟨k.trans k5,h1,by show w0.heap.size<=P;omega,hrow,hpr,hgd,hs.is q hq,hs.hd q hq,hs.nz q hq,hs.nn q hq,by have:=hs.bp;show np<=1048576;omega,λi hi ho=>hs.U hq hi ho,s5,s6,s8⟩
 have hW:PW ⟨w5,P,S,F q,v5,v6,v7,v8,A,np,ca,q⟩ P (λ_=>none) [] (.slice none 0 0) w5:=⟨⟨rfl,rfl,Nat.le_refl _,λ_ _ _ _=>rfl⟩,hP5,.inl ⟨rfl,rfl⟩,λj=>frozen_of hS5,λj hj=>⟨hm j hj 0 (by omega),hm j hj 1 (by omega),hm j hj 2 (by omega)⟩,λj hj _=>⟨hm j hj 1 (by omega),hm j hj 2 (by omega)⟩,by show S<w5.heap.size;have:=k5.size;omega,by show P<w5.heap.size;have:=k5.size;omega,by show S≠P;omega,.inl ⟨rfl,rfl⟩⟩
 exact⟨⟨w5,P,S,F q,v5,v6,v7,v8,A,np,ca,q⟩,rfl,k,h1,by show w0.heap.size<=P;omega,⟨rfl,rfl⟩,im_run (X:=⟨w5,P,S,F q,v5,v6,v7,v8,A,np,ca,q⟩) w' hX hw5 hW h3 hSl⟩
theorem run_of(w0 w':World)(hs:Sk np F)(hq:q<np)(hgd:Gd w0)(hpr:RowP 0 w0 (.slice (some A) np ca) np F)(hp:PsA (F q) A np ca q w0 e w'):
  ∃P,e=.returned (.pointer (some ⟨P,0,none⟩))/\Kb 0 w0 w'/\Calls Tryz.prog 19 #[.pointer (some ⟨P,0,none⟩)] w' λe2 w2=>∃c f n:Nat,e2=.returned (.agg #[.int .i64 c,.int .i64 f,.int .i64 n])/\WrR F (F q) c n/\(c=0->f=0)/\(c≠0->f=q)/\Kb 0 w0 w2:=by
 obtain⟨X,h1,h2,-,-,⟨h3,hXq⟩,h4⟩:=run_of2 w0 w' hs hq hgd hpr hp;refine⟨X.P,h1,h2,h4.mono ?_⟩;rintro e w2 ⟨c,f,n,g1,g2,g3,g4,g5,-⟩;rw[h3]at g2;exact⟨c,f,n,g1,g2,g3,λz=>(g4 z).trans hXq,g5⟩
