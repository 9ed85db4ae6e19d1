import Derived.Test.YtkhdehngobkkfaaGreatDoorAPvl
set_option maxRecDepth 100000
set_option maxHeartbeats 16000000
namespace Go.Proofs.YtkhdehngobkkfaaGreatDoor.Fo
open Go.ChangeShapes Go.WideShapes Go.ChangeAt Go.RowKit
set_option linter.unusedVariables false
variable {fuel:Nat}{cs:List Value}{b:Addr}
theorem law_print{pa:Option Addr}{ca n:Nat}{F:Nat->Gv}(w:World)(hg:Gp w)(ha:RowF w (.slice pa n ca) n F)(hn:(n:Int)<140737488355328)
  (hF:∀i,i<n->((F i).a.x.size:Int)<140737488355328/\((F i).p:Int)<140737488355328/\(∀j,j<(F i).p->(((F i).A j).size:Int)<140737488355328)/\((F i).q:Int)<140737488355328)
  (hm:∀i,i<n->Rg (F i).a):
  Calls Tryz.prog 3 #[.agg #[.slice pa n ca]] w λe w'=>e=.returned (.bool true)/\Rd.Kept w w':=by
 have HSZ:Hid (∀o:Obj,Calls Tryz.prog 4 #[.agg #[.slice pa n ca],.int .i64 1048576] (w.alloc o) λe w'=>∃r:Int,e=.returned (.int .i64 r)/\(0<=r->(n:Int)+(smr F n:Int)<=1048576)/\-1<=r/\r<=1048576/\Below (w.alloc o).heap.size (w.alloc o) w'):=(λo=>sz_sheet (w.alloc o) (ha.below (bel1 _ _)) hn hF:∀o:Obj,_)
 obtain⟨T,hT⟩:=prt_ex w hm inx_ok;have HA:Hid (RowF w (.slice pa n ca) n F/\Gp w/\(∀i,i<n->Rg (F i).a)/\Prt F inx n T):=(⟨ha,hg,hm,hT⟩:_/\_/\_/\_)
 clear ha hn hF hg hm hT;go_enter Tryz.func3,Tryz.ntmps3;go_wp2_with fail;refine((uh HSZ) _).mono ?_;rintro e w1 ⟨r,rfl,hr1,hr2,hr3,hb1⟩;clear HSZ;have B1:Kz w w1:=.of_below ((bel1 w _).trans (hb1.mono (by simp)));rcases Int.lt_or_le r 0 with h|h
 ·have HB:Hid (Kz w w1):=B1;clear B1 hb1 hr1 HA;go_wp2_with fail;go_ret;exact⟨rfl,(uh HB).kept⟩
 ·have h':¬r<0:=by omega
  have hsum:n+smr F n<=1048576:=by have:=hr1 h;omega
  have HS:Hid (n+smr F n<=1048576):=hsum;have c0:w1.cell? ⟨w.heap.size,0,none⟩=some (.slice pa n ca):=cell_keepz (.of_below hb1) (cell_new1 w _ 24);have HK1:Hid (Kz w w1/\RowF w1 (.slice pa n ca) n F/\w1.cell? ⟨w.heap.size,0,none⟩=some (.slice pa n ca)):=(⟨B1,HA.1.kz B1,c0⟩:_/\_/\_)
  clear hr1 hsum hb1 B1;go_wp2_with fail;refine(to_sheet w1 HK1.2.1 HS).mono ?_;rintro e w2 ⟨v1,g1,t1,rfl,o1,hb2⟩;have k2:Kz w1 w2:=.of_below hb2;have HK2:Hid (Kz w w2/\RowF w2 (.slice pa n ca) n F/\w2.cell? ⟨w.heap.size,0,none⟩=some (.slice pa n ca)/\RowF w2 v1 n F):=(⟨HK1.1.trans k2,HK1.2.1.kz k2,cell_keepz k2 HK1.2.2,o1.row⟩:_/\_/\_/\_)
  obtain⟨p1,q1,rfl,_⟩:=o1.sl;clear c0 HK1 o1 hb2 k2;go_wp2_with fail;refine(sp_print w2 HK2.2.2.2 (by have:=(uh HS);omega) (smr_p HS).1 (smr_p HS).2 HA.2.2.1 HA.2.2.2 ⟨λv W h1 h2=>sp_int v W h1 h2,λx W h=>sp_quo x W h,λo W h1 h2=>sp_sgn o W h1 h2⟩).mono ?_;rintro e w3 ⟨rfl,hb3⟩;have k3:Kz w2 w3:=.of_below hb3;have HK4:Hid (Kz w w3/\RowF w3 (.slice pa n ca) n F/\w3.cell? ⟨w.heap.size,0,none⟩=some (.slice pa n ca)):=(⟨HK2.1.trans k3,HK2.2.1.kz k3,cell_keepz k3 HK2.2.2.1⟩:_/\_/\_)
  have c0:w3.cell? ⟨w.heap.size,0,none⟩=some (.slice pa n ca):=HK4.2.2;clear HK2 hb3 k3;go_wp2_with fail;clear c0;refine(to_sheet w3 HK4.2.1 HS).mono ?_;rintro e w5 ⟨vx,gx,tx',rfl,ox,hb5⟩;obtain⟨px,kx,rfl,_⟩:=ox.sl;have k5:Kz w3 w5:=.of_below hb5;obtain⟨W6,hW6⟩:∃W6,W6=w5.alloc (.cells #[.slice px n kx] 29):=⟨_,rfl⟩
  have k6:Kz w5 W6:=by rw[hW6];exact .of_below (bel1 _ _)
  have k46:=k5.trans k6;have HK6:Hid (Kz w W6/\RowF W6 (.slice pa n ca) n F/\RowF W6 (.slice px n kx) n F/\W6.cell? ⟨w.heap.size,0,none⟩=some (.slice pa n ca)/\W6.cell? ⟨w5.heap.size,0,none⟩=some (.slice px n kx)):=(⟨HK4.1.trans k46,HK4.2.1.kz k46,ox.row.kz k6,cell_keepz k46 HK4.2.2,by rw[hW6];exact cell_new1 _ _ _⟩:_/\_/\_/\_/\_)
  clear HK4 ox hb5 k5 k6 k46;go_wp2_with fail;rw[<-hW6];clear hW6;refine(im_print W6 (HA.2.1.kz HK6.1) HK6.2.2.1 (by have:=(uh HS);omega) (smr_p HS).1 (smr_p HS).2 HA.2.2.1 HA.2.2.2).mono ?_;rintro e w9 ⟨rfl,k9⟩;have HK9:Hid (Kz w w9/\RowF w9 (.slice pa n ca) n F/\RowF w9 (.slice px n kx) n F/\w9.cell? ⟨w.heap.size,0,none⟩=some (.slice pa n ca)/\w9.cell? ⟨w5.heap.size,0,none⟩=some (.slice px n kx)):=(⟨HK6.1.trans k9,HK6.2.1.kz k9,HK6.2.2.1.kz k9,cell_keepz k9 HK6.2.2.2.1,cell_keepz k9 HK6.2.2.2.2⟩:_/\_/\_/\_/\_)
  have c5:w9.cell? ⟨w5.heap.size,0,none⟩=some (.slice px n kx):=HK9.2.2.2.2;have c0:w9.cell? ⟨w.heap.size,0,none⟩=some (.slice pa n ca):=HK9.2.2.2.1;have HTO:Hid (∀W,Kz w9 W->Calls Tryz.prog 6 #[.agg #[.slice pa n ca]] W λe w'=>∃v g t,e=.returned (.agg #[v])/\OwnF w' v g n F t W.heap.size w'.heap.size/\Below W.heap.size W w'):=(λW hb=>to_sheet W (HK9.2.1.kz hb) HS:∀W,_)
  have HEQ:Hid (∀W v2,Kz w9 W->RowF W v2 n F->Calls Tryz.prog 8 #[.agg #[.slice px n kx],.agg #[v2]] W λe w'=>e=.returned (.bool true)/\Below W.heap.size W w'):=(λW v2 hb h2=>eq_sheet W (HK9.2.2.1.kz hb) h2 HS:∀W v2,_)
  have HC5:Hid (∀W,Kz w9 W->W.cell? ⟨w5.heap.size,0,none⟩=some (.slice px n kx)/\W.cell? ⟨w.heap.size,0,none⟩=some (.slice pa n ca)):=(λW hb=>⟨cell_keepz hb c5,cell_keepz hb c0⟩:∀W,_)
  clear HK6 k9;go_wp2_with fail
  go_region_held_law (λW'=>W'.cell? ⟨w5.heap.size,0,none⟩=some (.slice px n kx)/\W'.cell? ⟨w.heap.size,0,none⟩=some (.slice pa n ca)) (first|exact s11|exact s10|exact⟨c5,c0⟩)
   (first
    |(go_at_call 6;refine((uh HTO) _ (by exact Kz.drewN (Kz.refl _) 1)).mono ?_;rintro e w10 ⟨v2,g2,t2,rfl,o2,hb10⟩;have K10:Kz w9 w10:=⟨hb10.os,hb10.output,hb10.size,hb10.block⟩;have s10:=(uh HC5) w10 K10)
    |(go_at_call 8;refine((uh HEQ) _ _ K10 o2.row).mono ?_;rintro e w11 ⟨rfl,hb11⟩;have K11:Kz w9 w11:=K10.trans (.of_below hb11);have s11:=(uh HC5) w11 K11))
  have HB11:Hid (Kz w w11):=HK9.1.trans K11;clear c5 c0 HC5 HEQ HTO o2 hb10 K10 s10 hb11 K11 s11;go_wp2_with fail;go_ret;exact⟨rfl,(uh HB11).kept⟩
section
variable {H:Type} {enc:TypeId × Value->H} {w:World} {base:Nat} {sp:Nat->Bool} {held:Bool}
theorem read_num0{x:DataW H×List MemPlace}(h:DataW.trod enc Tryz.prog w base sp held fuel 59 cs=some x)(hc:w.cells? base b 9=some cs):
  ∃z:Int,w.cell? b=some (.int .i64 z)/\-9223372036854775808<=z/\z<=9223372036854775807:=by
 obtain⟨_,hlen,hcell⟩:=World.cells?_some hc;obtain⟨xs,n,_,rfl,hl,hxl,hf⟩:=DataW.trod_struct Tryz.underlying59 h
 match cs,hlen with
 | [c0,c1,c2,c3,c4,c5,c6,c7,c8],_=>
  match xs,hxl with
  | [y0,y1,y2,y3,y4,y5,y6,y7,y8],_=>
   have t5:=hf 0 _ rfl;simp[cells3]at t5;obtain⟨z5,e5,_,g5⟩:=DataW.trod_int Tryz.underlying3 t5;simp only[List.cons.injEq,and_true]at e5;subst e5;refine⟨z5,?_,?_,?_⟩
   ·have:=hcell 0 (by omega);simpa [Addr.add]using this
   ·have:=g5;simp[Lit.wf,IntKind.min,IntKind.max,IntKind.signed,IntKind.bits]at this;omega
   ·have:=g5;simp[Lit.wf,IntKind.min,IntKind.max,IntKind.signed,IntKind.bits]at this;omega
theorem read_num1{x:DataW H×List MemPlace}(h:DataW.trod enc Tryz.prog w base sp held fuel 59 cs=some x)(hc:w.cells? base b 9=some cs):
  ∃z:Int,w.cell? ⟨b.block,b.off+1,none⟩=some (.int .i64 z)/\-9223372036854775808<=z/\z<=9223372036854775807:=by
 obtain⟨_,hlen,hcell⟩:=World.cells?_some hc;obtain⟨xs,n,_,rfl,hl,hxl,hf⟩:=DataW.trod_struct Tryz.underlying59 h
 match cs,hlen with
 | [c0,c1,c2,c3,c4,c5,c6,c7,c8],_=>
  match xs,hxl with
  | [y0,y1,y2,y3,y4,y5,y6,y7,y8],_=>
   have t5:=hf 1 _ rfl;simp[cells3]at t5;obtain⟨z5,e5,_,g5⟩:=DataW.trod_int Tryz.underlying3 t5;simp only[List.cons.injEq,and_true]at e5;subst e5;refine⟨z5,?_,?_,?_⟩
   ·have:=hcell 1 (by omega);simpa [Addr.add]using this
   ·have:=g5;simp[Lit.wf,IntKind.min,IntKind.max,IntKind.signed,IntKind.bits]at this;omega
   ·have:=g5;simp[Lit.wf,IntKind.min,IntKind.max,IntKind.signed,IntKind.bits]at this;omega
theorem read_num2{x:DataW H×List MemPlace}(h:DataW.trod enc Tryz.prog w base sp held fuel 59 cs=some x)(hc:w.cells? base b 9=some cs):
  ∃z:Int,w.cell? ⟨b.block,b.off+2,none⟩=some (.int .i64 z)/\-9223372036854775808<=z/\z<=9223372036854775807:=by
 obtain⟨_,hlen,hcell⟩:=World.cells?_some hc;obtain⟨xs,n,_,rfl,hl,hxl,hf⟩:=DataW.trod_struct Tryz.underlying59 h
 match cs,hlen with
 | [c0,c1,c2,c3,c4,c5,c6,c7,c8],_=>
  match xs,hxl with
  | [y0,y1,y2,y3,y4,y5,y6,y7,y8],_=>
   have t5:=hf 2 _ rfl;simp[cells3]at t5;obtain⟨z5,e5,_,g5⟩:=DataW.trod_int Tryz.underlying3 t5;simp only[List.cons.injEq,and_true]at e5;subst e5;refine⟨z5,?_,?_,?_⟩
   ·have:=hcell 2 (by omega);simpa [Addr.add]using this
   ·have:=g5;simp[Lit.wf,IntKind.min,IntKind.max,IntKind.signed,IntKind.bits]at this;omega
   ·have:=g5;simp[Lit.wf,IntKind.min,IntKind.max,IntKind.signed,IntKind.bits]at this;omega
theorem read_num3{x:DataW H×List MemPlace}(h:DataW.trod enc Tryz.prog w base sp held fuel 59 cs=some x)(hc:w.cells? base b 9=some cs):
  ∃z:Int,w.cell? ⟨b.block,b.off+3,none⟩=some (.int .i64 z)/\-9223372036854775808<=z/\z<=9223372036854775807:=by
 obtain⟨_,hlen,hcell⟩:=World.cells?_some hc;obtain⟨xs,n,_,rfl,hl,hxl,hf⟩:=DataW.trod_struct Tryz.underlying59 h
 match cs,hlen with
 | [c0,c1,c2,c3,c4,c5,c6,c7,c8],_=>
  match xs,hxl with
  | [y0,y1,y2,y3,y4,y5,y6,y7,y8],_=>
   have t5:=hf 3 _ rfl;simp[cells3]at t5;obtain⟨z5,e5,_,g5⟩:=DataW.trod_int Tryz.underlying3 t5;simp only[List.cons.injEq,and_true]at e5;subst e5;refine⟨z5,?_,?_,?_⟩
   ·have:=hcell 3 (by omega);simpa [Addr.add]using this
   ·have:=g5;simp[Lit.wf,IntKind.min,IntKind.max,IntKind.signed,IntKind.bits]at this;omega
   ·have:=g5;simp[Lit.wf,IntKind.min,IntKind.max,IntKind.signed,IntKind.bits]at this;omega
theorem read_num4{x:DataW H×List MemPlace}(h:DataW.trod enc Tryz.prog w base sp held fuel 59 cs=some x)(hc:w.cells? base b 9=some cs):
  ∃z:Int,w.cell? ⟨b.block,b.off+4,none⟩=some (.int .i64 z)/\-9223372036854775808<=z/\z<=9223372036854775807:=by
 obtain⟨_,hlen,hcell⟩:=World.cells?_some hc;obtain⟨xs,n,_,rfl,hl,hxl,hf⟩:=DataW.trod_struct Tryz.underlying59 h
 match cs,hlen with
 | [c0,c1,c2,c3,c4,c5,c6,c7,c8],_=>
  match xs,hxl with
  | [y0,y1,y2,y3,y4,y5,y6,y7,y8],_=>
   have t5:=hf 4 _ rfl;simp[cells3]at t5;obtain⟨z5,e5,_,g5⟩:=DataW.trod_int Tryz.underlying3 t5;simp only[List.cons.injEq,and_true]at e5;subst e5;refine⟨z5,?_,?_,?_⟩
   ·have:=hcell 4 (by omega);simpa [Addr.add]using this
   ·have:=g5;simp[Lit.wf,IntKind.min,IntKind.max,IntKind.signed,IntKind.bits]at this;omega
   ·have:=g5;simp[Lit.wf,IntKind.min,IntKind.max,IntKind.signed,IntKind.bits]at this;omega
theorem read_num5{x:DataW H×List MemPlace}(h:DataW.trod enc Tryz.prog w base sp held fuel 59 cs=some x)(hc:w.cells? base b 9=some cs):
  ∃z:Int,w.cell? ⟨b.block,b.off+5,none⟩=some (.int .i64 z)/\-9223372036854775808<=z/\z<=9223372036854775807:=by
 obtain⟨_,hlen,hcell⟩:=World.cells?_some hc;obtain⟨xs,n,_,rfl,hl,hxl,hf⟩:=DataW.trod_struct Tryz.underlying59 h
 match cs,hlen with
 | [c0,c1,c2,c3,c4,c5,c6,c7,c8],_=>
  match xs,hxl with
  | [y0,y1,y2,y3,y4,y5,y6,y7,y8],_=>
   have t5:=hf 5 _ rfl;simp[cells2]at t5;obtain⟨z5,e5,_,g5⟩:=DataW.trod_int Tryz.underlying2 t5;simp only[List.cons.injEq,and_true]at e5;subst e5;refine⟨z5,?_,?_,?_⟩
   ·have:=hcell 5 (by omega);simpa [Addr.add]using this
   ·have:=g5;simp[Lit.wf,IntKind.min,IntKind.max,IntKind.signed,IntKind.bits]at this;omega
   ·have:=g5;simp[Lit.wf,IntKind.min,IntKind.max,IntKind.signed,IntKind.bits]at this;omega
theorem read_forms3{x:DataW H×List MemPlace}(h:DataW.trod enc Tryz.prog w base sp held fuel 22 cs=some x)(hz:Sz 22 x.1):
  ∃(pa:Option Addr) (ca n:Nat) (F:Nat->Gv),cs=[.slice pa n ca]/\RowF w (.slice pa n ca) n F/\(n:Int)<140737488355328/\(∀i,i<n->((F i).a.x.size:Int)<140737488355328/\((F i).p:Int)<140737488355328/\(∀j,j<(F i).p->(((F i).A j).size:Int)<140737488355328)/\((F i).q:Int)<140737488355328)/\∀i,i<n->Rg (F i).a:=by
 obtain⟨pa,ca,n,F,rfl,hR,hn,hF⟩:=read_forms h hz;refine⟨pa,ca,n,F,rfl,hR,hn,hF,λi hi=>?_⟩;obtain⟨pf,cf,e1,hf2⟩:=hR;obtain⟨c,e2,_,hrc⟩:=hf2 (by omega);obtain⟨vn,vk,hc9,_,_⟩:=hrc i hi;rcases Deep.open_slice Tryz.underlying22 h with⟨e3,rfl⟩|⟨a,len,cap,m,k,D,Pl,e3,hb,hl,hm,hmm,rfl,hx⟩
 ·simp only[List.cons.injEq,Value.slice.injEq,and_true]at e3;omega
 ·have hle:len<=m:=by rw[hmm];split<;>omega
  simp only[List.cons.injEq,Value.slice.injEq,and_true]at e3;obtain⟨e4,e5,_⟩:=e3;simp only[Value.slice.injEq]at e1;obtain⟨e6,_⟩:=e1;have e7:a=c:=by rw[e4]at e6;rw[<-e6]at e2;exact Option.some.inj e2
  rw[cells47]at hx;obtain⟨cs',h1,h2⟩:=hx i (by omega)
  have key:∀(z:Int) (v:Int) (p q:Addr),w.cell? p=some (.int .i64 z)->p=q->w.cell? q=some (.int .i64 v)->-9223372036854775808<=z/\z<=9223372036854775807->-9223372036854775808<=v/\v<=9223372036854775807:=by
   intro z v p q r1 r2 r3 r4;subst r2;rw[r1]at r3;have:z=v:=by simpa using r3
   subst this;exact r4
  subst e7;intro v hv;simp only[its,List.mem_cons,List.not_mem_nil,or_false]at hv;rcases hv with rfl|rfl|rfl|rfl|rfl|rfl
  ·obtain⟨z,q1,q2⟩:=read_num0 h2 h1;exact key z _ _ _ q1 rfl hc9.c0 q2
  ·obtain⟨z,q1,q2⟩:=read_num1 h2 h1;exact key z _ _ _ q1 rfl hc9.c1 q2
  ·obtain⟨z,q1,q2⟩:=read_num2 h2 h1;exact key z _ _ _ q1 rfl hc9.c2 q2
  ·obtain⟨z,q1,q2⟩:=read_num3 h2 h1;exact key z _ _ _ q1 rfl hc9.c3 q2
  ·obtain⟨z,q1,q2⟩:=read_num4 h2 h1;exact key z _ _ _ q1 rfl hc9.c4 q2
  ·obtain⟨z,q1,q2⟩:=read_num5 h2 h1;exact key z _ _ _ q1 rfl hc9.c5 q2
end
