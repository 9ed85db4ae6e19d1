import Derived.Test.YtohbcpfjjimdnaaGreatDoorMTpg0
set_option maxHeartbeats 64000000
namespace Go.Proofs.YtohbcpfjjimdnaaGreatDoor.Fo
open Go.ChangeShapes Go.WideShapes Go.ChangeAt Go.RowKit Go.Shelf
set_option linter.unusedVariables false
set_option maxRecDepth 100000
variable {S:Ts}{i:Nat}
structure RF (Y:RX) (d:Pd) (np:Nat) (pn:Option Addr) (cn:Nat):Prop where
 en:Y.n=d.n
 h7:Y.w0.cell? ⟨Y.P,7,none⟩=some (.slice pn d.n cn)
 row:RowI 0 Y.w0 (.slice pn d.n cn) d.n d.N
 gd:Gd Y.w0
 I:∀i,i<d.n->Iok np d i
 nn:d.n<=6000
def Lk(n:Nat)(K:Ts):Prop:=K.w.length<=K.m/\(K.l<n->K.t K.l≠0)
def MeA(Y:RX)(E:Nat->Nat->Prop)(S:Ts)(i:Nat)(e:Ending)(w':World):Prop:=e=.returned (.tuple #[])/\∃S' vw',Mt Y.n E S i S'/\RS Y S' vw' w'/\Lk Y.n S'
theorem Tv.lt{n:Nat}{E:Nat->Nat->Prop}(h:Tv n E S)(hi:i<n)(h0:S.t i=0):S.m<n:=by
 obtain⟨L,l1,l2,l3⟩:=h.mm
 have:=nodup_le n (i::L) (List.nodup_cons.2 ⟨λq=>(l3 i).2 q h0,l1⟩) (λx hx=>by
  rcases List.mem_cons.1 hx with rfl|hx
  ·exact hi
  ·exact(h.tn x ((l3 x).2 hx)).1)
 rw[List.length_cons]at this;omega
theorem ix2(x0 x1:Int)(j:Nat)(hj:j<2)(W:World):(Instr.index 185 (.agg #[.int .i64 x0,.int .i64 x1]) (.int .i64 j)).run Tryz.prog W=.ok (.int .i64 (if j=0 then x0 else x1)) W:=by
 rcases(by omega:j=0\/j=1)with rfl|rfl<;>kernel_rfl
noncomputable def qsn(d:Pd)(i c:Nat):List Nat:=([ssa (d.N i) i,ssb (d.N i)].take c).filterMap (λx=>if x<0 then none else some x.toNat)
theorem meet_step{Y:RX}{d:Pd}{np:Nat}{pn:Option Addr}{cn:Nat}(hF:RF Y d np pn cn){vw:Value}(w:World)(hT:Tv Y.n (Es d) S)(h:RS Y S vw w)(hi:i<Y.n)(h0:S.t i=0)(hL:Lk Y.n S)
  (IH:∀S' vw' w' z,S.m<S'.m->Lk Y.n S'->Tv Y.n (Es d) S'->RS Y S' vw' w'->z<Y.n->S'.t z=0->Calls Tryz.prog 90 #[.pointer (some ⟨Y.R,0,none⟩),.int .i64 z] w' (MeA Y (Es d) S' z)):
  Calls Tryz.prog 90 #[.pointer (some ⟨Y.R,0,none⟩),.int .i64 i] w (MeA Y (Es d) S i):=by
 have hmn:=hT.lt hi h0;have nn:=hF.nn;have en:=hF.en;have iI:(i:Int)<(Y.n:Int):=by omega
 have nI':(Y.n:Int)<=6000:=by omega
 have mI:(S.m:Int)<6000:=by omega
 obtain⟨m1,hm1⟩:∃m1,m1=S.m+1:=⟨_,rfl⟩
 have em:(S.m:Int)+1=(m1:Int):=by omega
 have hR:w.heap[Y.R]? =_:=h.rc;have r1:w.cell? ⟨Y.R,1,none⟩=some (.int .i64 S.m):=cell_of hR rfl;have rf1:w.frozen? ⟨Y.R,1,none⟩=false:=frozen_of hR;obtain⟨w1,hw1⟩:∃w1,w1=w.setCell ⟨Y.R,1,none⟩ (.int .i64 m1):=⟨_,rfl⟩
 have HW1:Hid (w1=w.setCell ⟨Y.R,1,none⟩ (.int .i64 m1)):=hw1;have p1:RS Y ⟨m1,S.t,S.b,S.w,S.l⟩ vw w1:=by rw[hw1];exact h.met m1
 have hR1:w1.heap[Y.R]? =_:=p1.rc;have a1:w1.cell? ⟨Y.R,1,none⟩=some (.int .i64 m1):=cell_of hR1 rfl;have a2:w1.cell? ⟨Y.R,2,none⟩=some (.slice (some ⟨Y.TB,0,none⟩) Y.n Y.n):=cell_of hR1 rfl;have a3:w1.cell? ⟨Y.R,3,none⟩=some (.slice (some ⟨Y.KB,0,none⟩) Y.n Y.n):=cell_of hR1 rfl;have tI:=p1.tc i hi;have bI:=p1.bc i hi;have tF:=p1.tf i;have bF:=p1.bf i;have p2:=p1.setT hi m1;have p3:=p2.setB hi m1;have bI2:=p2.bc i hi;have bF2:=p2.bf i;have HP3:Hid (RS Y ⟨m1,λy=>if y=i then m1 else S.t y,λy=>if y=i then m1 else S.b y,S.w,S.l⟩ vw ((w1.setCell ⟨Y.TB,i,none⟩ (.int .i64 m1)).setCell ⟨Y.KB,i,none⟩ (.int .i64 m1))):=p3;have HY:Hid (RF Y d np pn cn/\Tv Y.n (Es d) S/\i<Y.n/\S.t i=0/\m1=S.m+1/\S.m<Y.n/\Lk Y.n S):=(⟨hF,hT,hi,h0,hm1,hmn,hL⟩:_/\_)
 have HIH:Hid (∀S' vw' w' z,S.m<S'.m->Lk Y.n S'->Tv Y.n (Es d) S'->RS Y S' vw' w'->z<Y.n->S'.t z=0->Calls Tryz.prog 90 #[.pointer (some ⟨Y.R,0,none⟩),.int .i64 z] w' (MeA Y (Es d) S' z)):=IH;have HEM:Hid ((S.m:Int)+1=(m1:Int)):=em;clear hF hT h hi h0 hL IH hmn nn en hm1 hR hw1 p1 hR1 p2 p3 em;go_enter Tryz.func90,Tryz.ntmps90;go_upto_region 1 with fail;rw[(uh HEM),<-(uh HW1)];clear r1 rf1 HW1 HEM
 go_region
 obtain⟨w3,hw3⟩:∃w3,w3=((w1.setCell ⟨Y.TB,i,none⟩ (.int .i64 m1)).setCell ⟨Y.KB,i,none⟩ (.int .i64 m1)).drew:=⟨_,rfl⟩
 rw[<-hw3]
 have p3:RS Y ⟨m1,λy=>if y=i then m1 else S.t y,λy=>if y=i then m1 else S.b y,S.w,S.l⟩ vw w3:=by
  rw[hw3];exact RS.kb (uh HP3) (kb_drew _)
 obtain⟨hF,hT,hi,h0,hm1,hmn,hL⟩:=(uh HY)
 obtain⟨pw,cw,hvw⟩:=own_shape p3.wo;obtain⟨nw,hnw⟩:∃nw,nw=S.w.length:=⟨_,rfl⟩
 rw[show(nI (S.w)).length=nw from by rw[nI_len,hnw]]at hvw
 have hnw2:nw<=6000:=by
  have:=hL.1;have:=hF.nn;have:=hF.en;omega
 have hR3:w3.heap[Y.R]? =_:=p3.rc;have a4:w3.cell? ⟨Y.R,4,none⟩=some (.slice pw nw cw):=by rw[<-hvw];exact cell_of hR3 rfl
 have a4a:∀o,(w3.alloc o).cell? ⟨Y.R,4,none⟩=some (.slice pw nw cw):=λo=>(kb_alloc 0 w3 o).cell a4
 have hown0:w3.ownsRow Y.w0.heap.size 3 1 (.slice pw nw cw) nw (iv (nI S.w)):=by
  have:=p3.wo;unfold OwI at this;rw[show(nI (S.w)).length=nw from by rw[nI_len,hnw],hvw]at this;exact this
 have howna:∀o,(w3.alloc o).ownsRow Y.w0.heap.size 3 1 (.slice pw nw cw) nw (iv (nI S.w)):=λo=>World.ownsRow.alloc hown0 o;have hqc:=qr_cells w3 #[.int .i64 i] 3 [.int .i64 i] rfl;have h1c:∀u ∈ ([.int .i64 i]:List Value),u.oneCell'=true:=by intro u hu;simp at hu;subst hu;rfl
 have hs3:Y.w0.heap.size<=w3.heap.size:=p3.k.size
 have HSTP:Hid (∀(E:Obj) (g c':Nat) (w4:World),w4.ownsRow Y.w0.heap.size 3 1 (.slice (some ⟨g,0,none⟩) (nw+1) c') (nw+1) (iv (nI S.w)++[.int .i64 i])->(w3.alloc E).grownBy w4 (Value.slice pw nw cw).ownBlock->((Value.slice pw nw cw).ownBlock=some g\/g=w3.heap.size+1)->RS Y (S.meet i) (.slice (some ⟨g,0,none⟩) (nw+1) c') (w4.setCell ⟨Y.R,4,none⟩ (.slice (some ⟨g,0,none⟩) (nw+1) c'))/\w4.cell? ⟨Y.R,4,none⟩=some (.slice pw nw cw)/\w4.frozen? ⟨Y.R,4,none⟩=false):=(λE g c' w4 h1 h2 h3=>by
  have pA:=p3.kb (kb_alloc 0 w3 E);rw[hvw]at pA;have hgr:=pA.grown h2;have hR4:w4.heap[Y.R]? =_:=hgr.2.1
  have hoo:OwI Y.w0.heap.size w4 (.slice (some ⟨g,0,none⟩) (nw+1) c') (nI (S.w++[i])):=by
   rw[nI_app];exact owi_app (by rw[nI_len,hnw]) h1
  have hR3l:=(Array.getElem?_eq_some_iff.1 hR3).1
  have hng:∀g',(Value.slice (some ⟨g,0,none⟩) (nw+1) c').ownBlock=some g'->g'≠Y.R/\g'≠Y.TB/\g'≠Y.KB:=λg' e=>by
   have eg:g=g':=by simpa [Value.ownBlock]using e
   subst eg;rcases h3 with h3|h3
   ·exact pA.wn g h3
   ·have:=p3.tl;have:=p3.kl;omega
  have:=pA.swap h2 hoo hng;refine⟨?_,cell_of hR4 rfl,frozen_of hR4⟩;rw[hm1]at this
  exact this:∀(E:Obj),_)
 obtain⟨i0,hi0,hz0,hzs,hzb⟩:=info_parts infoI;have HI0:Hid (Tryz.prog.info? 3=some i0):=hi0;have HNW:Hid (nw=S.w.length):=hnw;clear hi0 hw3 p3 hF hT hi h0 hm1 hmn hvw hnw hR3 hown0 HP3 a1 a2 a3 tI bI tF bF bI2 bF2;go_upto_region 4 with(at_builtin;refine wpList_append_lies _ rfl (.tmp 46) (.tmp 48) 53 rfl Y.w0.heap.size 3 i0 (.int .i64 0) 1 8 Tryz.underlying53 HI0 hz0 hzs hzb rfl (by decide) _ _ _ rfl (howna _) ⟨w3.heap.size,0,none⟩ 1 1 [.int .i64 i] rfl rfl hqc h1c (by decide) (by unfold maxLen;omega) (by omega) (by rw[World.size_alloc];omega) (w3.heap.size+1) (by simp) ?_;intro g cap' w4 hown3 hgr3 hl3 _;obtain⟨z1,z2,z3⟩:=(uh HSTP) _ _ _ _ hown3 hgr3 hl3;have HN:Hid (RS Y (S.meet i) (.slice (some ⟨g,0,none⟩) (nw+1) cap') (w4.setCell ⟨Y.R,4,none⟩ (.slice (some ⟨g,0,none⟩) (nw+1) cap'))):=z1;clear z1 hown3 hgr3 hl3 howna hqc h1c HSTP);obtain⟨w5,hw5⟩:∃w5,w5=w4.setCell ⟨Y.R,4,none⟩ (.slice (some ⟨g,0,none⟩) (nw+1) cap'):=⟨_,rfl⟩
 rw[<-hw5]at HN⊢;clear hw5 z2 z3 a4 a4a;obtain⟨hF,hT,hi,h0,hm1,hmn,hL⟩:=(uh HY)
 have p5:=(uh HN)
 have hR5:w5.heap[Y.R]? =_:=p5.rc;have a0:w5.cell? ⟨Y.R,0,none⟩=some (.pointer (some ⟨Y.P,0,none⟩)):=cell_of hR5 rfl;have hok:=hF.I i (by rw[<-hF.en];exact hi);have HSS:=im_silent (C:=Y.P) (d:=d) (i:=i) w5 (p5.k.cell hF.h7) (hF.row.keep p5.k) (hF.gd.keep p5.k) (by rw[<-hF.en];exact hi) (by have:=hF.nn;omega) ⟨hok.1.1,hok.1.2.1⟩;have HLP:Hid (Lp Y.n (Es d) S i (qsn d i 0) (S.meet i)/\Lk Y.n (S.meet i)):=(⟨lp_start hT hi h0,⟨by show(S.w++[i]).length<=S.m+1;have:=hL.1;simp;omega,λq=>by show(if S.l=i then S.m+1 else S.t S.l)≠0;have:=hL.2 q;split<;>omega⟩⟩:_/\_)
 have HQ:Hid (∀c,c<2->∀z:Nat,(if c=0 then ssa (d.N i) i else ssb (d.N i))=(z:Int)->z<Y.n/\Es d i z/\qsn d i (c+1)=qsn d i c++[z]):=(λc hc z hz=>by
  have hmem:(z:Int)∈ slt (d.N i) i:=(ss_iff hok (by rw[<-hF.en];exact hi) _).2 ⟨by omega,by
   rcases(by omega:c=0\/c=1)with rfl|rfl
   ·exact .inl (by rw[if_pos rfl]at hz;exact hz.symm)
   ·exact .inr (by rw[if_neg (by decide)]at hz;exact hz.symm)⟩
  have hr:=slt_rng hok (by rw[<-hF.en];exact hi) _ hmem;refine⟨by rw[hF.en];omega,⟨by rw[<-hF.en];exact hi,hmem⟩,?_⟩;unfold qsn;rcases(by omega:c=0\/c=1)with rfl|rfl
  ·rw[if_pos rfl]at hz;rw[hz]
   simp
  ·rw[if_neg (by decide)]at hz;rw[hz];show List.filterMap _ [ssa (d.N i) i,(z:Int)]=List.filterMap _ [ssa (d.N i) i]++[z];rw[show [ssa (d.N i) i,(z:Int)]=[ssa (d.N i) i]++[(z:Int)]from rfl,List.filterMap_append]
   simp:∀c,_)
 have HQ0:Hid (∀c,c<2->(if c=0 then ssa (d.N i) i else ssb (d.N i))<0->qsn d i (c+1)=qsn d i c):=(λc hc hz=>by
  unfold qsn;rcases(by omega:c=0\/c=1)with rfl|rfl
  ·rw[if_pos rfl]at hz;simp[hz]
  ·rw[if_neg (by decide)]at hz;show List.filterMap _ [ssa (d.N i) i,ssb (d.N i)]=List.filterMap _ [ssa (d.N i) i];rw[show [ssa (d.N i) i,ssb (d.N i)]=[ssa (d.N i) i]++[ssb (d.N i)]from rfl,List.filterMap_append]
   simp[hz]:∀c,_)
 have HQ2:Hid (∀y,y ∈ qsn d i 2↔Es d i y):=(λy=>by
  have key:=ss_iff hok (by rw[<-hF.en];exact hi) (y:Int);unfold Es;rw[key];unfold qsn;show y ∈ List.filterMap _ [ssa (d.N i) i,ssb (d.N i)]↔_;rw[List.mem_filterMap];constructor
  ·rintro⟨x,hx,hy⟩;split at hy
   ·cases hy
   ·rename_i hx0
    have hxy:x=(y:Int):=by
     have:x.toNat=y:=by simpa using hy
     omega
    subst hxy;refine⟨by rw[<-hF.en];exact hi,by omega,?_⟩
    simpa using hx
  ·rintro⟨-,-,hx⟩;refine⟨(y:Int),by simpa using hx,?_⟩;rw[if_neg (by omega)]
   simp:∀y,_)
 clear hF hT hi h0 hm1 hmn hL p5 hR5 hok;generalize ssa (d.N i) i=sa at*;generalize ssb (d.N i)=sb at*;go_wp2_with (go_at_call 125;refine HSS.mono ?_;rintro e w6 ⟨rfl,k6⟩;have HN6:Hid (RS Y (S.meet i) (.slice (some ⟨g,0,none⟩) (nw+1) cap') w6):=RS.kb (uh HN) k6;clear k6 HSS HN a0);have hix:=ix2 sa sb
 go_loopw [58] (λsl wr=>∃c:Nat,sl=.int .i64 c/\c<=2/\Hid (∃K vk,Lp Y.n (Es d) S i (qsn d i c) K/\RS Y K vk wr/\Lk Y.n K)) (λsl _=>2-(intOf sl).toNat)
 case atStart=>exact⟨0,rfl,Nat.zero_le _,⟨_,_,(uh HLP).1,HN6,(uh HLP).2⟩⟩
 case round=>
  clear HN6 HLP;obtain⟨c,rfl,hc,HX⟩:=hrel;obtain⟨K,vk,hLp,hRS,hKl⟩:=(uh HX)
  clear HX;rcases Nat.lt_or_ge c 2 with h2|h2
  ·have cI:(c:Int)<2:=by omega
   have hixc:=hix c h2;obtain⟨x,hx⟩:∃x,x=(if c=0 then sa else sb):=⟨_,rfl⟩
   rw[<-hx]at hixc;have hq:=(uh HQ) c h2;have hq0:=(uh HQ0) c h2;rw[<-hx]at hq hq0;clear hx hix;by_cases hneg:x<0
   ·have HN:Hid (∃K vk,Lp Y.n (Es d) S i (qsn d i (c+1)) K/\RS Y K vk wr/\Lk Y.n K):=⟨K,vk,by rw[hq0 hneg];exact hLp,hRS,hKl⟩
    clear hLp hRS hKl hq hq0 h2 hc;go_wp2_with fail;go_roundw
    case rel=>exact⟨c+1,by go_num,by omega,HN⟩
    case measure=>simp[intOf];omega
   ·obtain⟨z,hz⟩:∃z:Nat,x=(z:Int):=⟨x.toNat,by omega⟩
    subst hz;obtain⟨hzn,hzE,hzq⟩:=hq z rfl;obtain⟨hF,hT,hi,h0,hm1,hmn,hL⟩:=(uh HY)
    have hiN:i<Y.n:=hi;have hti:K.t i=S.m+1:=hLp.ti;have hRr:wr.heap[Y.R]? =_:=hRS.rc;have zI:(z:Int)<(Y.n:Int):=by omega
    by_cases hzi:z=i
    ·subst hzi;have e2:wr.cell? ⟨Y.R,2,none⟩=some (.slice (some ⟨Y.TB,0,none⟩) Y.n Y.n):=cell_of hRr rfl;have e5:wr.cell? ⟨Y.R,5,none⟩=some (.int .i64 K.l):=cell_of hRr rfl;have ef5:wr.frozen? ⟨Y.R,5,none⟩=false:=frozen_of hRr;obtain⟨tz,htz⟩:∃tz,tz=K.t z:=⟨_,rfl⟩
     have gtz:=bne (show(tz:Int)≠0 by omega);obtain⟨lz,hlz⟩:∃lz,lz=K.l:=⟨_,rfl⟩
     rw[<-hlz]at e5
     have HLM:Hid (∀x:Nat,x=min lz z->(wr.setCell ⟨Y.R,5,none⟩ (.int .i64 x)).cell? ⟨Y.R,2,none⟩=some (.slice (some ⟨Y.TB,0,none⟩) Y.n Y.n)/\(wr.setCell ⟨Y.R,5,none⟩ (.int .i64 x)).cell? ⟨Y.TB,z,none⟩=some (.int .i64 tz)/\∃K2 v2,RS Y K2 v2 (wr.setCell ⟨Y.R,5,none⟩ (.int .i64 x))/\Lk Y.n K2/\(∀y,(y=if z=z then min K2.l z else K2.l)->Lp Y.n (Es d) S z (qsn d z (c+1)) ⟨K2.m,K2.t,λx=>if x=z then min (K2.b z) (K2.b z)else K2.b x,K2.w,y⟩)/\K2.l=(if z=z then min K2.l z else K2.l)):=(λx hx=>by
      have g:=hRS.lst x;have gR:(wr.setCell ⟨Y.R,5,none⟩ (.int .i64 x)).heap[Y.R]? =_:=g.rc;refine⟨cell_of gR rfl,by rw[htz];exact g.tc z hzn,⟨K.m,K.t,K.b,K.w,x⟩,vk,g,⟨hKl.1,λq=>?_⟩,λy hy=>?_,?_⟩
      ·show K.t x≠0;have q:x<Y.n:=q;rcases(by omega:x=lz\/x=z)with e|e
       ·rw[e,hlz];exact hKl.2 (by omega)
       ·rw[e,hti];omega
      ·have:=Lp.met hT hLp h0 (by rw[hti];omega) hzE;rw[hzq]
       have ey:y=(if z=z then min K.l z else K.l):=by
        rw[hy,if_pos rfl,if_pos rfl];show min x z=_;rw[hx,hlz];omega
       rw[ey];exact this
      ·rw[if_pos rfl];show x=min x z
       rw[hx];omega:∀x:Nat,_)
     clear hF hT hi h0 hm1 hmn hL hti hRr hLp hRS hKl hq hq0 h2 hc htz hlz hzq hzE;obtain⟨lm,hlm⟩:∃lm,lm=min lz z:=⟨_,rfl⟩
     have hlI:min (lz:Int) (z:Int)=(lm:Int):=by omega
     obtain⟨y2,yt,K2,v2,hk2⟩:=(uh HLM) lm hlm;have HK2:Hid (RS Y K2 v2 (wr.setCell ⟨Y.R,5,none⟩ (.int .i64 lm))/\Lk Y.n K2/\(∀y,(y=if z=z then min K2.l z else K2.l)->Lp Y.n (Es d) S z (qsn d z (c+1)) ⟨K2.m,K2.t,λx=>if x=z then min (K2.b z) (K2.b z)else K2.b x,K2.w,y⟩)/\K2.l=(if z=z then min K2.l z else K2.l)):=hk2;clear hk2 HLM hlm;go_upto_region 12 with fail;obtain⟨wq,hwq⟩:∃wq,wq=wr.setCell ⟨Y.R,5,none⟩ (.int .i64 lm):=⟨_,rfl⟩
     rw[<-hwq]at HK2⊢;clear hwq y2 yt e2 e5 ef5;have hq2:=(uh HK2)
     obtain⟨g2,gl2,glp,gll⟩:=hq2;have gR:wq.heap[Y.R]? =_:=g2.rc;have f3:wq.cell? ⟨Y.R,3,none⟩=some (.slice (some ⟨Y.KB,0,none⟩) Y.n Y.n):=cell_of gR rfl;obtain⟨bi,hbi⟩:∃bi,bi=K2.b z:=⟨_,rfl⟩
     have fi:wq.cell? ⟨Y.KB,z,none⟩=some (.int .i64 bi):=by rw[hbi];exact g2.bc z hzn
     have ff:wq.frozen? ⟨Y.KB,z,none⟩=false:=g2.bf z;have HNB:Hid (∀x:Nat,x=min bi bi->∃K vk,Lp Y.n (Es d) S z (qsn d z (c+1)) K/\RS Y K vk (wq.setCell ⟨Y.KB,z,none⟩ (.int .i64 x)).drew/\Lk Y.n K):=(λx hx=>⟨_,v2,by have:=glp K2.l gll;rw[<-hbi,<-hx]at this;exact this,RS.kb (g2.setB hzn x) (kb_drew _),gl2⟩:∀x:Nat,_)
     have HN:=(uh HNB) bi (by omega);have HNh:Hid (∃K vk,Lp Y.n (Es d) S z (qsn d z (c+1)) K/\RS Y K vk (wq.setCell ⟨Y.KB,z,none⟩ (.int .i64 bi)).drew/\Lk Y.n K):=HN;clear HN g2 gl2 glp gll gR hbi HNB HK2
     go_region
     go_wp2_with fail;go_roundw
     case rel=>exact⟨c+1,by go_num,by omega,HNh⟩
     case measure=>simp[intOf];omega
    ·have gzi:=bne (show(z:Int)≠(i:Int) by omega);have e2:wr.cell? ⟨Y.R,2,none⟩=some (.slice (some ⟨Y.TB,0,none⟩) Y.n Y.n):=cell_of hRr rfl;obtain⟨tz,htz⟩:∃tz,tz=K.t z:=⟨_,rfl⟩
     have et:wr.cell? ⟨Y.TB,z,none⟩=some (.int .i64 tz):=by rw[htz];exact hRS.tc z hzn
     by_cases htz0:tz=0
     ·have gtz:=beq1 (show(tz:Int)=0 by omega);have HME:=(uh HIH) K vk wr z (by have:=hLp.ml;omega) hKl hLp.tv hRS hzn (by omega)
      have HK:Hid (∀w',MeA Y (Es d) K z (.returned (.tuple #[])) w'->∃K2 v2,RS Y K2 v2 w'/\Lk Y.n K2/\(∀y,(y=if z=i then min K2.l i else K2.l)->Lp Y.n (Es d) S i (qsn d i (c+1)) ⟨K2.m,K2.t,λx=>if x=i then min (K2.b i) (K2.b z)else K2.b x,K2.w,y⟩)/\K2.l=(if z=i then min K2.l i else K2.l)):=(λw' hm=>by
       obtain⟨-,K2,v2,hmt,hr2,hl2⟩:=hm;refine⟨K2,v2,hr2,hl2,λy hy=>?_,by rw[if_neg hzi]⟩;rw[hzq,hy]
       exact Lp.again hT hLp h0 (by omega) hzE hmt:∀w',_)
      clear hF hT hi h0 hm1 hmn hL hti hRr hLp hRS hKl hq hq0 h2 hc htz hzq hzE htz0;go_wp2_with fail;refine HME.mono ?_;intro e wq hme;obtain rfl:=hme.1;obtain⟨K2,v2,hk2⟩:=(uh HK) wq hme;have HK2:Hid (RS Y K2 v2 wq/\Lk Y.n K2/\(∀y,(y=if z=i then min K2.l i else K2.l)->Lp Y.n (Es d) S i (qsn d i (c+1)) ⟨K2.m,K2.t,λx=>if x=i then min (K2.b i) (K2.b z)else K2.b x,K2.w,y⟩)/\K2.l=(if z=i then min K2.l i else K2.l)):=hk2;clear hk2 HK HME hme e2 et;go_upto_region 12 with fail;have hq2:=(uh HK2)
      obtain⟨g2,gl2,glp,gll⟩:=hq2;have gR:wq.heap[Y.R]? =_:=g2.rc;have f3:wq.cell? ⟨Y.R,3,none⟩=some (.slice (some ⟨Y.KB,0,none⟩) Y.n Y.n):=cell_of gR rfl;obtain⟨bi,hbi⟩:∃bi,bi=K2.b i:=⟨_,rfl⟩
      obtain⟨bz,hbz⟩:∃bz,bz=K2.b z:=⟨_,rfl⟩
      have fi:wq.cell? ⟨Y.KB,i,none⟩=some (.int .i64 bi):=by rw[hbi];exact g2.bc i hiN
      have fz:wq.cell? ⟨Y.KB,z,none⟩=some (.int .i64 bz):=by rw[hbz];exact g2.bc z hzn
      have ff:wq.frozen? ⟨Y.KB,i,none⟩=false:=g2.bf i;have HNB:Hid (∀x:Nat,x=min bi bz->∃K vk,Lp Y.n (Es d) S i (qsn d i (c+1)) K/\RS Y K vk (wq.setCell ⟨Y.KB,i,none⟩ (.int .i64 x)).drew/\Lk Y.n K):=(λx hx=>⟨_,v2,by have:=glp K2.l gll;rw[<-hbi,<-hbz,<-hx]at this;exact this,RS.kb (g2.setB hiN x) (kb_drew _),gl2⟩:∀x:Nat,_)
      obtain⟨bm,hbm⟩:∃bm,bm=min bi bz:=⟨_,rfl⟩
      have hmI:min (bi:Int) (bz:Int)=(bm:Int):=by omega
      have HN:=(uh HNB) bm hbm;have HNh:Hid (∃K vk,Lp Y.n (Es d) S i (qsn d i (c+1)) K/\RS Y K vk (wq.setCell ⟨Y.KB,i,none⟩ (.int .i64 bm)).drew/\Lk Y.n K):=HN;clear HN g2 gl2 glp gll gR hbi hbz HNB HK2 hbm
      go_region
      go_wp2_with fail;go_roundw
      case rel=>exact⟨c+1,by go_num,by omega,HNh⟩
      case measure=>simp[intOf];omega
     ·have gtz:=bne (show(tz:Int)≠0 by omega);have HK2:Hid (RS Y K vk wr/\Lk Y.n K/\(∀y,(y=if z=i then min K.l i else K.l)->Lp Y.n (Es d) S i (qsn d i (c+1)) ⟨K.m,K.t,λx=>if x=i then min (K.b i) (K.b z)else K.b x,K.w,y⟩)/\K.l=(if z=i then min K.l i else K.l)):=(⟨hRS,hKl,λy hy=>by rw[hzq,hy];exact Lp.met hT hLp h0 (by omega) hzE,by rw[if_neg hzi]⟩:_/\_)
      clear hF hT hi h0 hm1 hmn hL hti hRr hLp hRS hKl hq hq0 h2 hc htz hzq hzE htz0;go_upto_region 12 with fail;have hq2:=(uh HK2)
      obtain⟨g2,gl2,glp,gll⟩:=hq2;have gR:wr.heap[Y.R]? =_:=g2.rc;have f3:wr.cell? ⟨Y.R,3,none⟩=some (.slice (some ⟨Y.KB,0,none⟩) Y.n Y.n):=cell_of gR rfl;obtain⟨bi,hbi⟩:∃bi,bi=K.b i:=⟨_,rfl⟩
      obtain⟨bz,hbz⟩:∃bz,bz=K.b z:=⟨_,rfl⟩
      have fi:wr.cell? ⟨Y.KB,i,none⟩=some (.int .i64 bi):=by rw[hbi];exact g2.bc i hiN
      have fz:wr.cell? ⟨Y.KB,z,none⟩=some (.int .i64 bz):=by rw[hbz];exact g2.bc z hzn
      have ff:wr.frozen? ⟨Y.KB,i,none⟩=false:=g2.bf i;have HNB:Hid (∀x:Nat,x=min bi bz->∃K vk,Lp Y.n (Es d) S i (qsn d i (c+1)) K/\RS Y K vk (wr.setCell ⟨Y.KB,i,none⟩ (.int .i64 x)).drew/\Lk Y.n K):=(λx hx=>⟨_,vk,by have:=glp K.l gll;rw[<-hbi,<-hbz,<-hx]at this;exact this,RS.kb (g2.setB hiN x) (kb_drew _),gl2⟩:∀x:Nat,_)
      obtain⟨bm,hbm⟩:∃bm,bm=min bi bz:=⟨_,rfl⟩
      have hmI:min (bi:Int) (bz:Int)=(bm:Int):=by omega
      have HN:=(uh HNB) bm hbm;have HNh:Hid (∃K vk,Lp Y.n (Es d) S i (qsn d i (c+1)) K/\RS Y K vk (wr.setCell ⟨Y.KB,i,none⟩ (.int .i64 bm)).drew/\Lk Y.n K):=HN;clear HN g2 gl2 glp gll gR hbi hbz HNB HK2 hbm
      go_region
      go_wp2_with fail;go_roundw
      case rel=>exact⟨c+1,by go_num,by omega,HNh⟩
      case measure=>simp[intOf];omega
  ·have hc2:c=2:=by omega
   subst hc2;have cI:¬((2:Nat):Int)<2:=by omega
   obtain⟨hF,hT,hi,h0,hm1,hmn,hL⟩:=(uh HY)
   have hRr:wr.heap[Y.R]? =_:=hRS.rc;have e2:wr.cell? ⟨Y.R,2,none⟩=some (.slice (some ⟨Y.TB,0,none⟩) Y.n Y.n):=cell_of hRr rfl;have e3:wr.cell? ⟨Y.R,3,none⟩=some (.slice (some ⟨Y.KB,0,none⟩) Y.n Y.n):=cell_of hRr rfl;obtain⟨bi,hbi⟩:∃bi,bi=K.b i:=⟨_,rfl⟩
   obtain⟨ti,hti⟩:∃ti,ti=K.t i:=⟨_,rfl⟩
   have fb:wr.cell? ⟨Y.KB,i,none⟩=some (.int .i64 bi):=by rw[hbi];exact hRS.bc i hi
   have ft:wr.cell? ⟨Y.TB,i,none⟩=some (.int .i64 ti):=by rw[hti];exact hRS.tc i hi
   have hQ2:=(uh HQ2)
   by_cases hb:bi<ti
   ·have hbI:(bi:Int)<(ti:Int):=by omega
    have HZ:Hid (∀n,MeA Y (Es d) S i (.returned (.tuple #[])) (wr.drewN n)):=(λn=>⟨rfl,K,vk,hLp.stay h0 (λy hy=>(hQ2 y).2 hy) (by omega),hRS.kb (Kb.drewN (Kb.refl _ _) n),hKl⟩:∀n,_)
    clear hF hT hi h0 hm1 hmn hL hRr hbi hti hQ2 hb hLp hRS hKl hc h2 HQ HQ0 HQ2 HIH HY;go_wp2_with fail
    go_region
    go_wp2_with fail;refine bodyPost_ret (by simp[results,Tryz.results90,go_sem];rfl) rfl ?_;exact(uh HZ) 1
   have hbI:¬(bi:Int)<(ti:Int):=by omega
   obtain⟨u,eu,-⟩:=hLp.ex;have hnw:nw=S.w.length:=HNW;obtain⟨lr,hlr⟩:∃lr,lr=(i::u).length:=⟨_,rfl⟩
   have hKw:K.w.length=nw+lr:=by rw[eu,List.length_append,hnw,hlr]
   have hlr0:0<lr:=by rw[hlr];simp
   have hown:wr.ownsRow Y.w0.heap.size 3 1 vk (nw+lr) (iv (nI K.w)):=by
    have:=hRS.wo;unfold OwI at this;rw[nI_len,hKw]at this;exact this
   have hKm:=hLp.tv.mn;have hKl1:=hKl.1;have hnn:=hF.nn;have hen:=hF.en
   obtain⟨gk,ck,hvk,hck⟩:∃gk ck,vk=.slice (some ⟨gk,0,none⟩) (nw+lr) ck/\nw+lr<=ck:=by
    rcases hown.2 with⟨-,z⟩|⟨g,cap,cur,e,-,-,h3,-⟩
    ·omega
    ·exact⟨g,cap,e,h3⟩
   have hgk:=hRS.wn gk (by rw[hvk];rfl);have e4:wr.cell? ⟨Y.R,4,none⟩=some (.slice (some ⟨gk,0,none⟩) (nw+lr) ck):=by rw[<-hvk];exact cell_of hRr rfl
   have ef4:wr.frozen? ⟨Y.R,4,none⟩=false:=frozen_of hRr
   have hring:∀c j:Nat,(i::u)[c]? =some j->wr.cell? ⟨gk,nw+c,none⟩=some (.int .i64 j):=λc j hj=>by
    have hcl:c<lr:=by rw[hlr];exact(List.getElem?_eq_some_iff.1 hj).1
    rw[hvk]at hown;rw[World.ownsRow.cellAt hown (nw+c) (by omega)];unfold iv nI;rw[List.getElem?_map,List.getElem?_map,eu,List.getElem?_append_right (by omega),show nw+c-S.w.length=c by omega,hj];rfl
   have hsl15:=sl_from gk (nw+lr) ck nw (by omega) (by omega);rw[show nw+lr-nw=lr by omega]at hsl15;have hsl16:=sl_to gk (nw+lr) ck nw (by omega);have hpop:=Lp.pop hT hLp h0 hQ2 (by omega) eu;obtain⟨wd,hwd⟩:∃wd,wd=wr.drew:=⟨_,rfl⟩
   have kd:Kb 0 wr wd:=by rw[hwd];exact kb_drew _
   have pd:=hRS.kb kd;obtain⟨w8,hw8⟩:∃w8,w8=wd.setCell ⟨Y.R,4,none⟩ (.slice (some ⟨gk,0,none⟩) nw ck):=⟨_,rfl⟩
   have p8:RS Y ⟨K.m,K.t,K.b,S.w,K.l⟩ (.slice (some ⟨gk,0,none⟩) nw ck) w8:=by
    rw[hw8]
    refine pd.way ?_ (λg e=>by
     have:gk=g:=by simpa [Value.ownBlock]using e
     rw[<-this];exact hgk)
    have hwo:=pd.wo;rw[hvk]at hwo;have:=hwo.cut (k:=nw) (by rw[nI_len];omega);rw[show(nI K.w).take nw=nI S.w from by unfold nI;rw[<-List.map_take,eu,hnw,List.take_left]]at this;exact this
   have hring8:∀W:World,W.heap[gk]? =w8.heap[gk]? ->∀c j:Nat,(i::u)[c]? =some j->W.cell? ⟨gk,nw+c,none⟩=some (.int .i64 j):=λW hW c j hj=>by
    have hgl:gk<wr.heap.size:=lt_of_cell' (hring c j hj)
    have h8:w8.heap[gk]? =wr.heap[gk]?:=by
     rw[hw8];exact(heap_setCell_other wd _ gk _ hgk.1).trans (kd.block gk zq hgl)
    exact(World.cell?_of_block (hW.trans h8)).trans (hring c j hj)
   have HW8:Hid (w8=(wr.setCell ⟨Y.R,4,none⟩ (.slice (some ⟨gk,0,none⟩) nw ck)).drew):=by rw[hw8,hwd];rfl
   have HST:Hid (RS Y ⟨K.m,K.t,λx=>if x ∈ (i::u).take 0 then Y.n+1 else K.b x,S.w,if 1<lr then lmin ((i::u).take 0) K.l else K.l⟩ (.slice (some ⟨gk,0,none⟩) nw ck) w8/\SamB gk w8 w8):=by
    refine⟨?_,rfl⟩;rw[List.take_zero];have e1:(λx=>if x ∈ ([]:List Nat)then Y.n+1 else K.b x)=K.b:=by funext x;simp
    have e2:(if 1<lr then lmin [] K.l else K.l)=K.l:=by unfold lmin;simp
    rw[e1,e2];exact p8
   have HEND:Hid (∀W,RS Y (K.pop Y.n S.w (i::u)) (.slice (some ⟨gk,0,none⟩) nw ck) W->MeA Y (Es d) S i (.returned (.tuple #[])) W):=(λW hW=>⟨rfl,_,_,hpop,hW,by show S.w.length<=K.m;have:=hLp.ml;have:=hL.1;omega,λq=>by
    show K.t (if 1<(i::u).length then lmin (i::u) K.l else K.l)≠0;have q:(if 1<(i::u).length then lmin (i::u) K.l else K.l)<Y.n:=q;split at q
    ·rename_i h1
     rw[if_pos h1];rcases lmin_in (i::u) K.l with e|e
     ·rw[e]at q⊢;exact hKl.2 q
     ·exact hLp.tv.wt _ (by rw[eu];exact List.mem_append_right _ e)
    ·rename_i h1
     rw[if_neg h1];exact hKl.2 q⟩:∀W,_)
   have HRG:Hid ((∀W:World,W.heap[gk]? =w8.heap[gk]? ->∀c j:Nat,(i::u)[c]? =some j->W.cell? ⟨gk,nw+c,none⟩=some (.int .i64 j))/\(∀c j:Nat,(i::u)[c]? =some j->j<Y.n)/\lr=(i::u).length/\(gk≠Y.R/\gk≠Y.TB/\gk≠Y.KB)):=(⟨hring8,λc j hj=>(hLp.tv.tn j (hLp.tv.wt j (by rw[eu];exact List.mem_append_right _ (List.mem_of_getElem? hj)))).1,hlr,hgk⟩:_/\_)
   obtain⟨RG,hRG⟩:∃RG,RG=i::u:=⟨_,rfl⟩
   rw[<-hRG]at HST HEND HRG;obtain⟨nm,hnm⟩:∃nm:Nat,nm=Y.n+1:=⟨_,rfl⟩
   have hnmI:(d.n:Int)+1=(nm:Int):=by omega
   have lrI:(lr:Int)<=6001:=by omega
   have nwI:(nw:Int)<=(nw:Int)+(lr:Int):=by omega
   have h7:=hF.h7;have HNM:Hid (nm=Y.n+1):=hnm;have dnI:(d.n:Int)<=6000:=by omega
   clear hF hT hi h0 hm1 hmn hL hKl1 hRr hbi hti hQ2 hb hLp hRS hKl hc h2 HQ HQ0 HQ2 HIH HY eu hnw hlr hKw hlr0 hown hKm hnn hen hvk hck hgk hring hpop hwd kd pd hw8 p8 hring8 hRG hnm;go_upto_region 14 with fail
   go_region
   go_upto_region 17 with fail;rw[<-(uh HW8)];clear HW8 e2 e3 e4 ef4 fb ft hsl15 hsl16;go_wp2_with fail
   go_loopw [140] (λsl wx=>∃c:Nat,sl=.int .i64 c/\c<=lr/\Hid (RS Y ⟨K.m,K.t,λx=>if x ∈ RG.take c then Y.n+1 else K.b x,S.w,if 1<lr then lmin (RG.take c) K.l else K.l⟩ (.slice (some ⟨gk,0,none⟩) nw ck) wx/\SamB gk wx w8)) (λsl _=>lr-(intOf sl).toNat)
   case atStart=>exact⟨0,rfl,Nat.zero_le _,HST⟩
   case round=>
    clear HST;obtain⟨c,rfl,hc,HX⟩:=hrel;obtain⟨pc,hgb⟩:=(uh HX)
    clear HX;obtain⟨hring,hrn,hlr,hgk⟩:=(uh HRG)
    rcases Nat.lt_or_ge c lr with h3|h3
    ·have cI2:(c:Int)<(lr:Int):=by omega
     obtain⟨j,hj⟩:∃j,RG[c]? =some j:=⟨_,List.getElem?_eq_getElem (by omega)⟩
     have f0:=hring wr hgb c j hj;have hjn:=hrn c j hj;have jI:(j:Int)<(Y.n:Int):=by omega
     have hR3:wr.heap[Y.R]? =_:=pc.rc;have b0:wr.cell? ⟨Y.R,0,none⟩=some (.pointer (some ⟨Y.P,0,none⟩)):=cell_of hR3 rfl;have b3:wr.cell? ⟨Y.R,3,none⟩=some (.slice (some ⟨Y.KB,0,none⟩) Y.n Y.n):=cell_of hR3 rfl;have b7:=pc.k.cell h7;obtain⟨bo,hbo⟩:∃bo:Nat,wr.cell? ⟨Y.KB,j,none⟩=some (.int .i64 bo):=⟨_,pc.bc j hjn⟩
     have bf:=pc.bf j;have p9:=RS.kb (pc.setB hjn nm) (kb_drew _);obtain⟨w9,hw9⟩:∃w9,w9=(wr.setCell ⟨Y.KB,j,none⟩ (.int .i64 nm)).drew:=⟨_,rfl⟩
     rw[<-hw9]at p9;have h9g:w9.heap[gk]? =w8.heap[gk]?:=by rw[hw9];exact(heap_setCell_other wr _ gk _ hgk.2.2).trans hgb
     have htk:RG.take (c+1)=RG.take c++[j]:=by rw[List.take_add_one,hj];rfl
     have ebf:(λy=>if y=j then nm else(λx=>if x ∈ RG.take c then Y.n+1 else K.b x) y)=λx=>if x ∈ RG.take (c+1)then Y.n+1 else K.b x:=by
      funext y
      rw[htk,(uh HNM)];by_cases q:y=j
      ·rw[if_pos q,if_pos (by simp[q])]
      ·rw[if_neg q];dsimp only;by_cases q2:y ∈ RG.take c
       ·rw[if_pos q2,if_pos (by simp[q2])]
       ·rw[if_neg q2,if_neg (by simp[q,q2])]
     have p9':RS Y ⟨K.m,K.t,λx=>if x ∈ RG.take (c+1)then Y.n+1 else K.b x,S.w,if 1<lr then lmin (RG.take c) K.l else K.l⟩ (.slice (some ⟨gk,0,none⟩) nw ck) w9:=by
      rw[<-ebf];exact p9
     have HW9:Hid (w9=(wr.setCell ⟨Y.KB,j,none⟩ (.int .i64 nm)).drew):=hw9;by_cases hl1:1<lr
     ·have l1I:(1:Int)<(lr:Int):=by omega
      rw[if_pos hl1]at p9';obtain⟨lo,hlo⟩:∃lo,lo=lmin (RG.take c) K.l:=⟨_,rfl⟩
      obtain⟨lm,hlm⟩:∃lm,lm=min lo j:=⟨_,rfl⟩
      have hlI:min (lo:Int) (j:Int)=(lm:Int):=by omega
      have hR9:w9.heap[Y.R]? =_:=p9'.rc;have d5:w9.cell? ⟨Y.R,5,none⟩=some (.int .i64 lo):=by rw[hlo];exact cell_of hR9 rfl
      have df5:w9.frozen? ⟨Y.R,5,none⟩=false:=frozen_of hR9
      have HN:Hid (RS Y ⟨K.m,K.t,λx=>if x ∈ RG.take (c+1)then Y.n+1 else K.b x,S.w,if 1<lr then lmin (RG.take (c+1)) K.l else K.l⟩ (.slice (some ⟨gk,0,none⟩) nw ck) (w9.setCell ⟨Y.R,5,none⟩ (.int .i64 lm))/\SamB gk (w9.setCell ⟨Y.R,5,none⟩ (.int .i64 lm)) w8):=by
       refine⟨?_,(heap_setCell_other w9 _ gk _ hgk.1).trans h9g⟩;have:=p9'.lst lm;rw[if_pos hl1,htk,lmin_app,<-hlo,<-hlm];rw[htk]at this;exact this
      clear pc hgb hring hrn hlr hgk hj hjn hR3 p9 hw9 h9g htk ebf p9' hl1 hlo hlm hR9;go_upto_region 20 with fail
      go_region
      go_upto_region 21 with fail;rw[<-(uh HW9)];clear HW9 f0 b0 b3 b7 hbo bf;go_wp2_with fail;go_roundw
      case rel=>exact⟨c+1,by go_num,by omega,HN⟩
      case measure=>simp[intOf];omega
     ·have l1I:¬(1:Int)<(lr:Int):=by omega
      have HN:Hid (RS Y ⟨K.m,K.t,λx=>if x ∈ RG.take (c+1)then Y.n+1 else K.b x,S.w,if 1<lr then lmin (RG.take (c+1)) K.l else K.l⟩ (.slice (some ⟨gk,0,none⟩) nw ck) w9/\SamB gk w9 w8):=by
       refine⟨?_,h9g⟩;rw[if_neg hl1]at p9'⊢;exact p9'
      clear pc hgb hring hrn hlr hgk hj hjn hR3 p9 hw9 h9g htk ebf p9' hl1;go_upto_region 20 with fail
      go_region
      go_upto_region 21 with fail;rw[<-(uh HW9)];clear HW9 f0 b0 b3 b7 hbo bf;go_wp2_with fail;go_roundw
      case rel=>exact⟨c+1,by go_num,by omega,HN⟩
      case measure=>simp[intOf];omega
    ·have cI2:¬(c:Int)<(lr:Int):=by omega
     have hcl:RG.take c=RG:=List.take_of_length_le (by omega);rw[hcl]at pc
     have HZ:=(uh HEND) wr (by
      unfold Ts.pop;rw[<-hlr]
      exact pc)
     have HZh:Hid (MeA Y (Es d) S i (.returned (.tuple #[])) wr):=HZ;clear HZ pc hgb hring hrn hlr hgk hcl HEND HRG;go_wp2_with fail;refine⟨rfl,.tuple #[],by simp[results,Tryz.results90],?_⟩;exact HZh
theorem im_meet {Y:RX} {d:Pd} {np:Nat} {pn:Option Addr} {cn:Nat} (hF:RF Y d np pn cn):∀(f:Nat) (S:Ts) (vw:Value) (w:World) (i:Nat),Y.n-S.m<=f->Tv Y.n (Es d) S->RS Y S vw w->i<Y.n->S.t i=0->Lk Y.n S->Calls Tryz.prog 90 #[.pointer (some ⟨Y.R,0,none⟩),.int .i64 i] w (MeA Y (Es d) S i)
 |0,S,vw,w,i,hf,hT,h,hi,h0,hL=>absurd (hT.lt hi h0) (by omega)
 |f+1,S,vw,w,i,hf,hT,h,hi,h0,hL=>meet_step hF w hT h hi h0 hL (λS' vw' w' z hm hl hT' hS hz hz0=>im_meet hF f S' vw' w' z (by omega) hT' hS hz hz0 hl)
