import Derived.Test.YtohbcpfjjimdnaaGreatDoorMCgc
set_option maxHeartbeats 64000000
namespace Go.Proofs.YtohbcpfjjimdnaaGreatDoor.Fo
open Go.ChangeShapes Go.WideShapes Go.ChangeAt Go.RowKit
set_option linter.unusedVariables false
set_option maxRecDepth 100000
variable {pa:Option Addr}{ca np n:Nat}{F:Nat->Pd}{va vb:Value}
theorem sp_parts0(w:World):
  Calls Tryz.prog 59 #[.agg #[.slice pa 0 ca]] w λe w'=>∃c f n:Nat,e=.returned (.agg #[.int .i64 c,.int .i64 f,.int .i64 n])/\Ans 5 0 F c f n/\Kb 0 w w':=by
 obtain⟨w2,hw2⟩:∃w2,w2=(w.alloc (.cells #[.slice pa 0 ca] 30)).alloc (.cells #[.int .i64 0,.int .i64 0,.int .i64 0] 39):=⟨_,rfl⟩
 obtain⟨b0,b1,sz2,k2⟩:=two_new w _ _ _ _ w2 hw2;have c2:w2.cell? ⟨w.heap.size,0,none⟩=some (.slice pa 0 ca):=cell_of b0 rfl;have HB:Hid (w2.heap[w.heap.size+1]? =some (.cells #[.int .i64 0,.int .i64 0,.int .i64 0] 39 (0,0))/\w2.heap.size=w.heap.size+2/\Kb 0 w w2):=(⟨b1,sz2,k2⟩:_/\_)
 have HW:Hid (w2=(w.alloc (.cells #[.slice pa 0 ca] 30)).alloc (.cells #[.int .i64 0,.int .i64 0,.int .i64 0] 39)):=hw2;have HAN:Hid (Ans 5 0 F 1 0 0):=Or.inl ⟨rfl,rfl,rfl,λh=>absurd h.1 (by omega)⟩;clear hw2 b0 b1 sz2 k2;go_enter Tryz.func59,Tryz.ntmps59;go_wp2_with fail;rw[<-(uh HW)];clear HW
 go_loopw [3,20] (λs3 s20 wr=>s20=.int .i64 0/\s3=.int .i64 0/\wr=w2) (λ_ _ _=>0)
 case atStart=>exact⟨rfl,rfl,rfl⟩
 case round=>
  obtain⟨rfl,rfl,rfl⟩:=hrel;go_wp2_with fail;obtain⟨b1,sz2,k2⟩:=(uh HB)
  refine(sp_fault 1 0 0 _).mono ?_;rintro e w9 ⟨rfl,k9⟩;have r0:w9.cell? ⟨w.heap.size+1,0,none⟩=some (.int .i64 0):=k9.cell (cell_of b1 rfl);have r1:w9.cell? ⟨w.heap.size+1,1,none⟩=some (.int .i64 0):=k9.cell (cell_of b1 rfl);have r2:w9.cell? ⟨w.heap.size+1,2,none⟩=some (.int .i64 0):=k9.cell (cell_of b1 rfl);have fr:∀j,w9.frozen? ⟨w.heap.size+1,j,none⟩=false:=λj=>(k9.frozen zq (by omega)).trans (frozen_of b1);have HKW:Hid (Kb 0 w w9):=k2.trans k9;clear k9 b1 sz2 k2 HB c2;go_wp2_with fail;refine bodyPost_ret (by simp[results,Tryz.results59,go_sem,r0,r1,r2];rfl) rfl ?_;exact⟨1,0,0,rfl,HAN,(((uh HKW).setCell ⟨w.heap.size+1,0,none⟩ (Or.inr (by show w.heap.size<=w.heap.size+1;omega)) _).setCell ⟨w.heap.size+1,1,none⟩ (Or.inr (by show w.heap.size<=w.heap.size+1;omega)) _).setCell ⟨w.heap.size+1,2,none⟩ (Or.inr (by show w.heap.size<=w.heap.size+1;omega)) _⟩
theorem ans_up{c f:Nat}(h:Ans 5 np F c f n)(hc:c≠0):Ans 7 np F c f n:=by
 rcases h with h|⟨h1,h2,h3,h4,h5⟩|⟨_,h2,_⟩
 ·exact .inl h
 ·exact .inr (.inl ⟨h1,h2,by omega,h4,h5⟩)
 ·exact absurd h2 hc
theorem sp_shape(w:World)(hpa:0<np->∃A:Addr,pa=some A/\np<=ca/\0<=A.block/\∀i,i<np->ProC 0 w (A.add (i*9)) (F i))(hb:Bd np F):
  Calls Tryz.prog 30 #[.agg #[.slice pa np ca]] w λe w'=>∃c f n:Nat,e=.returned (.agg #[.int .i64 c,.int .i64 f,.int .i64 n])/\Ans 7 np F c f n/\Kb 0 w w':=by
 have HP:∀W,Kb 0 w W->Calls Tryz.prog 59 #[.agg #[.slice pa np ca]] W λe w'=>∃c f n:Nat,e=.returned (.agg #[.int .i64 c,.int .i64 f,.int .i64 n])/\Ans 5 np F c f n/\Kb 0 W w':=by
  intro W k;rcases Nat.eq_zero_or_pos np with h|h
  ·subst h;exact sp_parts0 W
  ·obtain⟨A,rfl,hca,-,hfn⟩:=hpa h;exact sp_parts W (λi hi=>(hfn i hi).keep zq k) h hca hb
 have hnI:(np:Int)<=1048576:=by have:=hb.hnp;omega
 obtain⟨w2,hw2⟩:∃w2,w2=(w.alloc (.cells #[.slice pa np ca] 30)).alloc (.cells #[.int .i64 0,.int .i64 0,.int .i64 0] 39):=⟨_,rfl⟩
 obtain⟨b0,b1,sz2,k2⟩:=two_new w _ _ _ _ w2 hw2;have HPW:=HP w2 k2;have HB:Hid (w2.heap[w.heap.size]? =some (.cells #[.slice pa np ca] 30 (0,0))/\w2.heap[w.heap.size+1]? =some (.cells #[.int .i64 0,.int .i64 0,.int .i64 0] 39 (0,0))/\w2.heap.size=w.heap.size+2/\Kb 0 w w2):=(⟨b0,b1,sz2,k2⟩:_/\_)
 have HW:Hid (w2=(w.alloc (.cells #[.slice pa np ca] 30)).alloc (.cells #[.int .i64 0,.int .i64 0,.int .i64 0] 39)):=hw2;have HPA:Hid ((0<np->∃A:Addr,pa=some A/\np<=ca/\0<=A.block/\∀i,i<np->ProC 0 w (A.add (i*9)) (F i))/\Bd np F):=(⟨hpa,hb⟩:_/\_)
 clear hw2 b0 b1 sz2 k2 HP hpa hb;go_enter Tryz.func30,Tryz.ntmps30;go_wp2_with fail;rw[<-(uh HW)];clear HW;refine HPW.mono ?_;rintro e w3 ⟨c,f,n,rfl,hans,k3⟩;clear HPW;obtain⟨b0,b1,sz2,k2⟩:=(uh HB)
 obtain⟨w4,hw4⟩:∃w4,w4=w3.alloc (.cells #[.int .i64 c,.int .i64 f,.int .i64 n] 39):=⟨_,rfl⟩
 have k34:Kb 0 w3 w4:=by rw[hw4];exact kb_alloc _ _ _
 have a0:w4.cell? ⟨w3.heap.size,0,none⟩=some (.int .i64 c):=by rw[hw4];exact cell_of (alloc_new _ _ _) rfl
 have a1:w4.cell? ⟨w3.heap.size,1,none⟩=some (.int .i64 f):=by rw[hw4];exact cell_of (alloc_new _ _ _) rfl
 have a2:w4.cell? ⟨w3.heap.size,2,none⟩=some (.int .i64 n):=by rw[hw4];exact cell_of (alloc_new _ _ _) rfl
 have k24:=k3.trans k34;have HW4:Hid (w4=w3.alloc (.cells #[.int .i64 c,.int .i64 f,.int .i64 n] 39)):=hw4
 have HRES:Hid (∀W,Kb 0 w4 W->W.cell? ⟨w.heap.size+1,0,none⟩=some (.int .i64 0)/\W.cell? ⟨w.heap.size+1,1,none⟩=some (.int .i64 0)/\W.cell? ⟨w.heap.size+1,2,none⟩=some (.int .i64 0)/\(∀j,W.frozen? ⟨w.heap.size+1,j,none⟩=false)/\Kb 0 w W):=(λW k=>by
  have q:=k24.trans k;have:=q.size
  exact⟨q.cell (cell_of b1 rfl),q.cell (cell_of b1 rfl),q.cell (cell_of b1 rfl),λj=>(q.frozen zq (by omega)).trans (frozen_of b1),k2.trans q⟩:∀W,_)
 have c0:w4.cell? ⟨w.heap.size,0,none⟩=some (.slice pa np ca):=k24.cell (cell_of b0 rfl);have K4:Hid (Kb 0 w w4/\Kb 0 w2 w4):=(⟨k2.trans k24,k24⟩:_/\_)
 have HANS:Hid (Ans 5 np F c f n):=hans;clear HB b0 b1 sz2 k2 k3 k34 k24 hw4 hans;by_cases hc:c=0
 rotate_left
 ·have gc:((c:Int)==0)=false:=bne (by omega);have gc2:((c:Int) !=0)=true:=by simp;omega
  have HAN:Hid (Ans 7 np F c f n):=ans_up HANS hc;have r0:w4.cell? ⟨w.heap.size+1,0,none⟩=some (.int .i64 0):=((uh HRES) w4 (Kb.refl _ _)).1;have r1:w4.cell? ⟨w.heap.size+1,1,none⟩=some (.int .i64 0):=((uh HRES) w4 (Kb.refl _ _)).2.1;have r2:w4.cell? ⟨w.heap.size+1,2,none⟩=some (.int .i64 0):=((uh HRES) w4 (Kb.refl _ _)).2.2.1;have fr:∀j,w4.frozen? ⟨w.heap.size+1,j,none⟩=false:=λj=>((uh HRES) w4 (Kb.refl _ _)).2.2.2.1 j;clear HRES HANS hc HPA a0 a1 a2;have hw4:=(uh HW4)
  clear HW4;subst hw4;go_wp2_with fail;refine bodyPost_ret (by simp[results,Tryz.results30,go_sem,r0,r1,r2];rfl) rfl ?_;exact⟨c,f,n,rfl,HAN,((((show Kb 0 w _ from K4.1)).setCell ⟨w.heap.size+1,0,none⟩ (Or.inr (by show w.heap.size<=w.heap.size+1;omega)) _).setCell ⟨w.heap.size+1,1,none⟩ (Or.inr (by show w.heap.size<=w.heap.size+1;omega)) _).setCell ⟨w.heap.size+1,2,none⟩ (Or.inr (by show w.heap.size<=w.heap.size+1;omega)) _⟩
 subst hc;replace a0:w4.cell? ⟨w3.heap.size,0,none⟩=some (.int .i64 0):=a0;have HW4z:Hid (w4=w3.alloc (.cells #[.int .i64 0,.int .i64 f,.int .i64 n] 39)):=HW4;clear HW4;have HW4:=HW4z;clear HW4z
 obtain⟨hsz,hla⟩:Szu np F/\∀c',2<=c'->c'<=5->La (PQ F np c') (LQ F c') np:=by
  rcases(uh HANS)with h|h|h
  ·exact absurd h.1 (by omega)
  ·exact absurd h.2.1 (by omega)
  ·exact⟨h.1,h.2.2.2.2⟩
 obtain⟨A,rfl,hca,-,hfn⟩:=(uh HPA).1 hsz.1;have hb:=(uh HPA).2;have HLA:Hid (Szu np F/\∀c',2<=c'->c'<=5->La (PQ F np c') (LQ F c') np):=(⟨hsz,hla⟩:_/\_)
 have hhd:∀p,p<np->Hd p (F p):=λp hp=>hla 2 (by omega) (by omega) p hp 0 Nat.zero_lt_one;have HBOX:Hid (∀W,Kb 0 w4 W->W.cell? ⟨w.heap.size,0,none⟩=some (.slice (some A) np ca)):=(λW k=>k.cell c0:∀W,_)
 have HFN:Hid (∀W,Kb 0 w4 W->∀i,i<np->ProC 0 W (A.add (i*9)) (F i)):=(λW k i hi=>(hfn i hi).keep zq ((show Kb 0 w w4 from K4.1).trans k):∀W,_)
 have HUP:Hid (∀W,Kb 0 w4 W->∀p,p<np->∀k,k<np->Calls Tryz.prog 60 #[.agg #[.slice (some A) np ca],.int .i64 p,.int .i64 k] W λe w'=>e=.returned (.bool (dc (Uok (F p) (F k))))/\Kb 0 W w'):=(λW k p hp kk hk=>sp_upsok W (λi hi=>(hfn i hi).keep zq ((show Kb 0 w w4 from K4.1).trans k)) hp hk hb.hnp (hb.hu kk hk) (hb.hu p hp) (hhd p hp).2.2.1:∀W,_)
 have HBD:Hid (Bd np F):=hb
 have HMB:Hid (∀p i,p<np->i<(F p).n->((F p).N i).o=11->0<=((F p).N i).b/\((F p).N i).b<=(np:Int)-1):=(λp i hp hi ho=>by
  have h5:=hla 5 (by omega) (by omega) p hp i (by show i<L5 F p;unfold L5;split<;>omega)
  exact fn_rng (show P5 np F p i from h5).2.1 ho:∀p,_)
 have hmk:=run_make (P:=Tryz.prog) w4 75 4 Tryz.t4 (.bool false) Tryz.underlying75 (by kernel_rfl) (by kernel_rfl) .i64 .i64 (np:Int) (np:Int) (by omega) (Int.le_refl _) (by show(1:Int)*(np:Int)<=_;omega) (by omega);rw[Int.toNat_natCast]at hmk;obtain⟨w5,hw5⟩:∃w5,w5=w4.alloc (.cells (madeCells (.bool false:Value).cells (np*1)) 4):=⟨_,rfl⟩
 have hmk2:=hmk;rw[show np*Tryz.t4.size=np*1 from rfl,<-hw5]at hmk2;obtain⟨G,hG⟩:∃G,G=w4.heap.size:=⟨_,rfl⟩
 rw[<-hG]at hmk2
 have HA0:Hid (Ab w5 G np (λk=>dc (MB F 0 0 (k:Int))) w5):=by
  rw[hG,hw5];refine(ab_zero w4 np 4).eqv (λj _=>?_);exact dc_f (mb_zero F _)
 have HG:Hid (G=w4.heap.size/\Kb 0 w4 w5):=(⟨hG,by rw[hw5];exact kb_alloc _ _ _⟩:_/\_)
 clear hmk hw5 hG hb hsz hla hfn hhd HPA HANS a0 a1 a2;have hw4:=(uh HW4)
 have c5:w5.cell? ⟨w.heap.size,0,none⟩=some (.slice (some A) np ca):=(show Kb 0 w4 w5 from HG.2).cell c0;rw[hw4]at c0 hmk2;clear HW4 hw4;go_wp2_with fail;clear hmk2 c0 c5
 go_loopw [23] (λsl wr=>∃p:Nat,sl=.int .i64 p/\p<=np/\Hid (Ab w5 G np (λk=>dc (MB F p 0 (k:Int))) wr/\(∀g,g<p->∀y,y<(F g).n->P6 F g y))) (λsl _=>np-(intOf sl).toNat)
 case atStart=>exact⟨0,rfl,Nat.zero_le _,(⟨HA0,λg hg=>by omega⟩:_/\_)⟩
 case round=>
  clear HA0;obtain⟨p,rfl,hp,HX⟩:=hrel;obtain⟨hA,hX⟩:=(uh HX)
  obtain⟨hG,k45⟩:=(uh HG)
  have kw:Kb 0 w4 wr:=hA.old k45 (by omega);rcases Nat.lt_or_ge p np with h|h
  ·have hI:(p:Int)<(np:Int):=by omega
   obtain⟨vu,vc,vn,vd,⟨d0,d1,d2,d3,d4,d5,d6,d7,d8⟩,hvu,hvc,hvn,hvd⟩:=(uh HFN) wr kw p h;have hvn2:=hvn;obtain⟨pu,cu,rfl,-⟩:=hvu;obtain⟨pc,cc,rfl,-⟩:=hvc;obtain⟨pn,cn,rfl,-⟩:=hvn;obtain⟨pm,cm,rfl,-⟩:=hvd;have hlnI:((F p).n:Int)<=1048576:=by have:=(uh HBD).hn p h;omega
   obtain⟨w6,hw6⟩:∃w6,w6=wr.alloc (.cells #[.string (F p).x,.int .i64 (F p).l,.int .i64 (F p).m,.bool (F p).r,.int .i64 (F p).g,.slice pu (F p).u cu,.slice pc (F p).c cc,.slice pn (F p).n cn,.slice pm (F p).d cm] 52):=⟨_,rfl⟩
   have k6:Kb 0 wr w6:=by rw[hw6];exact kb_alloc _ _ _
   have HB6:Hid (Ab w5 G np (λk=>dc (MB F p 0 (k:Int))) w6/\(∀g,g<p->∀y,y<(F g).n->P6 F g y)/\(∀W,Kb 0 w4 W->RowI 0 W (.slice pn (F p).n cn) (F p).n (F p).N)):=(⟨hA.kb k6,hX,λW k=>by
    obtain⟨vu',vc',vn',vd',q,-,-,hv,-⟩:=(uh HFN) W k p h;obtain⟨vu2,vc2,vn2,vd2,q2,-,-,hv2,-⟩:=(uh HFN) w4 (Kb.refl _ _) p h;have e1:=q2.keep zq k;have e2:=q2.keep zq kw;have e3:vn2=.slice pn (F p).n cn:=Option.some.inj (e2.c7.symm.trans d7);have e4:vn'=vn2:=Option.some.inj (q.c7.symm.trans e1.c7)
    rw[<-e3,<-e4];exact hv⟩:_/\_)
   have HW6:Hid (w6=wr.alloc (.cells #[.string (F p).x,.int .i64 (F p).l,.int .i64 (F p).m,.bool (F p).r,.int .i64 (F p).g,.slice pu (F p).u cu,.slice pc (F p).c cc,.slice pn (F p).n cn,.slice pm (F p).d cm] 52)):=hw6;clear HX hX hA kw k6 hw6 hvn2 k45 hG;go_wp2_with fail;rw[<-(uh HW6)];clear HW6 d0 d1 d2 d3 d4 d5 d6 d7 d8
   go_loopw [31] (λsl wr=>∃j:Nat,sl=.int .i64 j/\j<=(F p).n/\Hid (Ab w5 G np (λk=>dc (MB F p j (k:Int))) wr/\∀y,y<j->P6 F p y)) (λsl _=>(F p).n-(intOf sl).toNat)
   case atStart=>exact⟨0,rfl,Nat.zero_le _,(⟨HB6.1,λy hy=>by omega⟩:_/\_)⟩
   case round=>
    obtain⟨j,rfl,hj,HY⟩:=hrel;obtain⟨hA,hY⟩:=(uh HY)
    obtain⟨hG,k45⟩:=(uh HG)
    have kw:Kb 0 w4 wr:=hA.old k45 (by omega);obtain⟨-,hXP,hrI⟩:=(uh HB6)
    rcases Nat.lt_or_ge j (F p).n with h2|h2
    ·have hI2:(j:Int)<((F p).n:Int):=by omega
     obtain⟨pn',cn',e1,hrow2⟩:=hrI wr kw;obtain⟨rfl,-,rfl⟩:pn=pn'/\(F p).n=(F p).n/\cn=cn':=by simpa using e1
     obtain⟨b,rfl,hcb,-,hrb⟩:=hrow2 (by omega);obtain⟨q0,q1,q2,q3,q4⟩:=hrb j h2;have hm:=(uh HMB) p j h h2;have hnx:=λk=>mb_next (F:=F) (p:=p) (i:=j) h2 k;have h6:P6 F p j↔(((F p).N j).o=11->(p:Int)<((F p).N j).b/\¬MB F p j ((F p).N j).b/\Uok (F p) (F ((F p).N j).b.toNat)):=Iff.rfl;have hbad:¬P6 F p j->Ans 7 np F 6 p j:=λc=>Or.inr (Or.inl ⟨HLA.1,by omega,by omega,⟨h,h2,c,hY,λg hg y hy=>hXP g hg y hy⟩,λc' h1 h3=>HLA.2 c' h1 (by omega)⟩)
     have hgood:P6 F p j->∀y,y<j+1->P6 F p y:=λc y hy=>by
      by_cases e:y=j
      ·subst e;exact c
      ·exact hY y (by omega)
     generalize (F p).N j=v at*;obtain⟨vo,va,vb,vc3,vd3⟩:=v;dsimp only at q0 q1 q2 q3 q4 hm hnx h6;obtain⟨w7,hw7⟩:∃w7,w7=wr.alloc (.cells #[.int .i64 vo,.int .i64 va,.int .i64 vb,.int .i64 vc3,.int .i64 vd3] 79):=⟨_,rfl⟩
     have k7:Kb 0 wr w7:=by rw[hw7];exact kb_alloc _ _ _
     have HW7:Hid (w7=wr.alloc (.cells #[.int .i64 vo,.int .i64 va,.int .i64 vb,.int .i64 vc3,.int .i64 vd3] 79)):=hw7;have i0:w7.cell? ⟨wr.heap.size,0,none⟩=some (.int .i64 vo):=by rw[hw7];exact cell_of (alloc_new _ _ _) rfl
     have i2:w7.cell? ⟨wr.heap.size,2,none⟩=some (.int .i64 vb):=by rw[hw7];exact cell_of (alloc_new _ _ _) rfl
     have kw7:=kw.trans k7;have hA7:=hA.kb k7;clear hrow2 hrb e1 hw7 HY hY hXP hrI;by_cases ho:vo=11
     rotate_left
     ·have g1:(vo==11)=false:=bne ho;have g2:(vo !=11)=true:=by simp[ho]
      have HX3:Hid (Ab w5 G np (λk=>dc (MB F p (j+1) (k:Int))) w7/\∀y,y<j+1->P6 F p y):=(⟨hA7.eqv (λk _=>dc_iff ((hnx (k:Int)).trans ⟨λq=>q.elim id (λq=>absurd q.1 ho),.inl⟩)),hgood (h6.2 (λq=>absurd q ho))⟩:_/\_)
      clear hm hnx h6 hbad hgood kw7 hA7 hA kw k7 k45 hG ho HRES HBOX HFN HUP HBD HMB HLA HB6;have hw7:=(uh HW7)
      clear HW7;subst hw7;go_wp2_with fail;clear q0 q1 q2 q3 q4;go_roundw
      case rel=>exact⟨j+1,by go_num,by omega,HX3⟩
      case measure=>simp[intOf];omega
     subst ho;obtain⟨m1,m2⟩:=hm rfl;obtain⟨kb,rfl⟩:∃kb:Nat,vb=(kb:Int):=⟨vb.toNat,by omega⟩
     have hkb:kb<np:=by omega
     have hkI:(kb:Int)<(np:Int):=by omega
     rw[Int.toNat_natCast]at h6;have cg:=hA7.ce kb hkb;have fg:=hA7.fz kb;have HUP2:=(uh HUP) w7 kw7 p h kb hkb;have c2:w7.cell? ⟨w.heap.size,0,none⟩=some (.slice (some A) np ca):=(uh HBOX) w7 kw7;by_cases hb1:(kb:Int)<=(p:Int)
     ·have HAN0:Hid (Ans 7 np F 6 p j):=hbad (λc=>by have:=(h6.1 c rfl).1;omega);have HKC5:Hid (Kb 0 w4 w7):=kw7;have gb1:decide ((kb:Int)<=(p:Int))=true:=decide_eq_true hb1;have gb2:decide (kb<=p)=true:=decide_eq_true (by omega);clear hm hnx h6 hbad hgood kw7 hA7 hA kw k7 k45 hG HBOX HFN HUP HBD HMB HLA HB6 cg fg HUP2 m1 m2;have hw7:=(uh HW7)
      clear HW7;subst hw7;go_wp2_with fail;clear q0 q1 q2 q3 q4;have KCUR:=(uh HKC5)
      have HRES1:=(uh HRES)
      refine(sp_fault 6 (p:Int) (j:Int) _).mono ?_;rintro e w9 ⟨rfl,k9⟩;have r0:w9.cell? ⟨w.heap.size+1,0,none⟩=some (.int .i64 0):=k9.cell (HRES1 _ KCUR).1;have r1:w9.cell? ⟨w.heap.size+1,1,none⟩=some (.int .i64 0):=k9.cell (HRES1 _ KCUR).2.1;have r2:w9.cell? ⟨w.heap.size+1,2,none⟩=some (.int .i64 0):=k9.cell (HRES1 _ KCUR).2.2.1;have fr:∀j,w9.frozen? ⟨w.heap.size+1,j,none⟩=false:=λj=>(HRES1 w9 (KCUR.trans k9)).2.2.2.1 j;have HKW:Hid (Kb 0 w w9):=(HRES1 w9 (KCUR.trans k9)).2.2.2.2;clear k9 KCUR HRES1 HRES;go_wp2_with fail;refine bodyPost_ret (by simp[results,Tryz.results30,go_sem,r0,r1,r2];rfl) rfl ?_;exact⟨_,_,_,rfl,HAN0,((((uh HKW)).setCell ⟨w.heap.size+1,0,none⟩ (Or.inr (by show w.heap.size<=w.heap.size+1;omega)) _).setCell ⟨w.heap.size+1,1,none⟩ (Or.inr (by show w.heap.size<=w.heap.size+1;omega)) _).setCell ⟨w.heap.size+1,2,none⟩ (Or.inr (by show w.heap.size<=w.heap.size+1;omega)) _⟩
     have hb2:¬kb<=p:=by omega
     by_cases hmb:MB F p j (kb:Int)
     ·have HAN0:Hid (Ans 7 np F 6 p j):=hbad (λc=>(h6.1 c rfl).2.1 hmb);have HKC5:Hid (Kb 0 w4 w7):=kw7;rw[dc_t hmb]at cg;have gb1:decide ((kb:Int)<=(p:Int))=false:=decide_eq_false hb1;have gb2:decide (kb<=p)=false:=decide_eq_false (by omega);clear hm hnx h6 hbad hgood kw7 hA7 hA kw k7 k45 hG HBOX HFN HUP HBD HMB HLA HB6 HUP2 m1 m2 hmb;have hw7:=(uh HW7)
      clear HW7;subst hw7;go_wp2_with fail;clear q0 q1 q2 q3 q4;have KCUR:=(uh HKC5)
      have HRES1:=(uh HRES)
      refine(sp_fault 6 (p:Int) (j:Int) _).mono ?_;rintro e w9 ⟨rfl,k9⟩;have r0:w9.cell? ⟨w.heap.size+1,0,none⟩=some (.int .i64 0):=k9.cell (HRES1 _ KCUR).1;have r1:w9.cell? ⟨w.heap.size+1,1,none⟩=some (.int .i64 0):=k9.cell (HRES1 _ KCUR).2.1;have r2:w9.cell? ⟨w.heap.size+1,2,none⟩=some (.int .i64 0):=k9.cell (HRES1 _ KCUR).2.2.1;have fr:∀j,w9.frozen? ⟨w.heap.size+1,j,none⟩=false:=λj=>(HRES1 w9 (KCUR.trans k9)).2.2.2.1 j;have HKW:Hid (Kb 0 w w9):=(HRES1 w9 (KCUR.trans k9)).2.2.2.2;clear k9 KCUR HRES1 HRES;go_wp2_with fail;refine bodyPost_ret (by simp[results,Tryz.results30,go_sem,r0,r1,r2];rfl) rfl ?_;exact⟨_,_,_,rfl,HAN0,((((uh HKW)).setCell ⟨w.heap.size+1,0,none⟩ (Or.inr (by show w.heap.size<=w.heap.size+1;omega)) _).setCell ⟨w.heap.size+1,1,none⟩ (Or.inr (by show w.heap.size<=w.heap.size+1;omega)) _).setCell ⟨w.heap.size+1,2,none⟩ (Or.inr (by show w.heap.size<=w.heap.size+1;omega)) _⟩
     rw[dc_f hmb]at cg;have gb1:decide ((kb:Int)<=(p:Int))=false:=decide_eq_false hb1;have gb2:decide (kb<=p)=false:=decide_eq_false (by omega);by_cases hu:Uok (F p) (F kb)
     rotate_left
     ·rw[dc_f hu]at HUP2;have HAN0:Hid (Ans 7 np F 6 p j):=hbad (λc=>hu (h6.1 c rfl).2.2);have HKC:Hid (Kb 0 w4 w7):=kw7;clear hm hnx h6 hbad hgood kw7 hA7 hA kw k7 k45 hG HBOX HFN HUP HBD HMB HLA HB6 m1 m2 hmb hu;have hw7:=(uh HW7)
      clear HW7;subst hw7;go_wp2_with fail;clear q0 q1 q2 q3 q4;refine HUP2.mono ?_;rintro e w8 ⟨rfl,k8⟩;have HKC5:Hid (Kb 0 w4 w8):=(uh HKC).trans k8;clear k8 HKC HUP2 cg fg c2 i0 i2;go_wp2_with fail;have KCUR:=(uh HKC5)
      have HRES1:=(uh HRES)
      refine(sp_fault 6 (p:Int) (j:Int) _).mono ?_;rintro e w9 ⟨rfl,k9⟩;have r0:w9.cell? ⟨w.heap.size+1,0,none⟩=some (.int .i64 0):=k9.cell (HRES1 _ KCUR).1;have r1:w9.cell? ⟨w.heap.size+1,1,none⟩=some (.int .i64 0):=k9.cell (HRES1 _ KCUR).2.1;have r2:w9.cell? ⟨w.heap.size+1,2,none⟩=some (.int .i64 0):=k9.cell (HRES1 _ KCUR).2.2.1;have fr:∀j,w9.frozen? ⟨w.heap.size+1,j,none⟩=false:=λj=>(HRES1 w9 (KCUR.trans k9)).2.2.2.1 j;have HKW:Hid (Kb 0 w w9):=(HRES1 w9 (KCUR.trans k9)).2.2.2.2;clear k9 KCUR HRES1 HRES;go_wp2_with fail;refine bodyPost_ret (by simp[results,Tryz.results30,go_sem,r0,r1,r2];rfl) rfl ?_;exact⟨_,_,_,rfl,HAN0,((((uh HKW)).setCell ⟨w.heap.size+1,0,none⟩ (Or.inr (by show w.heap.size<=w.heap.size+1;omega)) _).setCell ⟨w.heap.size+1,1,none⟩ (Or.inr (by show w.heap.size<=w.heap.size+1;omega)) _).setCell ⟨w.heap.size+1,2,none⟩ (Or.inr (by show w.heap.size<=w.heap.size+1;omega)) _⟩
     rw[dc_t hu]at HUP2
     have HX3:Hid (∀W,Kb 0 w7 W->Ab w5 G np (λk=>dc (MB F p (j+1) (k:Int))) (W.setCell ⟨G,kb,none⟩ (.bool true))/\∀y,y<j+1->P6 F p y):=(λW k=>⟨(hA7.kb k).set hkb (λy hy=>by
      by_cases e:y=kb
      ·subst e;rw[if_pos rfl];exact dc_t ((hnx _).2 (.inr ⟨rfl,rfl⟩))
      ·rw[if_neg e]
       exact dc_iff ((hnx (y:Int)).trans ⟨λq=>q.elim id (λq=>by have:=q.2;omega),.inl⟩)),hgood (h6.2 (λ_=>⟨by omega,hmb,hu⟩))⟩:∀W,_)
     have HCE:Hid (∀W,Kb 0 w7 W->W.cell? ⟨wr.heap.size,2,none⟩=some (.int .i64 kb)/\W.cell? ⟨G,kb,none⟩=some (.bool false)/\W.frozen? ⟨G,kb,none⟩=false):=(λW k=>⟨k.cell i2,k.cell cg,(hA7.kb k).fz kb⟩:∀W,_)
     clear hm hnx h6 hbad hgood kw7 hA7 hA kw k7 k45 hG HRES HBOX HFN HUP HBD HMB HLA HB6 m1 m2 hmb hu;have hw7:=(uh HW7)
     clear HW7;subst hw7;go_wp2_with fail;clear q0 q1 q2 q3 q4;refine HUP2.mono ?_;rintro e w8 ⟨rfl,k8⟩;have HX4:Hid (Ab w5 G np (λk=>dc (MB F p (j+1) (k:Int))) (w8.setCell ⟨G,kb,none⟩ (.bool true))/\∀y,y<j+1->P6 F p y):=(uh HX3) w8 k8;obtain⟨t2,cg2,fg2⟩:=(uh HCE) w8 k8;clear k8 HUP2 cg fg c2 i0 i2 HX3 HCE;go_wp2_with fail;go_roundw
     case rel=>exact⟨j+1,by go_num,by omega,HX4⟩
     case measure=>simp[intOf];omega
    ·have hI2:¬(j:Int)<((F p).n:Int):=by omega
     obtain rfl:j=(F p).n:=by omega
     have HX4:Hid (Ab w5 G np (λk=>dc (MB F (p+1) 0 (k:Int))) wr/\(∀g,g<p+1->∀y,y<(F g).n->P6 F g y)):=(⟨hA.eqv (λk _=>dc_iff (mb_end _)),λg hg y hy=>by
      by_cases e:g=p
      ·subst e;exact hY y hy
      ·exact hXP g (by omega) y hy⟩:_/\_)
     clear HY hY hA kw hXP hrI k45 hG HRES HBOX HFN HUP HBD HMB HLA HB6;go_wp2_with fail;go_roundw
     case rel=>exact⟨p+1,by go_num,by omega,HX4⟩
     case measure=>simp[intOf];omega
  ·obtain rfl:np=p:=by omega
   have hI:¬(np:Int)<(np:Int):=by omega
   have HA1:Hid (Ab w5 G np (λk=>dc (MB F np 0 (k:Int))) wr):=hA;have H6:Hid (∀g,g<np->∀y,y<(F g).n->P6 F g y):=hX;have hn1:1<=np:=(uh HLA).1.1;clear HX hX hA kw k45 hG HUP HFN HMB h;go_wp2_with fail;clear hI
   go_loopw [9] (λsl wr=>∃p:Nat,sl=.int .i64 p/\1<=p/\p<=np/\Hid (Ab w5 G np (λk=>dc (MB F np 0 (k:Int))) wr/\(∀g,g<p->P7 np F g))) (λsl _=>np-(intOf sl).toNat)
   case atStart=>exact⟨1,rfl,Nat.le_refl _,hn1,(⟨HA1,λg hg=>.inl (by omega)⟩:_/\_)⟩
   case round=>
    clear HA1;obtain⟨p,rfl,hp1,hp,HX⟩:=hrel;obtain⟨hA,hX⟩:=(uh HX)
    obtain⟨hG,k45⟩:=(uh HG)
    have kw:Kb 0 w4 wr:=hA.old k45 (by omega);have c2:wr.cell? ⟨w.heap.size,0,none⟩=some (.slice (some A) np ca):=(uh HBOX) wr kw;have hla:=(uh HLA)
    have h6:=(uh H6)
    have hq:∀c',2<=c'->c'<7->La (PQ F np c') (LQ F c') np:=λc' h1 h3=>by
     by_cases e:c'=6
     ·subst e;exact h6
     ·exact hla.2 c' h1 (by omega)
    rcases Nat.lt_or_ge p np with h|h
    ·have hI:(p:Int)<(np:Int):=by omega
     have cg:=hA.ce p h;by_cases hmb:MB F np 0 (p:Int)
     ·rw[dc_t hmb]at cg
      have HX3:Hid (Ab w5 G np (λk=>dc (MB F np 0 (k:Int))) wr/\(∀g,g<p+1->P7 np F g)):=(⟨hA,λg hg=>by
       by_cases e:g=p
       ·subst e;exact .inr hmb
       ·exact hX g (by omega)⟩:_/\_)
      clear HX hX hA kw hla h6 hq hmb k45 hG HRES HBOX HBD HLA H6;go_wp2_with fail;go_roundw
      case rel=>exact⟨p+1,by go_num,by omega,by omega,HX3⟩
      case measure=>simp[intOf];omega
     ·rw[dc_f hmb]at cg;have HAN0:Hid (Ans 7 np F 7 p 0):=Or.inr (Or.inl ⟨hla.1,by omega,by omega,⟨h,Nat.zero_lt_one,λq=>(show P7 np F p from q).elim (by omega) hmb,λi hi=>by omega,λg hg _ _=>hX g hg⟩,hq⟩);have HKC5:Hid (Kb 0 w4 wr):=kw;clear HX hX hA kw hla h6 hq hmb k45 hG HBOX HBD HLA H6;go_wp2_with fail;have KCUR:=(uh HKC5)
      have HRES1:=(uh HRES)
      refine(sp_fault 7 (p:Int) 0 _).mono ?_;rintro e w9 ⟨rfl,k9⟩;have r0:w9.cell? ⟨w.heap.size+1,0,none⟩=some (.int .i64 0):=k9.cell (HRES1 _ KCUR).1;have r1:w9.cell? ⟨w.heap.size+1,1,none⟩=some (.int .i64 0):=k9.cell (HRES1 _ KCUR).2.1;have r2:w9.cell? ⟨w.heap.size+1,2,none⟩=some (.int .i64 0):=k9.cell (HRES1 _ KCUR).2.2.1;have fr:∀j,w9.frozen? ⟨w.heap.size+1,j,none⟩=false:=λj=>(HRES1 w9 (KCUR.trans k9)).2.2.2.1 j;have HKW:Hid (Kb 0 w w9):=(HRES1 w9 (KCUR.trans k9)).2.2.2.2;clear k9 KCUR HRES1 HRES;go_wp2_with fail;refine bodyPost_ret (by simp[results,Tryz.results30,go_sem,r0,r1,r2];rfl) rfl ?_;exact⟨_,_,_,rfl,HAN0,((((uh HKW)).setCell ⟨w.heap.size+1,0,none⟩ (Or.inr (by show w.heap.size<=w.heap.size+1;omega)) _).setCell ⟨w.heap.size+1,1,none⟩ (Or.inr (by show w.heap.size<=w.heap.size+1;omega)) _).setCell ⟨w.heap.size+1,2,none⟩ (Or.inr (by show w.heap.size<=w.heap.size+1;omega)) _⟩
    ·have hI:¬(p:Int)<(np:Int):=by omega
     obtain rfl:np=p:=by omega
     have r0:wr.cell? ⟨w.heap.size+1,0,none⟩=some (.int .i64 0):=((uh HRES) wr kw).1;have r1:wr.cell? ⟨w.heap.size+1,1,none⟩=some (.int .i64 0):=((uh HRES) wr kw).2.1;have r2:wr.cell? ⟨w.heap.size+1,2,none⟩=some (.int .i64 0):=((uh HRES) wr kw).2.2.1;have fr:∀j,wr.frozen? ⟨w.heap.size+1,j,none⟩=false:=λj=>((uh HRES) wr kw).2.2.2.1 j;have HKW:Hid (Kb 0 w wr):=((uh HRES) wr kw).2.2.2.2
     have HAN:Hid (Ans 7 np F 0 0 0):=Or.inr (Or.inr ⟨hla.1,rfl,rfl,rfl,λc' h1 h3=>by
      by_cases e:c'=7
      ·subst e;exact λg hg _ _=>hX g hg
      ·exact hq c' h1 (by omega)⟩)
     clear HX hX hA kw hla h6 hq k45 hG HBOX HBD HLA H6 HRES;go_wp2_with fail;refine bodyPost_ret (by simp[results,Tryz.results30,go_sem,r0,r1,r2];rfl) rfl ?_;exact⟨0,0,0,rfl,HAN,((((uh HKW)).setCell ⟨w.heap.size+1,0,none⟩ (Or.inr (by show w.heap.size<=w.heap.size+1;omega)) _).setCell ⟨w.heap.size+1,1,none⟩ (Or.inr (by show w.heap.size<=w.heap.size+1;omega)) _).setCell ⟨w.heap.size+1,2,none⟩ (Or.inr (by show w.heap.size<=w.heap.size+1;omega)) _⟩
theorem to_up(a:Bool×Int)(w:World):Calls Tryz.prog 103 #[upv a] w λe w'=>e=.returned (upv a)/\Kb 0 w w':=by
 unfold upv;go_enter Tryz.func103,Tryz.ntmps103;go_wp2_with fail;refine bodyPost_ret (by simp[results,Tryz.results103,go_sem];rfl) rfl ?_;exact⟨rfl,kb_alloc3 _ _ _ _ _⟩
theorem to_ins(a:Iv)(w:World):Calls Tryz.prog 105 #[insv a] w λe w'=>e=.returned (insv a)/\Kb 0 w w':=by
 unfold insv;go_enter Tryz.func105,Tryz.ntmps105;go_wp2_with fail;refine bodyPost_ret (by simp[results,Tryz.results105,go_sem];rfl) rfl ?_;exact⟨rfl,kb_alloc3 _ _ _ _ _⟩
theorem to_nam(a:Mv)(w:World):Calls Tryz.prog 106 #[namv a] w λe w'=>e=.returned (namv a)/\Kb 0 w w':=by
 unfold namv;go_enter Tryz.func106,Tryz.ntmps106;go_wp2_with fail;refine bodyPost_ret (by simp[results,Tryz.results106,go_sem];rfl) rfl ?_;exact⟨rfl,kb_alloc3 _ _ _ _ _⟩
theorem to_valu(a:Vv)(w:World):Calls Tryz.prog 104 #[valv a] w λe w'=>e=.returned (valv a)/\Kb 0 w w':=by
 unfold valv;have hst:=hst0;go_enter Tryz.func104,Tryz.ntmps104;go_wp2_with fail;refine bodyPost_ret (by simp[results,Tryz.results104,go_sem];rfl) rfl ?_;exact⟨rfl,kb_alloc3 _ _ _ _ _⟩
theorem eq_up(u:Bool×Int)(w:World):Calls Tryz.prog 126 #[upv u,upv u] w λe w'=>e=.returned (.bool true)/\Kb 0 w w':=by
 unfold upv;obtain⟨b,z⟩:=u;have h1:(z !=z)=false:=by simp
 have h2:(b !=b)=false:=by cases b<;>rfl
 cases b
 all_goals
  go_enter Tryz.func126,Tryz.ntmps126;go_wp2_with fail;go_ret;exact⟨rfl,kb_alloc2 _ _ _ _⟩
theorem eq_ins(u:Iv)(w:World):Calls Tryz.prog 128 #[insv u,insv u] w λe w'=>e=.returned (.bool true)/\Kb 0 w w':=by
 unfold insv;obtain⟨o,a,b,c,d⟩:=u;have h1:(o !=o)=false:=by simp
 have h2:(a !=a)=false:=by simp
 have h3:(b !=b)=false:=by simp
 have h4:(c !=c)=false:=by simp
 have h5:(d !=d)=false:=by simp
 go_enter Tryz.func128,Tryz.ntmps128;go_wp2_with fail;go_ret;exact⟨rfl,kb_alloc2 _ _ _ _⟩
theorem eq_nam(u:Mv)(w:World):Calls Tryz.prog 129 #[namv u,namv u] w λe w'=>e=.returned (.bool true)/\Kb 0 w w':=by
 unfold namv;obtain⟨x,a,b,c⟩:=u;have h2:(a !=a)=false:=by simp
 have h3:(b !=b)=false:=by simp
 have h4:(c !=c)=false:=by simp
 go_enter Tryz.func129,Tryz.ntmps129;go_wp2_with fail;go_ret;exact⟨rfl,kb_alloc2 _ _ _ _⟩
theorem eq_valu(u:Vv)(hg:u.g<18446744073709551616)(w:World):Calls Tryz.prog 127 #[valv u,valv u] w λe w'=>e=.returned (.bool true)/\Kb 0 w w':=by
 unfold valv;obtain⟨k,m,g,x,r⟩:=u;have hsf:=same_flt g hg;have e1:(k !=k)=false:=by simp
 have e2:(m !=m)=false:=by simp
 have e3:(r !=r)=false:=by simp
 dsimp only;clear hg;go_enter Tryz.func127,Tryz.ntmps127;go_wp2_with fail;refine(hsf _).mono ?_;rintro e w4 ⟨rfl,rfl⟩;go_wp2_with fail;go_ret;exact⟨rfl,kb_alloc2 _ _ _ _⟩
theorem eq_pro{f:Pd}{vu vc vn vd uu uc un ud:Value}(w:World)
  (g0:∀W',Kb 0 w W'->Calls Tryz.prog 92 #[vu,uu] W' λe w'=>e=.returned (.bool true)/\Kb 0 W' w')
  (g1:∀W',Kb 0 w W'->Calls Tryz.prog 93 #[vc,uc] W' λe w'=>e=.returned (.bool true)/\Kb 0 W' w')
  (g2:∀W',Kb 0 w W'->Calls Tryz.prog 94 #[vn,un] W' λe w'=>e=.returned (.bool true)/\Kb 0 W' w')
  (g3:∀W',Kb 0 w W'->Calls Tryz.prog 95 #[vd,ud] W' λe w'=>e=.returned (.bool true)/\Kb 0 W' w'):
  Calls Tryz.prog 49 #[prov f vu vc vn vd,prov f uu uc un ud] w λe w'=>e=.returned (.bool true)/\Kb 0 w w':=by
 have G0:Hid (∀W',Kb 0 w W'->Calls Tryz.prog 92 #[vu,uu] W' λe w'=>e=.returned (.bool true)/\Kb 0 W' w'):=g0;have G1:Hid (∀W',Kb 0 w W'->Calls Tryz.prog 93 #[vc,uc] W' λe w'=>e=.returned (.bool true)/\Kb 0 W' w'):=g1;have G2:Hid (∀W',Kb 0 w W'->Calls Tryz.prog 94 #[vn,un] W' λe w'=>e=.returned (.bool true)/\Kb 0 W' w'):=g2;have G3:Hid (∀W',Kb 0 w W'->Calls Tryz.prog 95 #[vd,ud] W' λe w'=>e=.returned (.bool true)/\Kb 0 W' w'):=g3;clear g0 g1 g2 g3;unfold prov;generalize f.x=x at*;generalize f.l=l at*;generalize f.m=m at*;generalize f.r=r at*;generalize f.g=g at*;have e1:(l !=l)=false:=by simp
 have e2:(m !=m)=false:=by simp
 have e3:(r !=r)=false:=by cases r<;>rfl
 have e4:(g !=g)=false:=by simp
 obtain⟨w2,hw2⟩:∃w2,w2=(w.alloc (.cells #[.string x,.int .i64 l,.int .i64 m,.bool r,.int .i64 g,vu,vc,vn,vd] 52)).alloc (.cells #[.string x,.int .i64 l,.int .i64 m,.bool r,.int .i64 g,uu,uc,un,ud] 52):=⟨_,rfl⟩
 have k2:Kb 0 w w2:=by rw[hw2];exact kb_alloc2 _ _ _ _
 have b0:w2.heap[w.heap.size]? =some (.cells #[.string x,.int .i64 l,.int .i64 m,.bool r,.int .i64 g,vu,vc,vn,vd] 52 (0,0)):=by
  rw[hw2,(kb_alloc 0 _ _).block _ zq (by rw[World.size_alloc];omega)];exact alloc_new _ _ _
 have b1:w2.heap[w.heap.size+1]? =some (.cells #[.string x,.int .i64 l,.int .i64 m,.bool r,.int .i64 g,uu,uc,un,ud] 52 (0,0)):=by
  have e:(w.alloc (.cells #[.string x,.int .i64 l,.int .i64 m,.bool r,.int .i64 g,vu,vc,vn,vd] 52)).heap.size=w.heap.size+1:=World.size_alloc _ _;rw[hw2,<-e];exact alloc_new _ _ _
 have HK:Hid (Kb 0 w w2/\w2.heap[w.heap.size]? =some (.cells #[.string x,.int .i64 l,.int .i64 m,.bool r,.int .i64 g,vu,vc,vn,vd] 52 (0,0))/\w2.heap[w.heap.size+1]? =some (.cells #[.string x,.int .i64 l,.int .i64 m,.bool r,.int .i64 g,uu,uc,un,ud] 52 (0,0))/\w.heap.size+1<w2.heap.size):=(⟨k2,b0,b1,by rw[hw2];simp⟩:_/\_)
 have HW:Hid (w2=(w.alloc (.cells #[.string x,.int .i64 l,.int .i64 m,.bool r,.int .i64 g,vu,vc,vn,vd] 52)).alloc (.cells #[.string x,.int .i64 l,.int .i64 m,.bool r,.int .i64 g,uu,uc,un,ud] 52)):=hw2;clear hw2 k2 b0 b1;go_enter Tryz.func49,Tryz.ntmps49;go_wp2_with fail;rw[<-(uh HW)];clear HW;refine((show ∀W',Kb 0 w W'->Calls Tryz.prog 92 #[vu,uu] W' λe w'=>e=.returned (.bool true)/\Kb 0 W' w' from G0) w2 HK.1).mono ?_;rintro e x0 ⟨rfl,k0⟩
 have HL:Hid (Kb 0 w x0/\x0.heap[w.heap.size]? =some (.cells #[.string x,.int .i64 l,.int .i64 m,.bool r,.int .i64 g,vu,vc,vn,vd] 52 (0,0))/\x0.heap[w.heap.size+1]? =some (.cells #[.string x,.int .i64 l,.int .i64 m,.bool r,.int .i64 g,uu,uc,un,ud] 52 (0,0))/\w.heap.size+1<x0.heap.size):=by
  obtain⟨q1,q2,q3,q4⟩:=(uh HK)
  have q5:=k0.size;exact⟨q1.trans k0,(k0.block _ zq (by omega)).trans q2,(k0.block _ zq (by omega)).trans q3,by omega⟩
 clear HK;have HK:=HL;clear HL k0 G0;have c0:x0.cell? ⟨w.heap.size,6,none⟩=some (vc):=cell_of HK.2.1 rfl;have d0:x0.cell? ⟨w.heap.size+1,6,none⟩=some (uc):=cell_of HK.2.2.1 rfl;go_wp2_with fail;clear c0 d0;refine((show ∀W',Kb 0 w W'->Calls Tryz.prog 93 #[vc,uc] W' λe w'=>e=.returned (.bool true)/\Kb 0 W' w' from G1) x0 HK.1).mono ?_;rintro e x1 ⟨rfl,k1⟩
 have HL:Hid (Kb 0 w x1/\x1.heap[w.heap.size]? =some (.cells #[.string x,.int .i64 l,.int .i64 m,.bool r,.int .i64 g,vu,vc,vn,vd] 52 (0,0))/\x1.heap[w.heap.size+1]? =some (.cells #[.string x,.int .i64 l,.int .i64 m,.bool r,.int .i64 g,uu,uc,un,ud] 52 (0,0))/\w.heap.size+1<x1.heap.size):=by
  obtain⟨q1,q2,q3,q4⟩:=(uh HK)
  have q5:=k1.size;exact⟨q1.trans k1,(k1.block _ zq (by omega)).trans q2,(k1.block _ zq (by omega)).trans q3,by omega⟩
 clear HK;have HK:=HL;clear HL k1 G1;have c1:x1.cell? ⟨w.heap.size,7,none⟩=some (vn):=cell_of HK.2.1 rfl;have d1:x1.cell? ⟨w.heap.size+1,7,none⟩=some (un):=cell_of HK.2.2.1 rfl;go_wp2_with fail;clear c1 d1;refine((show ∀W',Kb 0 w W'->Calls Tryz.prog 94 #[vn,un] W' λe w'=>e=.returned (.bool true)/\Kb 0 W' w' from G2) x1 HK.1).mono ?_;rintro e x2 ⟨rfl,k2⟩
 have HL:Hid (Kb 0 w x2/\x2.heap[w.heap.size]? =some (.cells #[.string x,.int .i64 l,.int .i64 m,.bool r,.int .i64 g,vu,vc,vn,vd] 52 (0,0))/\x2.heap[w.heap.size+1]? =some (.cells #[.string x,.int .i64 l,.int .i64 m,.bool r,.int .i64 g,uu,uc,un,ud] 52 (0,0))/\w.heap.size+1<x2.heap.size):=by
  obtain⟨q1,q2,q3,q4⟩:=(uh HK)
  have q5:=k2.size;exact⟨q1.trans k2,(k2.block _ zq (by omega)).trans q2,(k2.block _ zq (by omega)).trans q3,by omega⟩
 clear HK;have HK:=HL;clear HL k2 G2;have c2:x2.cell? ⟨w.heap.size,8,none⟩=some (vd):=cell_of HK.2.1 rfl;have d2:x2.cell? ⟨w.heap.size+1,8,none⟩=some (ud):=cell_of HK.2.2.1 rfl;go_wp2_with fail;clear c2 d2;refine((show ∀W',Kb 0 w W'->Calls Tryz.prog 95 #[vd,ud] W' λe w'=>e=.returned (.bool true)/\Kb 0 W' w' from G3) x2 HK.1).mono ?_;rintro e x3 ⟨rfl,k3⟩
 have HL:Hid (Kb 0 w x3/\x3.heap[w.heap.size]? =some (.cells #[.string x,.int .i64 l,.int .i64 m,.bool r,.int .i64 g,vu,vc,vn,vd] 52 (0,0))/\x3.heap[w.heap.size+1]? =some (.cells #[.string x,.int .i64 l,.int .i64 m,.bool r,.int .i64 g,uu,uc,un,ud] 52 (0,0))/\w.heap.size+1<x3.heap.size):=by
  obtain⟨q1,q2,q3,q4⟩:=(uh HK)
  have q5:=k3.size;exact⟨q1.trans k3,(k3.block _ zq (by omega)).trans q2,(k3.block _ zq (by omega)).trans q3,by omega⟩
 clear HK;have HK:=HL;clear HL k3 G3;go_wp2_with fail;go_ret;exact⟨rfl,HK.1⟩
theorem eq_ups{U:Nat->Bool×Int}(w:World)(ha:RowU 0 w va n U)(hb:RowU 0 w vb n U)(hn:n<=1048576):
  Calls Tryz.prog 92 #[va,vb] w λe w'=>e=.returned (.bool true)/\Kb 0 w w':=by
 obtain⟨pa,ca,rfl,ha2⟩:=ha;obtain⟨pb,cb,rfl,hb2⟩:=hb;have HA:Hid ((0<n->∃a:Addr,pa=some a/\n<=ca/\0<=a.block/\∀i,i<n->UpC 0 w (a.add (i*2)) (U i))/\(0<n->∃a:Addr,pb=some a/\n<=cb/\0<=a.block/\∀i,i<n->UpC 0 w (a.add (i*2)) (U i))):=(⟨ha2,hb2⟩:_/\_)
 have hnI:(n:Int)<=1048576:=by omega
 clear ha2 hb2 hn;go_enter Tryz.func92,Tryz.ntmps92;go_wp2_with fail
 go_loopw [5] (λs5 wr=>∃i:Nat,s5=.int .i64 i/\i<=n/\Hid (Kb 0 w wr)) (λs5 _=>n-(intOf s5).toNat)
 case atStart=>exact⟨0,rfl,Nat.zero_le _,Kb.refl _ _⟩
 case round=>
  obtain⟨i,rfl,hin,HB⟩:=hrel;rcases Nat.lt_or_ge i n with hi|hi
  ·have hA:=(uh HA)
   obtain⟨qa,rfl,hca,-,hra⟩:=hA.1 (by omega);obtain⟨qb,rfl,hcb,-,hrb⟩:=hA.2 (by omega);have hiI:(i:Int)<(n:Int):=by omega
   have ca:=(hra i hi).keep zq HB;have cb:=(hrb i hi).keep zq HB;have heq:∀W',Kb 0 wr W'->Calls Tryz.prog 126 #[upv (U i),upv (U i)] W' λe w'=>e=.returned (.bool true)/\Kb 0 W' w':=λW' _=>eq_up (U i) W'
   replace heq:∀W',W'.heap=wr.heap->W'.os=wr.os->W'.output=wr.output->Calls Tryz.prog 126 #[upv (U i),upv (U i)] W' λe w'=>e=.returned (.bool true)/\Kb 0 wr w':=λW' h0 h1 h2=>by
    have kk:Kb 0 wr W':=⟨h1,h2,by rw[h0];exact Nat.le_refl _,λk _ _=>by rw[h0]⟩
    refine(heq W' kk).mono ?_;rintro e w' ⟨rfl,k⟩;exact⟨rfl,kk.trans k⟩
   obtain⟨a0,a1⟩:=ca;obtain⟨b0,b1⟩:=cb;clear hra hrb hA HA;generalize U i=u at*;obtain⟨xb,xz⟩:=u;unfold upv at heq;dsimp only at a0 a1 b0 b1 heq
   have HKEEP:Hid (∀(W':World),Kb 0 wr W'->W'.cell? (qa.add (i*2))=some (.bool xb)/\W'.cell? ⟨(qa.add (i*2)).block,(qa.add (i*2)).off+1,none⟩=some (.int .i64 xz)/\W'.cell? (qb.add (i*2))=some (.bool xb)/\W'.cell? ⟨(qb.add (i*2)).block,(qb.add (i*2)).off+1,none⟩=some (.int .i64 xz)):=by
    show ∀(W':World),_;intro W' k;exact⟨k.cell a0,k.cell a1,k.cell b0,k.cell b1⟩
   have HEQ:Hid (∀W',W'.heap=wr.heap->W'.os=wr.os->W'.output=wr.output->Calls Tryz.prog 126 #[.agg #[.bool xb,.int .i64 xz],.agg #[.bool xb,.int .i64 xz]] W' λe w'=>e=.returned (.bool true)/\Kb 0 wr w'):=heq;clear hin heq;go_wp2_with fail
   go_region_held_law (λW'=>W'.cell? (qa.add (i*2))=some (.bool xb)/\W'.cell? ⟨(qa.add (i*2)).block,(qa.add (i*2)).off+1,none⟩=some (.int .i64 xz)/\W'.cell? (qb.add (i*2))=some (.bool xb)/\W'.cell? ⟨(qb.add (i*2)).block,(qb.add (i*2)).off+1,none⟩=some (.int .i64 xz)) (first|exact⟨a0,a1,b0,b1⟩|exact(uh HKEEP) _ k5)
    ((go_at_call 126;refine((uh HEQ) _ (by exact rfl) (by exact rfl) (by exact rfl)).mono ?_;rintro e w5 ⟨rfl,k5⟩))
   all_goals
    have HB5:Hid (Kb 0 w w5):=(uh HB).trans k5;clear HB HKEEP HEQ k5 a0 a1 b0 b1;go_wp2_with fail;go_roundw
    case rel=>exact⟨i+1,by go_num,by omega,HB5⟩
    case measure=>simp[intOf];omega
  ·obtain rfl:i=n:=by omega
   clear HA;go_wp2_with fail;go_ret;exact⟨rfl,HB⟩
theorem eq_inss{N:Nat->Iv}(w:World)(ha:RowI 0 w va n N)(hb:RowI 0 w vb n N)(hn:n<=1048576):
  Calls Tryz.prog 94 #[va,vb] w λe w'=>e=.returned (.bool true)/\Kb 0 w w':=by
 obtain⟨pa,ca,rfl,ha2⟩:=ha;obtain⟨pb,cb,rfl,hb2⟩:=hb;have HA:Hid ((0<n->∃a:Addr,pa=some a/\n<=ca/\0<=a.block/\∀i,i<n->InsC 0 w (a.add (i*5)) (N i))/\(0<n->∃a:Addr,pb=some a/\n<=cb/\0<=a.block/\∀i,i<n->InsC 0 w (a.add (i*5)) (N i))):=(⟨ha2,hb2⟩:_/\_)
 have hnI:(n:Int)<=1048576:=by omega
 clear ha2 hb2 hn;go_enter Tryz.func94,Tryz.ntmps94;go_wp2_with fail
 go_loopw [5] (λs5 wr=>∃i:Nat,s5=.int .i64 i/\i<=n/\Hid (Kb 0 w wr)) (λs5 _=>n-(intOf s5).toNat)
 case atStart=>exact⟨0,rfl,Nat.zero_le _,Kb.refl _ _⟩
 case round=>
  obtain⟨i,rfl,hin,HB⟩:=hrel;rcases Nat.lt_or_ge i n with hi|hi
  ·have hA:=(uh HA)
   obtain⟨qa,rfl,hca,-,hra⟩:=hA.1 (by omega);obtain⟨qb,rfl,hcb,-,hrb⟩:=hA.2 (by omega);have hiI:(i:Int)<(n:Int):=by omega
   have ca:=(hra i hi).keep zq HB;have cb:=(hrb i hi).keep zq HB;have heq:∀W',Kb 0 wr W'->Calls Tryz.prog 128 #[insv (N i),insv (N i)] W' λe w'=>e=.returned (.bool true)/\Kb 0 W' w':=λW' _=>eq_ins (N i) W'
   replace heq:∀W',W'.heap=wr.heap->W'.os=wr.os->W'.output=wr.output->Calls Tryz.prog 128 #[insv (N i),insv (N i)] W' λe w'=>e=.returned (.bool true)/\Kb 0 wr w':=λW' h0 h1 h2=>by
    have kk:Kb 0 wr W':=⟨h1,h2,by rw[h0];exact Nat.le_refl _,λk _ _=>by rw[h0]⟩
    refine(heq W' kk).mono ?_;rintro e w' ⟨rfl,k⟩;exact⟨rfl,kk.trans k⟩
   obtain⟨a0,a1,a2,a3,a4⟩:=ca;obtain⟨b0,b1,b2,b3,b4⟩:=cb;clear hra hrb hA HA;generalize N i=u at*;obtain⟨xo,xa,xb,xc,xd⟩:=u;unfold insv at heq;dsimp only at a0 a1 a2 a3 a4 b0 b1 b2 b3 b4 heq
   have HKEEP:Hid (∀(W':World),Kb 0 wr W'->W'.cell? (qa.add (i*5))=some (.int .i64 xo)/\W'.cell? ⟨(qa.add (i*5)).block,(qa.add (i*5)).off+1,none⟩=some (.int .i64 xa)/\W'.cell? ⟨(qa.add (i*5)).block,(qa.add (i*5)).off+2,none⟩=some (.int .i64 xb)/\W'.cell? ⟨(qa.add (i*5)).block,(qa.add (i*5)).off+3,none⟩=some (.int .i64 xc)/\W'.cell? ⟨(qa.add (i*5)).block,(qa.add (i*5)).off+4,none⟩=some (.int .i64 xd)/\W'.cell? (qb.add (i*5))=some (.int .i64 xo)/\W'.cell? ⟨(qb.add (i*5)).block,(qb.add (i*5)).off+1,none⟩=some (.int .i64 xa)/\W'.cell? ⟨(qb.add (i*5)).block,(qb.add (i*5)).off+2,none⟩=some (.int .i64 xb)/\W'.cell? ⟨(qb.add (i*5)).block,(qb.add (i*5)).off+3,none⟩=some (.int .i64 xc)/\W'.cell? ⟨(qb.add (i*5)).block,(qb.add (i*5)).off+4,none⟩=some (.int .i64 xd)):=by
    show ∀(W':World),_;intro W' k;exact⟨k.cell a0,k.cell a1,k.cell a2,k.cell a3,k.cell a4,k.cell b0,k.cell b1,k.cell b2,k.cell b3,k.cell b4⟩
   have HEQ:Hid (∀W',W'.heap=wr.heap->W'.os=wr.os->W'.output=wr.output->Calls Tryz.prog 128 #[.agg #[.int .i64 xo,.int .i64 xa,.int .i64 xb,.int .i64 xc,.int .i64 xd],.agg #[.int .i64 xo,.int .i64 xa,.int .i64 xb,.int .i64 xc,.int .i64 xd]] W' λe w'=>e=.returned (.bool true)/\Kb 0 wr w'):=heq;clear hin heq;go_wp2_with fail
   go_region_held_law (λW'=>W'.cell? (qa.add (i*5))=some (.int .i64 xo)/\W'.cell? ⟨(qa.add (i*5)).block,(qa.add (i*5)).off+1,none⟩=some (.int .i64 xa)/\W'.cell? ⟨(qa.add (i*5)).block,(qa.add (i*5)).off+2,none⟩=some (.int .i64 xb)/\W'.cell? ⟨(qa.add (i*5)).block,(qa.add (i*5)).off+3,none⟩=some (.int .i64 xc)/\W'.cell? ⟨(qa.add (i*5)).block,(qa.add (i*5)).off+4,none⟩=some (.int .i64 xd)/\W'.cell? (qb.add (i*5))=some (.int .i64 xo)/\W'.cell? ⟨(qb.add (i*5)).block,(qb.add (i*5)).off+1,none⟩=some (.int .i64 xa)/\W'.cell? ⟨(qb.add (i*5)).block,(qb.add (i*5)).off+2,none⟩=some (.int .i64 xb)/\W'.cell? ⟨(qb.add (i*5)).block,(qb.add (i*5)).off+3,none⟩=some (.int .i64 xc)/\W'.cell? ⟨(qb.add (i*5)).block,(qb.add (i*5)).off+4,none⟩=some (.int .i64 xd)) (first|exact⟨a0,a1,a2,a3,a4,b0,b1,b2,b3,b4⟩|exact(uh HKEEP) _ k5)
    ((go_at_call 128;refine((uh HEQ) _ (by exact rfl) (by exact rfl) (by exact rfl)).mono ?_;rintro e w5 ⟨rfl,k5⟩))
   all_goals
    have HB5:Hid (Kb 0 w w5):=(uh HB).trans k5;clear HB HKEEP HEQ k5 a0 a1 a2 a3 a4 b0 b1 b2 b3 b4;go_wp2_with fail;go_roundw
    case rel=>exact⟨i+1,by go_num,by omega,HB5⟩
    case measure=>simp[intOf];omega
  ·obtain rfl:i=n:=by omega
   clear HA;go_wp2_with fail;go_ret;exact⟨rfl,HB⟩
