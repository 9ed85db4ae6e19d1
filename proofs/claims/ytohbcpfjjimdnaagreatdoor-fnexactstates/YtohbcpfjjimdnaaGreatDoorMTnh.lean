import Derived.Test.YtohbcpfjjimdnaaGreatDoorMTng
set_option maxHeartbeats 32000000
namespace Go.Proofs.YtohbcpfjjimdnaaGreatDoor.Fo
open Go.ChangeShapes Go.WideShapes Go.ChangeAt Go.RowKit Go.Shelf
set_option linter.unusedVariables false
set_option maxRecDepth 100000
variable {va:Value}{np:Nat}{F:Nat->Pd}
theorem sp_code(w:World)(ha:RowP 0 w va np F)(hb:Bd np F):
  Calls Tryz.prog 14 #[.agg #[va]] w λe w'=>∃c f n:Nat,e=.returned (.agg #[.int .i64 c,.int .i64 f,.int .i64 n])/\AnC np F c f n/\Kb 0 w w':=by
 have ha0:=ha;obtain⟨pa,ca,rfl,ha2⟩:=ha;obtain⟨w1,hw1⟩:∃w1,w1=(w.alloc (.cells #[.slice pa np ca] 30)).alloc (.cells #[.int .i64 0,.int .i64 0,.int .i64 0] 39):=⟨_,rfl⟩
 obtain⟨b0,b1,bs,k1⟩:=two_new' w _ _ _ _ w1 hw1;obtain⟨B,hB⟩:∃B,B=w.heap.size+1:=⟨_,rfl⟩
 rw[<-hB]at b1;have c0:w1.cell? ⟨w.heap.size,0,none⟩=some (.slice pa np ca):=cell_of b0 rfl
 have HSH:=sp_shape (ca:=ca) w1 (λh=>by
  obtain⟨A,e1,e2,e3,e4⟩:=ha2 h
  exact⟨A,e1,e2,e3,λi hi=>(e4 i hi).keep zq k1⟩) hb
 have HBK:Hid (∀W,Kb 0 w1 W->W.cell? ⟨w.heap.size,0,none⟩=some (.slice pa np ca)/\W.heap[B]? =some (.cells #[.int .i64 0,.int .i64 0,.int .i64 0] 39 (0,0))/\Kb 0 w W):=(λW k=>⟨k.cell c0,(k.block B zq (Array.getElem?_eq_some_iff.1 b1).1).trans b1,k1.trans k⟩:∀W,_)
 have HRT:Hid (∀(W:World) (c f n:Nat),Kb 0 w1 W->AnC np F c f n->∃c' f' n':Nat,Ending.returned (.agg #[.int .i64 c,.int .i64 f,.int .i64 n])=.returned (.agg #[.int .i64 c',.int .i64 f',.int .i64 n'])/\AnC np F c' f' n'/\Kb 0 w (((W.setCell ⟨B,0,none⟩ (.int .i64 c)).setCell ⟨B,1,none⟩ (.int .i64 f)).setCell ⟨B,2,none⟩ (.int .i64 n))):=(λW c f n k h=>⟨c,f,n,rfl,h,(((k1.trans k).setCell ⟨B,0,none⟩ (.inr (by show w.heap.size<=B;omega)) _).setCell ⟨B,1,none⟩ (.inr (by show w.heap.size<=B;omega)) _).setCell ⟨B,2,none⟩ (.inr (by show w.heap.size<=B;omega)) _⟩:∀(W:World) (c f n:Nat),_)
 have HY:Hid (RowP 0 w (.slice pa np ca) np F/\Bd np F/\(0<np->∃A:Addr,pa=some A/\np<=ca/\0<=A.block/\∀i,i<np->ProC 0 w (A.add (i*9)) (F i))):=(⟨ha0,hb,ha2⟩:_/\_)
 have HW1:Hid (w1=(w.alloc (.cells #[.slice pa np ca] 30)).alloc (.cells #[.int .i64 0,.int .i64 0,.int .i64 0] 39)/\B=w.heap.size+1):=(⟨hw1,hB⟩:_/\_)
 clear ha0 hb ha2 hw1 b0 b1 bs k1 hB;go_enter Tryz.func14,Tryz.ntmps14;go_upto_region 1 with fail;rw[<-(uh HW1).1,<-(uh HW1).2];clear HW1;go_wp2_with fail;refine HSH.mono ?_;rintro e w2 ⟨c,f,n,rfl,hans,k2⟩;clear HSH c0;obtain⟨w3,hw3⟩:∃w3,w3=w2.alloc (.cells #[.int .i64 c,.int .i64 f,.int .i64 n] 39):=⟨_,rfl⟩
 have k23:Kb 0 w2 w3:=by rw[hw3];exact kb_alloc _ _ _
 have b3:w3.heap[w2.heap.size]? =some (.cells #[.int .i64 c,.int .i64 f,.int .i64 n] 39 (0,0)):=by rw[hw3];exact alloc_new _ _ _
 have x0:w3.cell? ⟨w2.heap.size,0,none⟩=some (.int .i64 c):=cell_of b3 rfl;have x1:w3.cell? ⟨w2.heap.size,1,none⟩=some (.int .i64 f):=cell_of b3 rfl;have x2:w3.cell? ⟨w2.heap.size,2,none⟩=some (.int .i64 n):=cell_of b3 rfl;have k13:=k2.trans k23;obtain⟨y0,hB3,kw3⟩:=(uh HBK) w3 k13;have HW3:Hid (w3=w2.alloc (.cells #[.int .i64 c,.int .i64 f,.int .i64 n] 39)):=hw3;clear hw3 k23 b3 k2;by_cases hc0:c=0
 case neg=>
  have gc:((c:Int)==0)=false:=beq_eq_false_iff_ne.2 (by omega);have r0:w3.cell? ⟨B,0,none⟩=some (.int .i64 0):=cell_of hB3 rfl;have r1:w3.cell? ⟨B,1,none⟩=some (.int .i64 0):=cell_of hB3 rfl;have r2:w3.cell? ⟨B,2,none⟩=some (.int .i64 0):=cell_of hB3 rfl;have fr:∀j,w3.frozen? ⟨B,j,none⟩=false:=λj=>frozen_of hB3;have HZ:=(uh HRT) w3 c f n k13 (.inl ⟨hc0,hans⟩);have HZh:Hid (∃c' f' n':Nat,Ending.returned (.agg #[.int .i64 c,.int .i64 f,.int .i64 n])=.returned (.agg #[.int .i64 c',.int .i64 f',.int .i64 n'])/\AnC np F c' f' n'/\Kb 0 w (((w3.setCell ⟨B,0,none⟩ (.int .i64 c)).setCell ⟨B,1,none⟩ (.int .i64 f)).setCell ⟨B,2,none⟩ (.int .i64 n))):=HZ;clear HZ hc0 hans k13 kw3 hB3 HBK HRT HY;go_upto_region 2 with fail;rw[<-(uh HW3)];clear HW3;go_wp2_with fail;refine bodyPost_ret (by simp[results,Tryz.results14,go_sem,set3_0 r0,set3_1 r1,set3_2 r2];rfl) rfl ?_;exact HZh
 subst hc0
 obtain⟨rfl,rfl⟩:f=0/\n=0:=by
  rcases hans with⟨h1,_⟩|⟨_,h1,_⟩|⟨_,_,h2,h3,_⟩
  ·omega
  ·omega
  ·exact⟨h2,h3⟩
 replace HW3:Hid (w3=w2.alloc (.cells #[.int .i64 0,.int .i64 0,.int .i64 0] 39)):=HW3;replace x0:w3.cell? ⟨w2.heap.size,0,none⟩=some (.int .i64 0):=x0;replace x1:w3.cell? ⟨w2.heap.size,1,none⟩=some (.int .i64 0):=x1;replace x2:w3.cell? ⟨w2.heap.size,2,none⟩=some (.int .i64 0):=x2;have hsk:=sk_of hans;have npI:(np:Int)<=200:=by have:=hsk.bp;omega
 have HSK:Hid (Sk np F/\Ans 7 np F 0 0 0):=(⟨hsk,hans⟩:_/\_)
 have HST:Hid (Kb 0 w1 w3/\∀p,p<0->WrR F (F p) 0 0):=(⟨k13,λp hp=>by omega⟩:_/\_)
 clear hsk hans hB3 kw3 k13;go_upto_region 2 with fail;rw[<-(uh HW3)];clear HW3;go_wp2_with fail
 go_loopw [16] (λsl wr=>∃p:Nat,sl=.int .i64 p/\p<=np/\Hid (Kb 0 w1 wr/\∀q,q<p->WrR F (F q) 0 0)) (λsl _=>np-(intOf sl).toNat)
 case atStart=>exact⟨0,rfl,Nat.zero_le _,HST⟩
 case round=>
  clear HST x0 x1 x2 y0;obtain⟨p,rfl,hp,HX⟩:=hrel;obtain⟨kr,hall⟩:=(uh HX)
  clear HX;obtain⟨y0,hBr,kwr⟩:=(uh HBK) wr kr;obtain⟨ha0,hb,ha2⟩:=(uh HY)
  obtain⟨hsk,hans⟩:=(uh HSK)
  rcases Nat.lt_or_ge p np with h|h
  ·have pI:(p:Int)<(np:Int):=by omega
   obtain⟨A,rfl,hca,hAb,hpr⟩:=ha2 (by omega);have HPO:=sp_walk (A:=A) (ca:=ca) wr (λi hi=>(hpr i hi).keep zq kwr) h hsk.bp (hsk.is p h) (hsk.hd p h) (hsk.nz p h) (hsk.nn p h) (λi hi ho=>⟨by have:=(hsk.U h hi ho).1;omega,(hsk.U h hi ho).2⟩);have HKR:Hid (Kb 0 w1 wr/\(∀q,q<p->WrR F (F q) 0 0)/\p<np):=(⟨kr,hall,h⟩:_/\_)
   clear ha0 hb ha2 hsk hans hca hAb hpr kr hall kwr hBr hp h;go_wp2_with fail;refine HPO.mono ?_;rintro e w5 ⟨v,c',f',n',rfl,hwr,hf0,hf1,k5,hsl,-⟩;clear HPO y0;obtain⟨w6,hw6⟩:∃w6,w6=w5.alloc (.cells #[.int .i64 c',.int .i64 f',.int .i64 n'] 39):=⟨_,rfl⟩
   have k56:Kb 0 w5 w6:=by rw[hw6];exact kb_alloc _ _ _
   have b6:w6.heap[w5.heap.size]? =some (.cells #[.int .i64 c',.int .i64 f',.int .i64 n'] 39 (0,0)):=by rw[hw6];exact alloc_new _ _ _
   have x0:w6.cell? ⟨w5.heap.size,0,none⟩=some (.int .i64 c'):=cell_of b6 rfl;have x1:w6.cell? ⟨w5.heap.size,1,none⟩=some (.int .i64 f'):=cell_of b6 rfl;have x2:w6.cell? ⟨w5.heap.size,2,none⟩=some (.int .i64 n'):=cell_of b6 rfl;have HW6:Hid (w6=w5.alloc (.cells #[.int .i64 c',.int .i64 f',.int .i64 n'] 39)):=hw6;obtain⟨kr,hall,h⟩:=(uh HKR)
   have k6:Kb 0 w1 w6:=(kr.trans k5).trans k56;obtain⟨-,hB6,-⟩:=(uh HBK) w6 k6;by_cases hc:c'=0
   ·subst hc;have hf:=hf0 rfl;subst hf
    have hn:n'=0:=by
     obtain⟨k,hk⟩:=hwr;rcases hk with hk|⟨M,hk,hk2⟩
     ·exact absurd hk (wit_nz k n')
     ·rcases hk2 with⟨-,z,-⟩|⟨z,-⟩
      ·exact z
      ·cases z
    subst hn
    have HN:Hid (Kb 0 w1 w6/\∀q,q<p+1->WrR F (F q) 0 0):=(⟨k6,λq hq=>by
     by_cases e:q=p
     ·subst e;exact hwr
     ·exact hall q (by omega)⟩:_/\_)
    replace HW6:Hid (w6=w5.alloc (.cells #[.int .i64 0,.int .i64 0,.int .i64 0] 39)):=HW6;replace x0:w6.cell? ⟨w5.heap.size,0,none⟩=some (.int .i64 0):=x0;replace x1:w6.cell? ⟨w5.heap.size,1,none⟩=some (.int .i64 0):=x1;replace x2:w6.cell? ⟨w5.heap.size,2,none⟩=some (.int .i64 0):=x2;clear kr hall h k6 hB6 hwr hf0 hf1 k5 hw6 k56 b6 HKR;go_upto_region 8 with fail;rw[<-(uh HW6)];clear HW6;go_wp2_with fail;go_roundw
    case rel=>exact⟨p+1,by go_num,by omega,HN⟩
    case measure=>simp[intOf];omega
   ·have gc:((c':Int)==0)=false:=beq_eq_false_iff_ne.2 (by omega);have hf:=hf1 hc;subst hf;have r0:w6.cell? ⟨B,0,none⟩=some (.int .i64 0):=cell_of hB6 rfl;have r1:w6.cell? ⟨B,1,none⟩=some (.int .i64 0):=cell_of hB6 rfl;have r2:w6.cell? ⟨B,2,none⟩=some (.int .i64 0):=cell_of hB6 rfl;have fr:∀j,w6.frozen? ⟨B,j,none⟩=false:=λj=>frozen_of hB6;have HZ:=(uh HRT) w6 c' f' n' k6 (.inr ⟨(uh HSK).2,.inr ⟨hc,h,hwr,hall⟩⟩);have HZh:Hid (∃c'' f'' n'':Nat,Ending.returned (.agg #[.int .i64 c',.int .i64 f',.int .i64 n'])=.returned (.agg #[.int .i64 c'',.int .i64 f'',.int .i64 n''])/\AnC np F c'' f'' n''/\Kb 0 w (((w6.setCell ⟨B,0,none⟩ (.int .i64 c')).setCell ⟨B,1,none⟩ (.int .i64 f')).setCell ⟨B,2,none⟩ (.int .i64 n'))):=HZ;clear HZ kr hall h k6 hB6 hwr hf0 hf1 k5 hw6 k56 b6 HKR hc HBK HRT HY HSK;go_upto_region 8 with fail;rw[<-(uh HW6)];clear HW6;go_wp2_with fail;refine bodyPost_ret (by simp[results,Tryz.results14,go_sem,set3_0 r0,set3_1 r1,set3_2 r2];rfl) rfl ?_;exact HZh
  ·have pI:¬(p:Int)<(np:Int):=by omega
   obtain rfl:p=np:=by omega
   have r0:wr.cell? ⟨B,0,none⟩=some (.int .i64 0):=cell_of hBr rfl;have r1:wr.cell? ⟨B,1,none⟩=some (.int .i64 0):=cell_of hBr rfl;have r2:wr.cell? ⟨B,2,none⟩=some (.int .i64 0):=cell_of hBr rfl;have fr:∀j,wr.frozen? ⟨B,j,none⟩=false:=λj=>frozen_of hBr;have HZ:=(uh HRT) wr 0 0 0 kr (.inr ⟨hans,.inl ⟨rfl,rfl,rfl,hall⟩⟩);have HZh:Hid (∃c' f' n':Nat,Ending.returned (.agg #[.int .i64 0,.int .i64 0,.int .i64 0])=.returned (.agg #[.int .i64 c',.int .i64 f',.int .i64 n'])/\AnC p F c' f' n'/\Kb 0 w (((wr.setCell ⟨B,0,none⟩ (.int .i64 0)).setCell ⟨B,1,none⟩ (.int .i64 0)).setCell ⟨B,2,none⟩ (.int .i64 0))):=HZ;clear HZ kr hall hBr kwr ha0 hb ha2 hsk hans hp h HBK HRT HY HSK y0;go_wp2_with fail;refine bodyPost_ret (by simp[results,Tryz.results14,go_sem,set3_0 r0,set3_1 r1,set3_2 r2];rfl) rfl ?_;exact HZh
def SpS(np:Nat)(F:Nat->Pd)(q:Int)(w:World)(e:Ending)(w':World):Prop:=∃v n S,e=.returned v/\StA np F q n S/\RowSt w' v n S/\Kb 0 w w'
theorem sps_nil{q:Int}{w w':World}(h:∀p,¬OkS np F q p)(k:Kb 0 w w'):SpS np F q w (.returned (.slice none 0 0)) w':=⟨_,0,λ_=>none,rfl,.inl ⟨rfl,h⟩,⟨none,0,rfl,λq=>by omega⟩,k⟩
theorem sp_states(q:Int)(w:World)(ha:RowP 0 w va np F)(hb:Bd np F):
  Calls Tryz.prog 5 #[.agg #[va],.int .i64 q] w (SpS np F q w):=by
 have ha0:=ha;obtain⟨pa,ca,rfl,ha2⟩:=ha;obtain⟨w1,hw1⟩:∃w1,w1=w.alloc (.cells #[.slice pa np ca] 30):=⟨_,rfl⟩
 have k1:Kb 0 w w1:=by rw[hw1];exact kb_alloc _ _ _
 have b0:w1.heap[w.heap.size]? =some (.cells #[.slice pa np ca] 30 (0,0)):=by rw[hw1];exact alloc_new _ _ _
 have c0:w1.cell? ⟨w.heap.size,0,none⟩=some (.slice pa np ca):=cell_of b0 rfl;have HW1:Hid (w1=w.alloc (.cells #[.slice pa np ca] 30)):=hw1;have HCC:=sp_code w1 (ha0.keep k1) hb;have HY:Hid (RowP 0 w (.slice pa np ca) np F/\Kb 0 w w1/\(0<np->∃A:Addr,pa=some A/\np<=ca/\0<=A.block/\∀i,i<np->ProC 0 w (A.add (i*9)) (F i))):=(⟨ha0,k1,ha2⟩:_/\_)
 clear hw1 b0 ha0 ha2 k1 hb;go_enter Tryz.func5,Tryz.ntmps5;go_upto_region 1 with fail;rw[<-(uh HW1)];clear HW1;go_wp2_with fail;refine HCC.mono ?_;rintro e w2 ⟨c,f,n,rfl,hans,k2⟩;clear HCC;obtain⟨w3,hw3⟩:∃w3,w3=w2.alloc (.cells #[.int .i64 c,.int .i64 f,.int .i64 n] 39):=⟨_,rfl⟩
 have k23:Kb 0 w2 w3:=by rw[hw3];exact kb_alloc _ _ _
 have b3:w3.heap[w2.heap.size]? =some (.cells #[.int .i64 c,.int .i64 f,.int .i64 n] 39 (0,0)):=by rw[hw3];exact alloc_new _ _ _
 have x0:w3.cell? ⟨w2.heap.size,0,none⟩=some (.int .i64 c):=cell_of b3 rfl;have k13:=k2.trans k23;have c3:=k13.cell c0;have HW3:Hid (w3=w2.alloc (.cells #[.int .i64 c,.int .i64 f,.int .i64 n] 39)):=hw3;have kw3:Kb 0 w w3:=(uh HY).2.1.trans k13;clear hw3 k23 b3 k2 k13 c0;by_cases hc:c=0
 case neg=>
  have gc:((c:Int)==0)=false:=beq_eq_false_iff_ne.2 (by omega);have HA:Hid (SpS np F q w (.returned (.slice none 0 0)) w3):=sps_nil (okS_no hans hc) kw3;clear hans kw3 HY;go_upto_region 2 with fail;rw[<-(uh HW3)];clear HW3;go_wp2_with fail;go_ret;exact HA
 subst hc
 obtain⟨rfl,rfl⟩:f=0/\n=0:=by
  rcases hans with⟨h1,_⟩|⟨_,⟨_,h2,h3,_⟩|⟨h1,_⟩⟩
  ·exact absurd rfl h1
  ·exact⟨h2,h3⟩
  ·exact absurd rfl h1
 replace HW3:Hid (w3=w2.alloc (.cells #[.int .i64 0,.int .i64 0,.int .i64 0] 39)):=HW3;replace x0:w3.cell? ⟨w2.heap.size,0,none⟩=some (.int .i64 0):=x0;by_cases hq0:q<0
 ·have HA:Hid (SpS np F q w (.returned (.slice none 0 0)) w3):=sps_nil (λp hp=>by have:=hp.1;omega) kw3;clear hans kw3 HY;go_upto_region 2 with fail;rw[<-(uh HW3)];clear HW3;go_wp2_with fail;go_ret;exact HA
 obtain⟨p,rfl⟩:∃p:Nat,q=(p:Int):=⟨q.toNat,by omega⟩
 by_cases hp:p<np
 case neg=>
  have hpI:(np:Int)<=(p:Int):=by omega
  have HA:Hid (SpS np F (p:Int) w (.returned (.slice none 0 0)) w3):=sps_nil (λp' hp'=>by have:=hp'.1;have:=hp'.2.1;omega) kw3;clear hans kw3 HY hp hq0;have hq0:¬(p:Int)<0:=by omega
  go_upto_region 2 with fail;rw[<-(uh HW3)];clear HW3;go_wp2_with fail;go_ret;exact HA
 have hpI:¬(np:Int)<=(p:Int):=by omega
 obtain⟨ha0,-,ha2⟩:=(uh HY)
 obtain⟨A,rfl,hca,-,hpr⟩:=ha2 (by omega);have hok:OkS np F (p:Int) p:=⟨rfl,hp,hans⟩
 have hsk:=hok.sk;have HPO:=sp_walk (A:=A) (ca:=ca) w3 (λi hi=>(hpr i hi).keep zq kw3) hp hsk.bp (hsk.is p hp) (hsk.hd p hp) (hsk.nz p hp) (hsk.nn p hp) (λi hi ho=>⟨by have:=(hsk.U hp hi ho).1;omega,(hsk.U hp hi ho).2⟩);have HOK:Hid (OkS np F (p:Int) p/\Kb 0 w w3):=(⟨hok,kw3⟩:_/\_)
 clear hans kw3 HY hp hq0 ha0 ha2 hca hpr hok hsk;have hq0:¬(p:Int)<0:=by omega
 go_upto_region 2 with fail;rw[<-(uh HW3)];clear HW3;go_wp2_with fail;refine HPO.mono ?_;rintro e w5 ⟨v,c',f',n',rfl,hwr,-,-,k5,hsl,hst⟩;obtain⟨hok,k3⟩:=(uh HOK)
 have hc':c'=0:=by
  rcases hok.2.2 with⟨z,-⟩|⟨-,⟨-,-,-,z⟩|⟨z,-⟩⟩
  ·exact absurd rfl z
  ·exact(hwr.uniq (z p hok.2.1)).1
  ·exact absurd rfl z
 obtain⟨k,M,SB,av,hk,rfl,hrow⟩:=hst hc';have HA:Hid (∀W,Kb 0 w5 W->SpS np F (p:Int) w (.returned (.slice (some ⟨SB,0,none⟩) (F p).n (F p).n)) W):=(λW kW=>⟨_,(F p).n,M,rfl,.inr ⟨p,k,hok,rfl,hk⟩,⟨_,_,rfl,λ_=>⟨SB,rfl,Nat.le_refl _,λj hj=>((hrow j hj).scr).kb kW⟩⟩,(k3.trans k5).trans kW⟩:∀W,_)
 obtain⟨w6,hw6⟩:∃w6,w6=w5.alloc (.cells #[.int .i64 c',.int .i64 f',.int .i64 n'] 39):=⟨_,rfl⟩
 have HA6:Hid (SpS np F (p:Int) w (.returned (.slice (some ⟨SB,0,none⟩) (F p).n (F p).n)) w6):=(uh HA) w6 (by rw[hw6];exact kb_alloc _ _ _);have HW6:Hid (w6=w5.alloc (.cells #[.int .i64 c',.int .i64 f',.int .i64 n'] 39)):=hw6;clear HPO HA hst hsl hwr k5 hok k3 hc' hk hrow hw6 HOK c3 x0;go_upto_region 5 with fail;rw[<-(uh HW6)];clear HW6;go_wp2_with fail;go_ret;exact HA6
