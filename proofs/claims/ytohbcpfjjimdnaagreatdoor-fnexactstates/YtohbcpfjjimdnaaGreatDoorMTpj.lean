import Derived.Test.YtohbcpfjjimdnaaGreatDoorMTph0
set_option maxHeartbeats 32000000
namespace Go.Proofs.YtohbcpfjjimdnaaGreatDoor.Fo
open Go.ChangeShapes Go.WideShapes Go.ChangeAt Go.RowKit Go.Shelf
set_option linter.unusedVariables false
set_option maxRecDepth 100000
variable {α:Type}{va v:Value}{np n p base i SB g I DB:Nat}{F:Nat->Pd}{q:Int}{S S' M:Nat->Option Sv}{f:Nat->α}{W w2 W' w w1 w5:World}{T:List Int}{G:List Gv}{x:α}{ti gi:Nat->Nat}{vt vg:Nat->Value}{a:Iv}{D:List Nat}
theorem im_code(w:World)(hgd:Gd w)(ha:RowP 0 w va np F)(hb:Bd np F):
  Calls Tryz.prog 17 #[.agg #[va]] w λe w'=>∃c f n:Nat,e=.returned (.agg #[.int .i64 c,.int .i64 f,.int .i64 n])/\AnC np F c f n/\Kb 0 w w':=by
 have ha0:=ha;obtain⟨pa,ca,rfl,ha2⟩:=ha;obtain⟨w1,hw1⟩:∃w1,w1=(w.alloc (.cells #[.slice pa np ca] 30)).alloc (.cells #[.int .i64 0,.int .i64 0,.int .i64 0] 39):=⟨_,rfl⟩
 obtain⟨b0,b1,bs,k1⟩:=two_new' w _ _ _ _ w1 hw1;obtain⟨B,hB⟩:∃B,B=w.heap.size+1:=⟨_,rfl⟩
 rw[<-hB]at b1;have c0:w1.cell? ⟨w.heap.size,0,none⟩=some (.slice pa np ca):=cell_of b0 rfl;have HSH:=im_shape w1 (hgd.keep k1) (ha0.keep k1) hb;have HBK:Hid (∀W,Kb 0 w1 W->W.cell? ⟨w.heap.size,0,none⟩=some (.slice pa np ca)/\W.heap[B]? =some (.cells #[.int .i64 0,.int .i64 0,.int .i64 0] 39 (0,0))/\Kb 0 w W):=(λW k=>⟨k.cell c0,(k.block B zq (Array.getElem?_eq_some_iff.1 b1).1).trans b1,k1.trans k⟩:∀W,_)
 have HRT:Hid (∀(W:World) (c f n:Nat),Kb 0 w1 W->AnC np F c f n->∃c' f' n':Nat,Ending.returned (.agg #[.int .i64 c,.int .i64 f,.int .i64 n])=.returned (.agg #[.int .i64 c',.int .i64 f',.int .i64 n'])/\AnC np F c' f' n'/\Kb 0 w (((W.setCell ⟨B,0,none⟩ (.int .i64 c)).setCell ⟨B,1,none⟩ (.int .i64 f)).setCell ⟨B,2,none⟩ (.int .i64 n))):=(λW c f n k h=>⟨c,f,n,rfl,h,(((k1.trans k).setCell ⟨B,0,none⟩ (.inr (by show w.heap.size<=B;omega)) _).setCell ⟨B,1,none⟩ (.inr (by show w.heap.size<=B;omega)) _).setCell ⟨B,2,none⟩ (.inr (by show w.heap.size<=B;omega)) _⟩:∀(W:World) (c f n:Nat),_)
 have HY:Hid (Gd w/\RowP 0 w (.slice pa np ca) np F/\Bd np F/\(0<np->∃A:Addr,pa=some A/\np<=ca/\0<=A.block/\∀i,i<np->ProC 0 w (A.add (i*9)) (F i))):=(⟨hgd,ha0,hb,ha2⟩:_/\_)
 have HW1:Hid (w1=(w.alloc (.cells #[.slice pa np ca] 30)).alloc (.cells #[.int .i64 0,.int .i64 0,.int .i64 0] 39)/\B=w.heap.size+1):=(⟨hw1,hB⟩:_/\_)
 clear hgd ha0 hb ha2 hw1 b0 b1 bs k1 hB;go_enter Tryz.func17,Tryz.ntmps17;go_upto_region 1 with fail;rw[<-(uh HW1).1,<-(uh HW1).2];clear HW1;go_wp2_with fail;refine HSH.mono ?_;rintro e w2 ⟨c,f,n,rfl,hans,k2⟩;clear HSH c0;obtain⟨w3,hw3⟩:∃w3,w3=w2.alloc (.cells #[.int .i64 c,.int .i64 f,.int .i64 n] 39):=⟨_,rfl⟩
 have k23:Kb 0 w2 w3:=by rw[hw3];exact kb_alloc _ _ _
 have b3:w3.heap[w2.heap.size]? =some (.cells #[.int .i64 c,.int .i64 f,.int .i64 n] 39 (0,0)):=by rw[hw3];exact alloc_new _ _ _
 have x0:w3.cell? ⟨w2.heap.size,0,none⟩=some (.int .i64 c):=cell_of b3 rfl;have x1:w3.cell? ⟨w2.heap.size,1,none⟩=some (.int .i64 f):=cell_of b3 rfl;have x2:w3.cell? ⟨w2.heap.size,2,none⟩=some (.int .i64 n):=cell_of b3 rfl;have k13:=k2.trans k23;obtain⟨y0,hB3,kw3⟩:=(uh HBK) w3 k13;have HW3:Hid (w3=w2.alloc (.cells #[.int .i64 c,.int .i64 f,.int .i64 n] 39)):=hw3;clear hw3 k23 b3 k2;by_cases hc0:c=0
 case neg=>
  have gc:((c:Int)==0)=false:=beq_eq_false_iff_ne.2 (by omega);have r0:w3.cell? ⟨B,0,none⟩=some (.int .i64 0):=cell_of hB3 rfl;have r1:w3.cell? ⟨B,1,none⟩=some (.int .i64 0):=cell_of hB3 rfl;have r2:w3.cell? ⟨B,2,none⟩=some (.int .i64 0):=cell_of hB3 rfl;have fr:∀j,w3.frozen? ⟨B,j,none⟩=false:=λj=>frozen_of hB3;have HZ:=(uh HRT) w3 c f n k13 (.inl ⟨hc0,hans⟩);have HZh:Hid (∃c' f' n':Nat,Ending.returned (.agg #[.int .i64 c,.int .i64 f,.int .i64 n])=.returned (.agg #[.int .i64 c',.int .i64 f',.int .i64 n'])/\AnC np F c' f' n'/\Kb 0 w (((w3.setCell ⟨B,0,none⟩ (.int .i64 c)).setCell ⟨B,1,none⟩ (.int .i64 f)).setCell ⟨B,2,none⟩ (.int .i64 n))):=HZ;clear HZ hc0 hans k13 kw3 hB3 HBK HRT HY;go_upto_region 2 with fail;rw[<-(uh HW3)];clear HW3;go_wp2_with fail;refine bodyPost_ret (by simp[results,Tryz.results17,go_sem,set3_0 r0,set3_1 r1,set3_2 r2];rfl) rfl ?_;exact HZh
 subst hc0
 obtain⟨rfl,rfl⟩:f=0/\n=0:=by
  rcases hans with⟨h1,_⟩|⟨_,h1,_⟩|⟨_,_,h2,h3,_⟩
  ·omega
  ·omega
  ·exact⟨h2,h3⟩
 replace HW3:Hid (w3=w2.alloc (.cells #[.int .i64 0,.int .i64 0,.int .i64 0] 39)):=HW3;replace x0:w3.cell? ⟨w2.heap.size,0,none⟩=some (.int .i64 0):=x0;replace x1:w3.cell? ⟨w2.heap.size,1,none⟩=some (.int .i64 0):=x1;replace x2:w3.cell? ⟨w2.heap.size,2,none⟩=some (.int .i64 0):=x2;have hsk:=sk_of hans;have npI:(np:Int)<=200:=by have:=hsk.bp;omega
 have HSK:Hid (Sk np F/\Ans 7 np F 0 0 0):=(⟨hsk,hans⟩:_/\_)
 have HST:Hid (Kb 0 w1 w3/\∀p,p<0->WrR F (F p) 0 0):=(⟨k13,λp hp=>by omega⟩:_/\_)
 clear hsk hans hB3 kw3 k13;go_upto_region 2 with fail;rw[<-(uh HW3)];clear HW3;go_wp2_with fail
 go_loopw [15] (λsl wr=>∃p:Nat,sl=.int .i64 p/\p<=np/\Hid (Kb 0 w1 wr/\∀q,q<p->WrR F (F q) 0 0)) (λsl _=>np-(intOf sl).toNat)
 case atStart=>exact⟨0,rfl,Nat.zero_le _,HST⟩
 case round=>
  clear HST x0 x1 x2 y0;obtain⟨p,rfl,hp,HX⟩:=hrel;obtain⟨kr,hall⟩:=(uh HX)
  clear HX;obtain⟨y0,hBr,kwr⟩:=(uh HBK) wr kr;obtain⟨hgd,ha0,hb,ha2⟩:=(uh HY)
  obtain⟨hsk,hans⟩:=(uh HSK)
  rcases Nat.lt_or_ge p np with h|h
  ·have pI:(p:Int)<(np:Int):=by omega
   obtain⟨A,rfl,hca,hAb,hpr⟩:=ha2 (by omega);have HPO:=im_passof (A:=A) (ca:=ca) wr (λi hi=>(hpr i hi).keep zq kwr) h hsk.bp (hsk.nz p h) (hsk.nn p h);have HRU:Hid (∀e w',PsA (F p) A np ca p wr e w'->∃P,e=.returned (.pointer (some ⟨P,0,none⟩))/\Kb 0 wr w'/\Calls Tryz.prog 19 #[.pointer (some ⟨P,0,none⟩)] w' λe2 w2=>∃c f n:Nat,e2=.returned (.agg #[.int .i64 c,.int .i64 f,.int .i64 n])/\WrR F (F p) c n/\(c=0->f=0)/\(c≠0->f=p)/\Kb 0 wr w2):=(λe w' hp'=>run_of wr w' hsk h (hgd.keep kwr) (ha0.keep kwr) hp':∀e w',_)
   have HKR:Hid (Kb 0 w1 wr/\(∀q,q<p->WrR F (F q) 0 0)/\p<np):=(⟨kr,hall,h⟩:_/\_)
   clear hgd ha0 hb ha2 hsk hans hca hAb hpr kr hall kwr hBr hp h;go_wp2_with fail;refine HPO.mono ?_;intro e w4 hps;obtain⟨P,rfl,k4,HRN⟩:=(uh HRU) e w4 hps;clear HPO HRU hps y0;go_wp2_with fail;refine HRN.mono ?_;rintro e w5 ⟨c',f',n',rfl,hwr,hf0,hf1,k5⟩;clear HRN k4;obtain⟨w6,hw6⟩:∃w6,w6=w5.alloc (.cells #[.int .i64 c',.int .i64 f',.int .i64 n'] 39):=⟨_,rfl⟩
   have k56:Kb 0 w5 w6:=by rw[hw6];exact kb_alloc _ _ _
   have b6:w6.heap[w5.heap.size]? =some (.cells #[.int .i64 c',.int .i64 f',.int .i64 n'] 39 (0,0)):=by rw[hw6];exact alloc_new _ _ _
   have x0:w6.cell? ⟨w5.heap.size,0,none⟩=some (.int .i64 c'):=cell_of b6 rfl;have x1:w6.cell? ⟨w5.heap.size,1,none⟩=some (.int .i64 f'):=cell_of b6 rfl;have x2:w6.cell? ⟨w5.heap.size,2,none⟩=some (.int .i64 n'):=cell_of b6 rfl;have HW6:Hid (w6=w5.alloc (.cells #[.int .i64 c',.int .i64 f',.int .i64 n'] 39)):=hw6;obtain⟨kr,hall,h⟩:=(uh HKR)
   have k6:Kb 0 w1 w6:=(kr.trans k5).trans k56;obtain⟨-,hB6,-⟩:=(uh HBK) w6 k6;by_cases hc:c'=0
   ·subst hc;have hf:=hf0 rfl;subst hf
    have hn:n'=0:=by
     obtain⟨k,hk⟩:=hwr;rcases hk with hk|⟨M,hk,hk2⟩
     ·exact absurd hk (wit_nz k n')
     ·rcases hk2 with⟨-,z,-⟩|⟨z,-⟩
      ·exact z
      ·cases z
    subst hn
    have HN:Hid (Kb 0 w1 w6/\∀q,q<p+1->WrR F (F q) 0 0):=(⟨k6,λq hq=>by
     by_cases e:q=p
     ·subst e;exact hwr
     ·exact hall q (by omega)⟩:_/\_)
    replace HW6:Hid (w6=w5.alloc (.cells #[.int .i64 0,.int .i64 0,.int .i64 0] 39)):=HW6;replace x0:w6.cell? ⟨w5.heap.size,0,none⟩=some (.int .i64 0):=x0;replace x1:w6.cell? ⟨w5.heap.size,1,none⟩=some (.int .i64 0):=x1;replace x2:w6.cell? ⟨w5.heap.size,2,none⟩=some (.int .i64 0):=x2;clear kr hall h k6 hB6 hwr hf0 hf1 k5 hw6 k56 b6 HKR;go_upto_region 8 with fail;rw[<-(uh HW6)];clear HW6;go_wp2_with fail;go_roundw
    case rel=>exact⟨p+1,by go_num,by omega,HN⟩
    case measure=>simp[intOf];omega
   ·have gc:((c':Int)==0)=false:=beq_eq_false_iff_ne.2 (by omega);have hf:=hf1 hc;subst hf;have r0:w6.cell? ⟨B,0,none⟩=some (.int .i64 0):=cell_of hB6 rfl;have r1:w6.cell? ⟨B,1,none⟩=some (.int .i64 0):=cell_of hB6 rfl;have r2:w6.cell? ⟨B,2,none⟩=some (.int .i64 0):=cell_of hB6 rfl;have fr:∀j,w6.frozen? ⟨B,j,none⟩=false:=λj=>frozen_of hB6;have HZ:=(uh HRT) w6 c' f' n' k6 (.inr ⟨(uh HSK).2,.inr ⟨hc,h,hwr,hall⟩⟩);have HZh:Hid (∃c'' f'' n'':Nat,Ending.returned (.agg #[.int .i64 c',.int .i64 f',.int .i64 n'])=.returned (.agg #[.int .i64 c'',.int .i64 f'',.int .i64 n''])/\AnC np F c'' f'' n''/\Kb 0 w (((w6.setCell ⟨B,0,none⟩ (.int .i64 c')).setCell ⟨B,1,none⟩ (.int .i64 f')).setCell ⟨B,2,none⟩ (.int .i64 n'))):=HZ;clear HZ kr hall h k6 hB6 hwr hf0 hf1 k5 hw6 k56 b6 HKR hc HBK HRT HY HSK;go_upto_region 8 with fail;rw[<-(uh HW6)];clear HW6;go_wp2_with fail;refine bodyPost_ret (by simp[results,Tryz.results17,go_sem,set3_0 r0,set3_1 r1,set3_2 r2];rfl) rfl ?_;exact HZh
  ·have pI:¬(p:Int)<(np:Int):=by omega
   obtain rfl:p=np:=by omega
   have r0:wr.cell? ⟨B,0,none⟩=some (.int .i64 0):=cell_of hBr rfl;have r1:wr.cell? ⟨B,1,none⟩=some (.int .i64 0):=cell_of hBr rfl;have r2:wr.cell? ⟨B,2,none⟩=some (.int .i64 0):=cell_of hBr rfl;have fr:∀j,wr.frozen? ⟨B,j,none⟩=false:=λj=>frozen_of hBr;have HZ:=(uh HRT) wr 0 0 0 kr (.inr ⟨hans,.inl ⟨rfl,rfl,rfl,hall⟩⟩);have HZh:Hid (∃c' f' n':Nat,Ending.returned (.agg #[.int .i64 0,.int .i64 0,.int .i64 0])=.returned (.agg #[.int .i64 c',.int .i64 f',.int .i64 n'])/\AnC p F c' f' n'/\Kb 0 w (((wr.setCell ⟨B,0,none⟩ (.int .i64 0)).setCell ⟨B,1,none⟩ (.int .i64 0)).setCell ⟨B,2,none⟩ (.int .i64 0))):=HZ;clear HZ kr hall hBr kwr hgd ha0 hb ha2 hsk hans hp h HBK HRT HY HSK y0;go_wp2_with fail;refine bodyPost_ret (by simp[results,Tryz.results17,go_sem,set3_0 r0,set3_1 r1,set3_2 r2];rfl) rfl ?_;exact HZh
def OkS(np:Nat)(F:Nat->Pd)(q:Int)(p:Nat):Prop:=q=(p:Int)/\p<np/\AnC np F 0 0 0
def StA(np:Nat)(F:Nat->Pd)(q:Int)(n:Nat)(S:Nat->Option Sv):Prop:=(n=0/\∀p,¬OkS np F q p)\/∃p k,OkS np F q p/\n=(F p).n/\wit F (F p) k=.ok S []
theorem StA.uniq{n':Nat}(h:StA np F q n S)(h':StA np F q n' S'):n=n'/\∀j,j<n->S j=S' j:=by
 rcases h with⟨rfl,h⟩|⟨p,k,h1,rfl,h2⟩<;>rcases h' with⟨rfl,h'⟩|⟨p',k',h1',rfl,h2'⟩
 ·exact⟨rfl,λj hj=>by omega⟩
 ·exact absurd h1' (h p')
 ·exact absurd h1 (h' p)
 ·obtain rfl:p=p':=by have:=h1.1;have:=h1'.1;omega
  have e:=tm_uniq (F:=F) (.inl ⟨_,h2⟩:Tm (wit F (F p) k)) (.inl ⟨_,h2'⟩:Tm (wit F (F p) k'));rw[h2,h2']at e;cases e;exact⟨rfl,λ_ _=>rfl⟩
theorem OkS.sk(h:OkS np F q p):Sk np F:=by
 rcases h.2.2 with⟨z,-⟩|⟨z,-⟩
 ·exact absurd rfl z
 ·exact sk_of z
theorem StA.sm(h:StA np F q n S):SmS n S:=by
 rcases h with⟨rfl,-⟩|⟨p,k,h1,rfl,h2⟩
 ·exact⟨by omega,λj hj=>by omega⟩
 ·have hsk:=h1.sk;refine⟨hsk.nn p h1.2.1,λj hj=>?_⟩;have hw:=wit_ok (F:=F) (hsk.is p h1.2.1) (hsk.nz p h1.2.1) (hsk.hd p h1.2.1) k;rw[h2]at hw;have hg:=(hsk.hd p h1.2.1).2.2.1.2;cases hs:S j with
  |none=>exact⟨by simp[tyS],by simp[guS]⟩
  |some s=>
   obtain⟨-,z1,z2,-⟩:=(show Inv (F p) S []from hw).st j s hs;exact⟨by show s.1.length<=1000;omega,by show s.2.length<=1000;omega⟩
theorem okS_no{c f:Nat}(h:AnC np F c f n)(hc:c≠0):∀p,¬OkS np F q p:=λp hp=>hc (h.uniq hp.2.2).1
def ntf(S:Nat->Option Sv)(j:Nat):Nat:=(tyS (S j)).length
def ngf(S:Nat->Option Sv)(j:Nat):Nat:=(guS (S j)).length
def bsf(S:Nat->Option Sv)(j:Nat):Bool:=(S j).isSome
def asf(S:Nat->Option Sv)(j x:Nat):Int:=(tyS (S j)).getD x 0
def vsf(S:Nat->Option Sv)(j x:Nat):Value:=((guS (S j)).flatMap gcl).getD x (.bool false)
def OwnSt(base:Nat)(W:World)(v:Value)(n:Nat)(S:Nat->Option Sv):Prop:=∃pa ca SB ti gi vt vg,v=.slice pa n ca/\(0<n->pa=some ⟨SB,0,none⟩/\n<=ca)/\OwS W SB n ti gi (ntf S) (ngf S) vt vg (bsf S) (asf S) (vsf S)/\Dst base SB n ti gi (ntf S) (ngf S)
theorem ownSt_nil(base:Nat)(W:World)(S:Nat->Option Sv):OwnSt base W (.slice none 0 0) 0 S:=
 ⟨none,0,0,λ_=>0,λ_=>0,λ_=>.bool false,λ_=>.bool false,rfl,λq=>by omega,⟨λq=>by omega,λj q=>by omega,λj q=>by omega,λj q=>by omega,λj q=>by omega,λj q=>by omega⟩,⟨λq=>by omega,λj q=>by omega,λj q=>by omega,λj k q=>by omega,λj k q=>by omega,λj k q=>by omega⟩⟩
theorem OwI.own(h:OwI base W v T):∃g,(0<T.length->base<=g/\g<W.heap.size)/\OwnR W v g T.length (λi=>.int .i64 (T.getD i 0)):=by
 have h0:=h;rcases h.2 with⟨rfl,e⟩|⟨g,cap,cur,rfl,h1,h2,h3,h4⟩
 ·have e:T.length=0:=e;exact⟨0,λq=>by omega,⟨⟨none,0,by rw[e],λq=>by omega⟩,λi hi=>by omega,λq=>by omega⟩⟩
 ·refine⟨g,λ_=>⟨h1,(Array.getElem?_eq_some_iff.1 h2).1⟩,⟨⟨_,cap,rfl,λ_=>⟨rfl,h3⟩⟩,λi hi=>?_,λ_ j=>frozen_of h2⟩⟩;rw[World.ownsRow.cellAt h0 i (by omega)];unfold iv;rw[List.getElem?_map,List.getElem?_eq_getElem hi];simp[hi]
theorem OwG.own(h:OwG base W v G):∃g,(0<G.length->base<=g/\g<W.heap.size)/\GwR W v g G.length (λx=>(G.flatMap gcl).getD x (.bool false)):=by
 have h0:=h;rcases h.2 with⟨rfl,e⟩|⟨g,cap,cur,rfl,h1,h2,h3,h4⟩
 ·have e:G.length=0:=e;exact⟨0,λq=>by omega,⟨⟨none,0,by rw[e],λq=>by omega⟩,λi hi=>by omega,λq=>by omega⟩⟩
 ·refine⟨g,λ_=>⟨h1,(Array.getElem?_eq_some_iff.1 h2).1⟩,⟨⟨_,cap,rfl,λ_=>⟨rfl,h3⟩⟩,λi hi=>?_,λ_ j=>frozen_of h2⟩⟩;rw[World.ownsRow.cellAt h0 i (by omega)];have:i<(G.flatMap gcl).length:=by rw[gcl_len];exact hi
  rw[List.getD_eq_getElem?_getD,List.getElem?_eq_getElem this];rfl
def exf(f:Nat->α)(i:Nat)(x:α)(j:Nat):α:=if j=i then x else f j
theorem exf_eq:exf f i x i=x:=if_pos rfl
theorem exf_ne{j:Nat}(h:j≠i):exf f i x j=f j:=if_neg h
structure LpS (SB n base:Nat) (M:Nat->Option Sv) (av:Nat->Prop) (w2:World) (i:Nat) (W:World):Prop where
 ko:Ko (λb=>b=SB) w2 W
 fz:∀j,W.frozen? ⟨SB,j,none⟩=false
 rest:∀j,i<=j->j<n->SC av W SB j (M j)
 own:∃ti gi vt vg,OwS W SB i ti gi (ntf M) (ngf M) vt vg (bsf M) (asf M) (vsf M)/\Dst base SB i ti gi (ntf M) (ngf M)
theorem lp_step{av:Nat->Prop}{w4 w6:World}{v1 v2:Value}(h:LpS SB n base M av w2 i W)(hi:i<n)(hav:∀b,av b->b≠SB)(hb:base<=w2.heap.size)(hSB:SB<w2.heap.size)(hbS:base<=SB)
  (k4:Kb 0 W w4) (o1:OwI W.heap.size w4 v1 (tyS (M i))) (k6:Kb 0 (w4.setCell ⟨SB,i*3+1,none⟩ v1) w6) (o2:OwG w4.heap.size w6 v2 (guS (M i))):LpS SB n base M av w2 (i+1) (w6.setCell ⟨SB,i*3+2,none⟩ v2):=by
 have hWs:=h.ko.size;have k4s:=k4.size;have k6s:w4.heap.size<=w6.heap.size:=by have:=k6.size;simpa using this
 have e6:∀b,b<w4.heap.size->b≠SB->(w6.setCell ⟨SB,i*3+2,none⟩ v2).heap[b]? =w4.heap[b]?:=λb hb hs=>((Below.heap_setCell _ _ _ _ hs).trans (k6.block b zq (by simpa using hb))).trans (Below.heap_setCell _ _ _ _ hs);have eW:∀b,b<W.heap.size->b≠SB->(w6.setCell ⟨SB,i*3+2,none⟩ v2).heap[b]? =W.heap[b]?:=λb hb hs=>(e6 b (by omega) hs).trans (k4.block b zq hb)
 have cS:∀j,j≠i*3+1->j≠i*3+2->∀u,W.cell? ⟨SB,j,none⟩=some u->(w6.setCell ⟨SB,i*3+2,none⟩ v2).cell? ⟨SB,j,none⟩=some u:=λj h1 h2 u hu=>by
  rw[set_ne _ _ _ _ _ h2];refine k6.cell ?_;rw[set_ne _ _ _ _ _ h1];exact k4.cell hu
 have sSB:SB<W.heap.size:=by omega
 have fzS:∀j,(w6.setCell ⟨SB,i*3+2,none⟩ v2).frozen? ⟨SB,j,none⟩=false:=λj=>by
  rw[set_fz,k6.frozen zq (by simp;omega),set_fz,k4.frozen zq sSB];exact h.fz j
 obtain⟨u1,hu1⟩:∃u,W.cell? ⟨SB,i*3+1,none⟩=some u:=by
  obtain⟨-,vt,vg,z,-⟩:=(h.rest i (Nat.le_refl _) hi).scr;exact⟨_,z⟩
 obtain⟨u2,hu2⟩:∃u,W.cell? ⟨SB,i*3+2,none⟩=some u:=by
  obtain⟨-,vt,vg,-,z,-⟩:=(h.rest i (Nat.le_refl _) hi).scr;exact⟨_,z⟩
 obtain⟨ti,gi,vt,vg,hO,hD⟩:=h.own;obtain⟨gt,hgt,ot⟩:=o1.own;obtain⟨gg,hgg,og⟩:=o2.own;refine⟨⟨?_,?_,by simp;omega,λb hb hs=>(eW b (by omega) hs).trans (h.ko.block b hb hs)⟩,fzS,λj h1 h2=>?_,exf ti i gt,exf gi i gg,exf vt i v1,exf vg i v2,⟨λ_=>fzS,λj hj=>?_,λj hj=>?_,λj hj=>?_,λj hj=>?_,λj hj=>?_⟩,⟨λ_=>hbS,λj hj q=>?_,λj hj q=>?_,λj k hj hk hne q r=>?_,λj k hj hk hne q r=>?_,λj k hj hk q r=>?_⟩⟩
 ·exact(k6.os.trans k4.os).trans h.ko.os
 ·exact(k6.output.trans k4.output).trans h.ko.output
 ·exact(h.rest j (by omega) h2).toA (λt ht u hu=>cS _ (by omega) (by omega) u hu) (λb hb hl=>eW b hl (hav b hb))
 ·by_cases e:j=i
  ·subst e;exact cS _ (by omega) (by omega) _ (h.rest j (Nat.le_refl _) hi).scr.1
  ·exact cS _ (by omega) (by omega) _ (hO.c0 j (by omega))
 ·by_cases e:j=i
  ·subst e;rw[exf_eq,set_ne _ _ _ _ _ (by omega)];exact k6.cell (set_eq _ _ _ _ _ (k4.cell hu1))
  ·rw[exf_ne e];exact cS _ (by omega) (by omega) _ (hO.c1 j (by omega))
 ·by_cases e:j=i
  ·subst e;rw[exf_eq];refine set_eq _ _ _ _ u2 (k6.cell ?_);rw[set_ne _ _ _ _ _ (by omega)];exact k4.cell hu2
  ·rw[exf_ne e];exact cS _ (by omega) (by omega) _ (hO.c2 j (by omega))
 ·by_cases e:j=i
  ·subst e;rw[exf_eq,exf_eq];exact ot.block (λq=>e6 _ (hgt q).2 (by have:=(hgt q).1;omega))
  ·rw[exf_ne e,exf_ne e];have:=hO.ty j (by omega);exact this.block (λq=>eW _ (this.lt q) (hD.t0 j (by omega) q).2)
 ·by_cases e:j=i
  ·subst e;rw[exf_eq,exf_eq];exact og.on (λq=>Below.heap_setCell _ _ _ _ (by have:=(hgg q).1;show gg≠SB;omega))
  ·rw[exf_ne e,exf_ne e];have:=hO.gu j (by omega);exact this.on (λq=>eW _ (this.lt q) (hD.g0 j (by omega) q).2)
 ·by_cases e:j=i
  ·subst e;rw[exf_eq];have:=(hgt q).1;omega
  ·rw[exf_ne e];exact hD.t0 j (by omega) q
 ·by_cases e:j=i
  ·subst e;rw[exf_eq];have:=(hgg q).1;omega
  ·rw[exf_ne e];exact hD.g0 j (by omega) q
 ·by_cases e:j=i
  ·subst e;rw[exf_eq,exf_ne (λz=>hne z.symm)];have:=(hO.ty k (by omega)).lt r;have:=(hgt q).1;omega
  ·by_cases e':k=i
   ·subst e';rw[exf_eq,exf_ne e];have:=(hO.ty j (by omega)).lt q;have:=(hgt r).1;omega
   ·rw[exf_ne e,exf_ne e'];exact hD.tt j k (by omega) (by omega) hne q r
 ·by_cases e:j=i
  ·subst e;rw[exf_eq,exf_ne (λz=>hne z.symm)];have:=(hO.gu k (by omega)).lt r;have:=(hgg q).1;omega
  ·by_cases e':k=i
   ·subst e';rw[exf_eq,exf_ne e];have:=(hO.gu j (by omega)).lt q;have:=(hgg r).1;omega
   ·rw[exf_ne e,exf_ne e'];exact hD.gg j k (by omega) (by omega) hne q r
 ·by_cases e:j=i
  ·subst e;rw[exf_eq];by_cases e':k=j
   ·subst e';rw[exf_eq];have:=(hgt q).2;have:=(hgg r).1;omega
   ·rw[exf_ne e'];have:=(hO.gu k (by omega)).lt r;have:=(hgt q).1;omega
  ·rw[exf_ne e];by_cases e':k=i
   ·subst e';rw[exf_eq];have:=(hO.ty j (by omega)).lt q;have:=(hgg r).1;omega
   ·rw[exf_ne e'];exact hD.tg j k (by omega) (by omega) q r
theorem OwnR.rz(h:OwnR W v g T.length (λi=>.int .i64 (T.getD i 0))):Rz Tr W v T:=by
 obtain⟨pa,ca,rfl,h2⟩:=h.sl;by_cases h0:0<T.length
 ·refine⟨pa,ca,rfl,(h2 h0).2,λq=>⟨_,(h2 h0).1,trivial,λj x hx=>?_⟩⟩;rw[addr0];have hj:=(List.getElem?_eq_some_iff.1 hx).1;have:=h.cell j hj;rw[this];simp[List.getD,hx]
 ·exact⟨pa,ca,rfl,by omega,λq=>absurd q h0⟩
theorem GwR.rg(h:GwR W v g G.length (λx=>(G.flatMap gcl).getD x (.bool false))):Rg Tr W v G:=by
 obtain⟨pa,ca,rfl,h2⟩:=h.sl;by_cases h0:0<G.length
 ·refine⟨pa,ca,rfl,(h2 h0).2,λq=>⟨_,(h2 h0).1,trivial,λj x hx=>?_⟩⟩;rw[addr0];have hj:=(List.getElem?_eq_some_iff.1 hx).1
  have hc:∀t,t<3->∀u,(gcl x)[t]? =some u->W.cell? ⟨g,j*3+t,none⟩=some u:=λt ht u hu=>by
   have:=h.cell (j*3+t) (by omega);rw[this];simp[List.getD,gcl_at G j x hx t ht,hu]
  exact⟨hc 0 (by omega) _ rfl,hc 1 (by omega) _ rfl,hc 2 (by omega) _ rfl⟩
 ·exact⟨pa,ca,rfl,by omega,λq=>absurd q h0⟩
theorem OwS.rowst{ca:Nat}{pa:Option Addr}(h:OwS W SB n ti gi (ntf S) (ngf S) vt vg (bsf S) (asf S) (vsf S))(hp:0<n->pa=some ⟨SB,0,none⟩/\n<=ca):RowSt W (.slice pa n ca) n S:=
 ⟨pa,ca,rfl,λhn=>⟨SB,(hp hn).1,(hp hn).2,λj hj=>⟨h.c0 j hj,vt j,vg j,h.c1 j hj,h.c2 j hj,(h.ty j hj).rz,(h.gu j hj).rg⟩⟩⟩
theorem OwS.on{nt ng:Nat->Nat}{B:Nat->Bool}{A:Nat->Nat->Int}{V:Nat->Nat->Value}(h:OwS W SB n ti gi nt ng vt vg B A V)(hd:Dst base SB n ti gi nt ng)(k:∀b,base<=b->b<W.heap.size->W'.heap[b]? =W.heap[b]?):OwS W' SB n ti gi nt ng vt vg B A V:=by
 have kS:∀j,j<n->W'.heap[SB]? =W.heap[SB]?:=λj hj=>k SB (hd.sb (by omega)) (lt_of_cell (h.c0 j hj));exact⟨λhn j=>by rw[World.frozen?_of_block (kS 0 hn)];exact h.fz hn j,λj hj=>by rw[World.cell?_of_block (kS j hj)];exact h.c0 j hj,λj hj=>by rw[World.cell?_of_block (kS j hj)];exact h.c1 j hj,λj hj=>by rw[World.cell?_of_block (kS j hj)];exact h.c2 j hj,λj hj=>(h.ty j hj).block (λq=>k _ (hd.t0 j hj q).1 ((h.ty j hj).lt q)),λj hj=>(h.gu j hj).on (λq=>k _ (hd.g0 j hj q).1 ((h.gu j hj).lt q))⟩
theorem RowSt.same(h:RowSt W v n S)(e:∀j,j<n->S j=S' j):RowSt W v n S':=by
 obtain⟨pa,ca,h1,h2⟩:=h;refine⟨pa,ca,h1,λhn=>?_⟩;obtain⟨SB,e1,e2,e3⟩:=h2 hn;exact⟨SB,e1,e2,λj hj=>by rw[<-e j hj];exact e3 j hj⟩
theorem eq_states{vb:Value}(w:World)(ha:RowSt w va n S)(hb:RowSt w vb n S)(hs:SmS n S):
  Calls Tryz.prog 8 #[va,vb] w λe w'=>e=.returned (.bool true)/\Kb 0 w w':=by
 obtain⟨pa,ca,rfl,ha2⟩:=ha;obtain⟨pb,cb,rfl,hb2⟩:=hb;have HA:Hid ((0<n->∃SB,pa=some ⟨SB,0,none⟩/\n<=ca/\∀j,j<n->ScR w SB j (S j))/\(0<n->∃SB,pb=some ⟨SB,0,none⟩/\n<=cb/\∀j,j<n->ScR w SB j (S j))/\SmS n S):=(⟨ha2,hb2,hs⟩:_/\_)
 have hnI:(n:Int)<=6000:=by have:=hs.1;omega
 clear ha2 hb2 hs;go_enter Tryz.func8,Tryz.ntmps8;go_wp2_with fail
 go_loopw [5] (λs5 wr=>∃i:Nat,s5=.int .i64 i/\i<=n/\Hid (Kb 0 w wr)) (λs5 _=>n-(intOf s5).toNat)
 case atStart=>exact⟨0,rfl,Nat.zero_le _,Kb.refl _ _⟩
 case round=>
  obtain⟨i,rfl,hin,HB⟩:=hrel;rcases Nat.lt_or_ge i n with hi|hi
  ·obtain⟨hA1,hA2,hA3⟩:=(uh HA)
   obtain⟨ga,rfl,hca,hra⟩:=hA1 (by omega);obtain⟨gb,rfl,hcb,hrb⟩:=hA2 (by omega);have hiI:(i:Int)<(n:Int):=by omega
   obtain⟨a0,ta,ua,a1,a2,hta,hua⟩:=(hra i hi).kb HB;obtain⟨b0,tb,ub,b1,b2,htb,hub⟩:=(hrb i hi).kb HB
   have heq:∀W',W'.heap=wr.heap->W'.os=wr.os->W'.output=wr.output->Calls Tryz.prog 22 #[.agg #[.bool (S i).isSome,ta,ua],.agg #[.bool (S i).isSome,tb,ub]] W' λe w'=>e=.returned (.bool true)/\Kb 0 wr w':=λW' h0 h1 h2=>by
    have kk:Kb 0 wr W':=⟨h1,h2,by rw[h0];exact Nat.le_refl _,λk _ _=>by rw[h0]⟩
    refine(eq_state W' (hta.kb kk) (htb.kb kk) (hua.kb kk) (hub.kb kk) (hA3.2 i hi).1 (hA3.2 i hi).2).mono ?_;rintro e w' ⟨rfl,k⟩;exact⟨rfl,kk.trans k⟩
   obtain⟨p1,c1,rfl,-⟩:=hta;obtain⟨p2,c2,rfl,-⟩:=hua;obtain⟨p3,c3,rfl,-⟩:=htb;obtain⟨p4,c4,rfl,-⟩:=hub;clear hra hrb hA1 hA2 hA3;generalize (S i).isSome=xb at*;generalize (tyS (S i)).length=n1 at*;generalize (guS (S i)).length=n2 at*
   have HKEEP:Hid (∀(W':World),Kb 0 wr W'->W'.cell? ⟨ga,i*3,none⟩=some (.bool xb)/\W'.cell? ⟨ga,i*3+1,none⟩=some (.slice p1 n1 c1)/\W'.cell? ⟨ga,i*3+2,none⟩=some (.slice p2 n2 c2)/\W'.cell? ⟨gb,i*3,none⟩=some (.bool xb)/\W'.cell? ⟨gb,i*3+1,none⟩=some (.slice p3 n1 c3)/\W'.cell? ⟨gb,i*3+2,none⟩=some (.slice p4 n2 c4)):=by
    show ∀(W':World),_;intro W' k;exact⟨k.cell a0,k.cell a1,k.cell a2,k.cell b0,k.cell b1,k.cell b2⟩
   have HEQ:Hid (∀W',W'.heap=wr.heap->W'.os=wr.os->W'.output=wr.output->Calls Tryz.prog 22 #[.agg #[.bool xb,.slice p1 n1 c1,.slice p2 n2 c2],.agg #[.bool xb,.slice p3 n1 c3,.slice p4 n2 c4]] W' λe w'=>e=.returned (.bool true)/\Kb 0 wr w'):=heq;clear hin heq;go_wp2_with fail
   go_region_held_law (λW'=>W'.cell? ⟨ga,i*3,none⟩=some (.bool xb)/\W'.cell? ⟨ga,i*3+1,none⟩=some (.slice p1 n1 c1)/\W'.cell? ⟨ga,i*3+2,none⟩=some (.slice p2 n2 c2)/\W'.cell? ⟨gb,i*3,none⟩=some (.bool xb)/\W'.cell? ⟨gb,i*3+1,none⟩=some (.slice p3 n1 c3)/\W'.cell? ⟨gb,i*3+2,none⟩=some (.slice p4 n2 c4)) (first|exact⟨a0,a1,a2,b0,b1,b2⟩|exact(uh HKEEP) _ k5)
    ((go_at_call 22;refine((uh HEQ) _ (by exact rfl) (by exact rfl) (by exact rfl)).mono ?_;rintro e w5 ⟨rfl,k5⟩))
   all_goals
    have HB5:Hid (Kb 0 w w5):=(uh HB).trans k5;clear HB HKEEP HEQ k5 a0 a1 a2 b0 b1 b2;go_wp2_with fail;go_roundw
    case rel=>exact⟨i+1,by go_num,by omega,HB5⟩
    case measure=>simp[intOf];omega
  ·obtain rfl:i=n:=by omega
   clear HA;go_wp2_with fail;go_ret;exact⟨rfl,HB⟩
def ImS(np:Nat)(F:Nat->Pd)(q:Int)(w:World)(e:Ending)(w':World):Prop:=∃v n S,e=.returned v/\StA np F q n S/\OwnSt w.heap.size w' v n S/\Kb 0 w w'
theorem ims_nil{w':World}(h:∀p,¬OkS np F q p)(k:Kb 0 w w'):ImS np F q w (.returned (.slice none 0 0)) w':=⟨_,0,λ_=>none,rfl,.inl ⟨rfl,h⟩,ownSt_nil _ _ _,k⟩
theorem lp_end{av:Nat->Prop}{k:Nat}(h:LpS SB n w.heap.size M av w2 n W)(kw:Kb 0 w w2)(hSB:w.heap.size<=SB)(hok:OkS np F (p:Int) p)(hn:n=(F p).n)(hk:wit F (F p) k=.ok M []):ImS np F (p:Int) w (.returned (.slice (some ⟨SB,0,none⟩) n n)) W:=by
 obtain⟨ti,gi,vt,vg,hO,hD⟩:=h.own;exact⟨_,n,M,rfl,.inr ⟨p,k,hok,hn,hk⟩,⟨_,_,SB,ti,gi,vt,vg,rfl,λ_=>⟨rfl,Nat.le_refl _⟩,hO,hD⟩,⟨h.ko.os.trans kw.os,h.ko.output.trans kw.output,Nat.le_trans kw.size h.ko.size,λb _ hb=>(h.ko.block b (Nat.lt_of_lt_of_le hb kw.size) (by omega)).trans (kw.block b zq hb)⟩⟩
theorem im_states(q:Int)(w:World)(hgd:Gd w)(ha:RowP 0 w va np F)(hb:Bd np F):
  Calls Tryz.prog 7 #[.agg #[va],.int .i64 q] w (ImS np F q w):=by
 have ha0:=ha;obtain⟨pa,ca,rfl,ha2⟩:=ha;obtain⟨w1,hw1⟩:∃w1,w1=w.alloc (.cells #[.slice pa np ca] 30):=⟨_,rfl⟩
 have k1:Kb 0 w w1:=by rw[hw1];exact kb_alloc _ _ _
 have b0:w1.heap[w.heap.size]? =some (.cells #[.slice pa np ca] 30 (0,0)):=by rw[hw1];exact alloc_new _ _ _
 have c0:w1.cell? ⟨w.heap.size,0,none⟩=some (.slice pa np ca):=cell_of b0 rfl;have HW1:Hid (w1=w.alloc (.cells #[.slice pa np ca] 30)):=hw1;clear hw1 b0;by_cases hq0:q<0
 ·have HA:Hid (ImS np F q w (.returned (.slice none 0 0)) w1):=ims_nil (λp hp=>by have:=hp.1;omega) k1;clear ha0 ha2 hgd hb k1;go_enter Tryz.func7,Tryz.ntmps7;go_upto_region 1 with fail;rw[<-(uh HW1)];clear HW1;go_wp2_with fail;go_ret;exact HA
 obtain⟨p,rfl⟩:∃p:Nat,q=(p:Int):=⟨q.toNat,by omega⟩
 by_cases hp:p<np
 case neg=>
  have hpI:(np:Int)<=(p:Int):=by omega
  have HA:Hid (ImS np F (p:Int) w (.returned (.slice none 0 0)) w1):=ims_nil (λp' hp'=>by have:=hp'.1;have:=hp'.2.1;omega) k1;clear ha0 ha2 hgd hb k1 hp hq0;have hq0:¬(p:Int)<0:=by omega
  go_enter Tryz.func7,Tryz.ntmps7;go_upto_region 1 with fail;rw[<-(uh HW1)];clear HW1;go_wp2_with fail;go_ret;exact HA
 have hpI:¬(np:Int)<=(p:Int):=by omega
 obtain⟨A,rfl,hca,-,hpr⟩:=ha2 (by omega);have HCC:=im_code w1 (hgd.keep k1) (ha0.keep k1) hb;have HY:Hid (Gd w/\RowP 0 w (.slice (some A) np ca) np F/\p<np/\Kb 0 w w1/\∀i,i<np->ProC 0 w (A.add (i*9)) (F i)):=(⟨hgd,ha0,hp,k1,hpr⟩:_/\_)
 clear ha0 ha2 hgd hb k1 hp hq0 hpr hca;have hq0:¬(p:Int)<0:=by omega
 go_enter Tryz.func7,Tryz.ntmps7;go_upto_region 1 with fail;rw[<-(uh HW1)];clear HW1;go_wp2_with fail;refine HCC.mono ?_;rintro e w2 ⟨c,f,n,rfl,hans,k2⟩;by_cases hc:c=0
 case neg=>
  have gc:((c:Int)==0)=false:=beq_eq_false_iff_ne.2 (by omega);have HA:Hid (ImS np F (p:Int) w (.returned (.slice none 0 0)) w2):=ims_nil (okS_no hans hc) ((uh HY).2.2.2.1.trans k2);clear HCC hans k2 hc HY c0;go_wp2_with fail;go_ret;exact HA
 subst hc
 obtain⟨rfl,rfl⟩:f=0/\n=0:=by
  rcases hans with⟨h1,_⟩|⟨_,⟨_,h2,h3,_⟩|⟨h1,_⟩⟩
  ·exact absurd rfl h1
  ·exact⟨h2,h3⟩
  ·exact absurd rfl h1
 obtain⟨hgd,ha0,hp,k1,hpr⟩:=(uh HY)
 have hok:OkS np F (p:Int) p:=⟨rfl,hp,hans⟩
 have hsk:=hok.sk;have k12:=k1.trans k2;have HPO:=im_passof (A:=A) (ca:=ca) w2 (λi hi=>(hpr i hi).keep zq k12) hp hsk.bp (hsk.nz p hp) (hsk.nn p hp);have HRU:Hid (∀e w',PsA (F p) A np ca p w2 e w'->∃X:PX,e=.returned (.pointer (some ⟨X.P,0,none⟩))/\Kb 0 w2 w'/\w2.heap.size<=X.SB/\w2.heap.size<=X.P/\(X.d=F p/\X.q=p)/\Calls Tryz.prog 19 #[.pointer (some ⟨X.P,0,none⟩)] w' (RuA X F w2)):=(λe w' h=>run_of2 w2 w' hsk hp (hgd.keep k12) (ha0.keep k12) h:∀e w',_)
 have HOK:Hid (OkS np F (p:Int) p/\Kb 0 w w2):=(⟨hok,k12⟩:_/\_)
 have c2:=k2.cell c0;clear HCC hans k2 HY c0 hgd ha0 hp k1 hpr hok hsk k12;go_wp2_with fail;refine HPO.mono ?_;intro e w4 hps;obtain⟨X,rfl,k4,hS,hP,⟨hXd,hXq⟩,HRN⟩:=(uh HRU) e w4 hps;clear HPO HRU hps c2 hXq;go_wp2_with fail;refine HRN.mono ?_;rintro e w5 ⟨c',f',n',rfl,hwr,-,-,k5,hpw⟩;obtain⟨hok,k2⟩:=(uh HOK)
 have hc':c'=0:=by
  rcases hok.2.2 with⟨z,-⟩|⟨-,⟨-,-,-,z⟩|⟨z,-⟩⟩
  ·exact absurd rfl z
  ·rw[hXd]at hwr;exact(hwr.uniq (z p hok.2.1)).1
  ·exact absurd rfl z
 obtain⟨k,M,db,vd,hk,hW⟩:=hpw hc';rw[hXd]at hk;have hsm:=StA.sm (.inr ⟨p,k,hok,rfl,hk⟩:StA np F (p:Int) (F p).n M);rw[<-hXd]at hsm hk;have k05:=k2.trans k5;have hPl:X.P<w5.heap.size:=Nat.lt_of_lt_of_le hW.pl hW.pf.size;have hSl:X.SB<w5.heap.size:=Nat.lt_of_lt_of_le hW.sl hW.pf.size;have hPc:w5.heap[X.P]? =_:=hW.pc;have HEN:Hid (∀W,LpS X.SB X.d.n w.heap.size M (AvP X db) w5 X.d.n W->ImS np F (p:Int) w (.returned (.slice (some ⟨X.SB,0,none⟩) X.d.n X.d.n)) W):=(λW h=>lp_end (k:=k) h k05 (Nat.le_trans k2.size hS) hok (by rw[hXd]) (by rw[hXd]at hk;exact hk):∀W,_)
 have HPC:Hid (∀W,Ko (λb=>b=X.SB) w5 W->W.cell? ⟨X.P,11,none⟩=some (.slice (some ⟨X.SB,0,none⟩) X.d.n X.d.n)):=(λW kW=>(World.cell?_of_block (kW.block X.P hPl (λe=>hW.ne e.symm))).trans (cell_of hPc rfl):∀W,_)
 have HL0:Hid (LpS X.SB X.d.n w.heap.size M (AvP X db) w5 0 w5):=(⟨Ko.refl _ _,hW.sz,λj _ hj=>hW.st j hj,λ_=>0,λ_=>0,λ_=>.bool false,λ_=>.bool false,⟨λq=>by omega,λj q=>by omega,λj q=>by omega,λj q=>by omega,λj q=>by omega,λj q=>by omega⟩,⟨λq=>by omega,λj q=>by omega,λj q=>by omega,λj k q=>by omega,λj k q=>by omega,λj k q=>by omega⟩⟩:LpS X.SB X.d.n w.heap.size M (AvP X db) w5 0 w5)
 have HAV:Hid ((∀b,AvP X db b->b≠X.SB)/\SmS X.d.n M/\w.heap.size<=w5.heap.size/\X.SB<w5.heap.size/\w.heap.size<=X.SB/\X.P≠X.SB):=(⟨λb hb=>hb.1,hsm,k05.size,hSl,Nat.le_trans k2.size hS,λe=>hW.ne e.symm⟩:_/\_)
 have nI:(X.d.n:Int)<=6000:=by have:=hsm.1;omega
 have c11:=(uh HPC) w5 (Ko.refl _ _);clear HRN hwr hpw hk hW hsm k05 hPl hSl hPc hok k2 hS hP HOK k5 k4 hXd;generalize AvP X db=av at*;generalize X.SB=SB at*;generalize X.P=P at*;generalize X.d.n=n at*;go_wp2_with fail
 go_loopw [33] (λsl wr=>∃i:Nat,sl=.int .i64 i/\i<=n/\Hid (LpS SB n w.heap.size M av w5 i wr)) (λsl _=>n-(intOf sl).toNat)
 case atStart=>exact⟨0,rfl,Nat.zero_le _,HL0⟩
 case round=>
  clear HL0 c11;obtain⟨i,rfl,hi,HX⟩:=hrel;have hL:=(uh HX)
  have c11:=(uh HPC) wr hL.ko;rcases Nat.lt_or_ge i n with h|h
  ·have iI:(i:Int)<(n:Int):=by omega
   obtain⟨hav,hsm,hs1,hs2,hs3,hPS⟩:=(uh HAV)
   obtain⟨x0,vt,vg,x1,x2,hT,hG⟩:=(hL.rest i (Nat.le_refl _) h).scrA;obtain⟨p1,c1,rfl,-⟩:=id hT;obtain⟨p2,c2,rfl,-⟩:=id hG;obtain⟨bi,hbi⟩:∃bi,bi=(M i).isSome:=⟨_,rfl⟩
   rw[<-hbi]at x0;obtain⟨wa,hwa⟩:∃wa,wa=wr.alloc (.cells #[.bool bi,.slice p1 (tyS (M i)).length c1,.slice p2 (guS (M i)).length c2] 58):=⟨_,rfl⟩
   have ka:Kb 0 wr wa:=by rw[hwa];exact kb_alloc _ _ _
   have ba:wa.heap[wr.heap.size]? =some (.cells #[.bool bi,.slice p1 (tyS (M i)).length c1,.slice p2 (guS (M i)).length c2] 58 (0,0)):=by rw[hwa];exact alloc_new _ _ _
   have hSr:SB<wr.heap.size:=lt_of_cell x0;have HC:Hid (∀W,Kb 0 wa W->W.cell? ⟨P,11,none⟩=some (.slice (some ⟨SB,0,none⟩) n n)/\W.cell? ⟨wr.heap.size,1,none⟩=some (.slice p1 (tyS (M i)).length c1)/\W.cell? ⟨SB,i*3+1,none⟩=some (.slice p1 (tyS (M i)).length c1)/\W.frozen? ⟨SB,i*3+1,none⟩=false):=(λW kW=>⟨(ka.trans kW).cell c11,kW.cell (cell_of ba rfl),(ka.trans kW).cell x1,((ka.trans kW).frozen zq hSr).trans (hL.fz _)⟩:∀W,_)
   have HCL:Hid (∀W,Kb 0 wa W->Calls Tryz.prog 20 #[.slice p1 (tyS (M i)).length c1] W λe w'=>∃v,e=.returned v/\OwI W.heap.size w' v (tyS (M i))/\Kb 0 W w'):=(λW kW=>im_clone W (hT.kb (ka.trans kW)) (hsm.2 i h).1:∀W,_)
   have HC2:Hid (∀W v W2,Kb 0 wa W->Kb 0 (W.setCell ⟨SB,i*3+1,none⟩ v) W2->W2.cell? ⟨P,11,none⟩=some (.slice (some ⟨SB,0,none⟩) n n)/\W2.cell? ⟨wr.heap.size,2,none⟩=some (.slice p2 (guS (M i)).length c2)/\W2.cell? ⟨SB,i*3+2,none⟩=some (.slice p2 (guS (M i)).length c2)/\W2.frozen? ⟨SB,i*3+2,none⟩=false):=(λW v W2 kW kW2=>by
    have hs:(W.setCell ⟨SB,i*3+1,none⟩ v).heap.size=W.heap.size:=by simp
    have hlt:=(ka.trans kW).size;have hla:=kW.size;have hba:=(Array.getElem?_eq_some_iff.1 ba).1;have eb:∀b,b<W.heap.size->b≠SB->W2.heap[b]? =W.heap[b]?:=λb hb hne=>(kW2.block b zq (by omega)).trans (Below.heap_setCell _ _ _ _ hne);refine⟨?_,?_,?_,?_⟩
    ·exact(World.cell?_of_block (eb P (by have:=lt_of_cell c11;omega) hPS)).trans ((ka.trans kW).cell c11)
    ·exact(World.cell?_of_block (eb wr.heap.size (by omega) (by omega))).trans (kW.cell (cell_of ba rfl))
    ·refine kW2.cell ?_;rw[set_ne _ _ _ _ _ (by omega)];exact(ka.trans kW).cell x2
    ·rw[kW2.frozen zq (by omega),set_fz]
     exact((ka.trans kW).frozen zq hSr).trans (hL.fz _):∀W v W2,_)
   have HCV:Hid (∀W v,Kb 0 wa W->(W.setCell ⟨SB,i*3+1,none⟩ v).cell? ⟨P,11,none⟩=some (.slice (some ⟨SB,0,none⟩) n n)/\(W.setCell ⟨SB,i*3+1,none⟩ v).cell? ⟨wr.heap.size,1,none⟩=some (.slice p1 (tyS (M i)).length c1)):=(λW v kW=>⟨(World.cell?_of_block (Below.heap_setCell _ _ _ _ hPS)).trans ((ka.trans kW).cell c11),(World.cell?_of_block (Below.heap_setCell _ _ _ _ (by show wr.heap.size≠SB;omega))).trans (kW.cell (cell_of ba rfl))⟩:∀W v,_)
   have HCV2:Hid (∀W v W2 v2,Kb 0 wa W->Kb 0 (W.setCell ⟨SB,i*3+1,none⟩ v) W2->(W2.setCell ⟨SB,i*3+2,none⟩ v2).cell? ⟨P,11,none⟩=some (.slice (some ⟨SB,0,none⟩) n n)/\(W2.setCell ⟨SB,i*3+2,none⟩ v2).cell? ⟨wr.heap.size,2,none⟩=some (.slice p2 (guS (M i)).length c2)):=(λW v W2 v2 kW kW2=>by
    obtain⟨e1,e2,-⟩:=(uh HC2) W v W2 kW kW2
    exact⟨(World.cell?_of_block (Below.heap_setCell _ _ _ _ hPS)).trans e1,(World.cell?_of_block (Below.heap_setCell _ _ _ _ (by show wr.heap.size≠SB;omega))).trans e2⟩:∀W v W2 v2,_)
   have HCG:Hid (∀W v W2,Kb 0 wa W->Kb 0 (W.setCell ⟨SB,i*3+1,none⟩ v) W2->Calls Tryz.prog 21 #[.slice p2 (guS (M i)).length c2] W2 λe w'=>∃v,e=.returned v/\OwG W2.heap.size w' v (guS (M i))/\Kb 0 W2 w'):=(λW v W2 kW kW2=>im_cloneg W2 (hG.on (λb hb hl=>((kW2.block b zq (by have:=(ka.trans kW).size;simp;omega)).trans (Below.heap_setCell _ _ _ _ (hav b hb))).trans ((ka.trans kW).block b zq hl))) (hsm.2 i h).2:∀W v W2,_)
   have HNX:Hid (∀W4 W6 v1 v2,Kb 0 wa W4->OwI wa.heap.size W4 v1 (tyS (M i))->Kb 0 (W4.setCell ⟨SB,i*3+1,none⟩ v1) W6->OwG W4.heap.size W6 v2 (guS (M i))->LpS SB n w.heap.size M av w5 (i+1) (W6.setCell ⟨SB,i*3+2,none⟩ v2)):=(λW4 W6 v1 v2 k4 o1 k6 o2=>lp_step hL h hav hs1 hs2 hs3 (ka.trans k4) (ownsRow_mono2 o1 ka.size) k6 o2:∀W4 W6 v1 v2,_)
   have HWA:Hid (wa=wr.alloc (.cells #[.bool bi,.slice p1 (tyS (M i)).length c1,.slice p2 (guS (M i)).length c2] 58)):=hwa;have cA:=(uh HC) wa (Kb.refl _ _);clear hL HX hav hsm hs1 hs2 hs3 hPS hT hG hbi hwa ka ba hSr;generalize (tyS (M i)).length=n1 at*;generalize (guS (M i)).length=n2 at*;go_upto_region 8 with fail;rw[<-(uh HWA)];clear HWA x0 x1 x2 c11;obtain⟨y0,y1,y2,y3⟩:=cA;have kz:Kb 0 wa wa.drew:=kb_drew _
   go_region_held_law (λW'=>W'.cell? ⟨P,11,none⟩=some (.slice (some ⟨SB,0,none⟩) n n)/\W'.cell? ⟨wr.heap.size,1,none⟩=some (.slice p1 n1 c1)) (first|exact⟨s5,s6⟩|exact sV _|exact⟨y0,y1⟩)
    ((go_at_call 20;refine((uh HCL) _ kz).mono ?_;rintro e w6 ⟨v6,rfl,ho6,k6⟩;have K6:Kb 0 wa w6:=kz.trans k6;obtain⟨ad6,cap6,rfl⟩:=own_shape ho6;obtain⟨s5,s6,s7,s8⟩:=(uh HC) w6 K6;have sV:=λv=>(uh HCV) w6 v K6))
   obtain⟨nv,hnv⟩:∃nv,nv=(tyS (M i)).length:=⟨_,rfl⟩
   have HC3:Hid (∀W2,Kb 0 (w6.setCell ⟨SB,i*3+1,none⟩ (.slice ad6 (tyS (M i)).length cap6)) W2->W2.cell? ⟨P,11,none⟩=some (.slice (some ⟨SB,0,none⟩) n n)/\W2.cell? ⟨wr.heap.size,2,none⟩=some (.slice p2 n2 c2)/\W2.cell? ⟨SB,i*3+2,none⟩=some (.slice p2 n2 c2)/\W2.frozen? ⟨SB,i*3+2,none⟩=false):=(λW2 k=>(uh HC2) w6 _ W2 K6 k:∀W2,_)
   have HCW:Hid (∀W2 v2,Kb 0 (w6.setCell ⟨SB,i*3+1,none⟩ (.slice ad6 (tyS (M i)).length cap6)) W2->(W2.setCell ⟨SB,i*3+2,none⟩ v2).cell? ⟨P,11,none⟩=some (.slice (some ⟨SB,0,none⟩) n n)/\(W2.setCell ⟨SB,i*3+2,none⟩ v2).cell? ⟨wr.heap.size,2,none⟩=some (.slice p2 n2 c2)):=(λW2 v2 k=>(uh HCV2) w6 _ W2 v2 K6 k:∀W2 v2,_)
   have HCH:Hid (∀W2,Kb 0 (w6.setCell ⟨SB,i*3+1,none⟩ (.slice ad6 (tyS (M i)).length cap6)) W2->Calls Tryz.prog 21 #[.slice p2 n2 c2] W2 λe w'=>∃v,e=.returned v/\OwG W2.heap.size w' v (guS (M i))/\Kb 0 W2 w'):=(λW2 k=>(uh HCG) w6 _ W2 K6 k:∀W2,_)
   have HNY:Hid (∀W6 v2,Kb 0 (w6.setCell ⟨SB,i*3+1,none⟩ (.slice ad6 (tyS (M i)).length cap6)) W6->OwG w6.heap.size W6 v2 (guS (M i))->LpS SB n w.heap.size M av w5 (i+1) (W6.setCell ⟨SB,i*3+2,none⟩ v2)):=(λW6 v2 k6' o2=>(uh HNX) w6 W6 _ v2 K6 ho6 k6' o2:∀W6 v2,_)
   obtain⟨w7,hw7⟩:∃w7,w7=w6.setCell ⟨SB,i*3+1,none⟩ (.slice ad6 (tyS (M i)).length cap6):=⟨_,rfl⟩
   have HS7:Hid (w7.heap.size=w6.heap.size):=by rw[hw7];exact World.size_setCell _ _ _
   rw[<-hw7]at HC3 HCW HCH HNY⊢;obtain⟨z0,z1,-,-⟩:=(uh HC3) w7 (Kb.refl _ _);clear HC2 HCV HCV2 HCG HNX HC HCL K6 ho6 k6 s5 s6 s7 s8 sV y0 y1 y2 y3 kz hnv hw7;have kz:Kb 0 w7 w7.drew:=kb_drew _;go_wp2_with fail
   go_region_held_law (λW'=>W'.cell? ⟨P,11,none⟩=some (.slice (some ⟨SB,0,none⟩) n n)/\W'.cell? ⟨wr.heap.size,2,none⟩=some (.slice p2 n2 c2)) (first|exact⟨s5,s6⟩|exact sV _|exact⟨z0,z1⟩)
    ((go_at_call 21;refine((uh HCH) _ kz).mono ?_;rintro e w8 ⟨v8,rfl,ho8,k8⟩;have K8:Kb 0 w7 w8:=kz.trans k8;obtain⟨ad8,cap8,rfl⟩:=own_shape ho8;obtain⟨s5,s6,s7,s8⟩:=(uh HC3) w8 K8;have sV:=λv=>(uh HCW) w8 v K8))
   have HN:Hid (LpS SB n w.heap.size M av w5 (i+1) (w8.setCell ⟨SB,i*3+2,none⟩ (.slice ad8 (guS (M i)).length cap8))):=(uh HNY) w8 _ K8 (by rw[<-(uh HS7)];exact ho8);clear HC3 HCW HCH HNY K8 ho8 k8 s5 s6 s7 s8 sV z0 z1 kz HS7;go_wp2_with fail;go_roundw
   case rel=>exact⟨i+1,by go_num,by omega,HN⟩
   case measure=>simp[intOf];omega
  ·obtain rfl:i=n:=by omega
   have iI:¬(i:Int)<(i:Int):=by omega
   have HE:=(uh HEN) wr hL;have HEh:Hid (ImS np F (p:Int) w (.returned (.slice (some ⟨SB,0,none⟩) i i)) wr):=HE;clear HE hL HX HPC HAV HEN;go_wp2_with fail;go_ret;exact HEh
structure Mg (a:Iv) (T:List Int) (w1:World) (I:Nat) (v:Value) (W:World):Prop where
 k:Kb 0 w1 W
 i:InB I a W
 t:OwI w1.heap.size W v T
 n:v.ownBlock≠some I
theorem Mg.kb(h:Mg a T w1 I v W)(k:Kb 0 W W'):Mg a T w1 I v W':=
 ⟨h.k.trans k,(k.block _ zq (Array.getElem?_eq_some_iff.1 h.i).1).trans h.i,h.t.kb k,h.n⟩
theorem Mg.kv{T':List Int}{q:Nat}(h:Mg a T w1 I v W)(k:Kv v q W W')(hq:∀g,v.ownBlock=some g->g=q)(ht:OwI w1.heap.size W' v T'):Mg a T' w1 I v W':=by
 have hv:∀g,v.ownBlock=some g->w1.heap.size<=g:=λg e=>(h.t.lt g e).1;refine⟨kb_kv h.k k hq hv,?_,ht,h.n⟩;exact(k.far hq (λg e q=>h.n (by rw[e,q])) (Array.getElem?_eq_some_iff.1 h.i).1).trans h.i
theorem MW.far(h:MW w5 SB DB n M D W):w5.heap.size<=W.heap.size:=h.size
structure PFm (w5:World) (SB DB:Nat) (W:World):Prop where
 os:W.os=w5.os
 output:W.output=w5.output
 size:w5.heap.size<=W.heap.size
 block:∀b,b<w5.heap.size->b≠SB->b≠DB->W.heap[b]? =w5.heap[b]?
theorem MW.pf(h:MW w5 SB DB n M D W):PFm w5 SB DB W:=⟨h.os,h.output,h.size,h.block⟩
theorem PFm.old(h:PFm w5 SB DB W)(k:Kb 0 w w5)(h1:w.heap.size<=SB)(h2:w.heap.size<=DB):Kb 0 w W:=
 ⟨h.os.trans k.os,h.output.trans k.output,Nat.le_trans k.size h.size,λb _ hb=>(h.block b (Nat.lt_of_lt_of_le hb k.size) (by omega) (by omega)).trans (k.block b zq hb)⟩
structure Ks2 (SB DB:Nat) (W W':World):Prop where
 size:W.heap.size<=W'.heap.size
 block:∀b,b<W.heap.size->b≠SB->b≠DB->W'.heap[b]? =W.heap[b]?
theorem Ks2.of(k:Kb 0 W W'):Ks2 SB DB W W':=⟨k.size,λb hb _ _=>k.block b zq hb⟩
theorem Ks2.trans{W1 W2:World}(h:Ks2 SB DB W W1)(k:Ks2 SB DB W1 W2):Ks2 SB DB W W2:=⟨Nat.le_trans h.size k.size,λb hb a c=>(k.block b (Nat.lt_of_lt_of_le hb h.size) a c).trans (h.block b hb a c)⟩
theorem Ks2.set3 {SB DB:Nat} {W:World} {x:Nat} {vt vg:Value}:Ks2 SB DB W (set3 W SB x vt vg):=
 ⟨by unfold Fo.set3;simp,λb _ hb _=>((Below.heap_setCell _ _ _ _ hb).trans (Below.heap_setCell _ _ _ _ hb)).trans (Below.heap_setCell _ _ _ _ hb)⟩
theorem Ks2.due{x:Nat}:Ks2 SB DB W (W.setCell ⟨DB,x,none⟩ v):=⟨by simp,λb _ _ hb=>Below.heap_setCell _ _ _ _ hb⟩
theorem FoR.ks{l:List (Nat×Sv)}(h:FoR (Av SB DB) base W v l)(k:Ks2 SB DB W W')(hv:∀g,v.ownBlock=some g->g≠SB/\g≠DB):FoR (Av SB DB) base W' v l:=by
 obtain⟨Z,h1,h2,h3⟩:=h;exact⟨Z,rowBlk' h1 (λg e=>k.block g (h1.lt g e).2 (hv g e).1 (hv g e).2),h2,λj z x hz hx=>(h3 j z x hz hx).on (λb hb hl=>k.block b hl hb.1 hb.2)⟩
theorem nx4_at:∀(Z:List Nz) (j:Nat) (z:Nz),Z[j]? =some z->∀t,t<4->(Z.flatMap nx4)[j*4+t]? =(nx4 z)[t]?
 | [],j,z,h,_,_=>by simp at h
 |a::Z,0,z,h,t,ht=>by
  have:a=z:=by simpa using h
  subst this;rw[List.flatMap_cons,List.getElem?_append_left (by simp[nx4];omega)]
  simp
 |a::Z,j+1,z,h,t,ht=>by
  rw[List.flatMap_cons,List.getElem?_append_right (by simp[nx4];omega)];have:=nx4_at Z j z (by simpa using h) t ht;rw[<-this]
  congr 1
  simp[nx4];omega
theorem FoR.at {av:Nat->Prop} {base:Nat} {W:World} {v:Value} {l:List (Nat×Sv)} (h:FoR av base W v l) {c:Nat} {x:Nat×Sv} (hx:l[c]? =some x):∃g cap vt vg,v=.slice (some ⟨g,0,none⟩) l.length cap/\l.length<=cap/\W.cell? ⟨g,c*4,none⟩=some (.int .i64 x.1)/\W.cell? ⟨g,c*4+1,none⟩=some (.bool true)/\W.cell? ⟨g,c*4+2,none⟩=some vt/\W.cell? ⟨g,c*4+3,none⟩=some vg/\Rz av W vt x.2.1/\Rg av W vg x.2.2:=by
 obtain⟨Z,h1,h2,h3⟩:=h;have hc:=(List.getElem?_eq_some_iff.1 hx).1;obtain⟨z,hz⟩:∃z,Z[c]? =some z:=⟨_,List.getElem?_eq_getElem (by omega)⟩
 obtain⟨e1,e2,e3⟩:=h3 c z x hz hx
 obtain⟨g,cap,hv,hcap⟩:∃g cap,v=.slice (some ⟨g,0,none⟩) Z.length cap/\Z.length<=cap:=by
  rcases h1.2 with⟨-,q⟩|⟨g,cap,cur,e,-,-,h4,-⟩
  ·omega
  ·exact⟨g,cap,e,h4⟩
 have hcell:∀t,t<4->W.cell? ⟨g,c*4+t,none⟩=(nx4 z)[t]?:=λt ht=>by
  rw[hv]at h1;rw[World.ownsRow.cellAt h1 (c*4+t) (by omega)];exact nx4_at Z c z hz t ht
 rw[h2]at hv hcap;exact⟨g,cap,z.2.1,z.2.2,hv,hcap,by rw[<-e1];exact hcell 0 (by omega),hcell 1 (by omega),hcell 2 (by omega),hcell 3 (by omega),e2,e3⟩
