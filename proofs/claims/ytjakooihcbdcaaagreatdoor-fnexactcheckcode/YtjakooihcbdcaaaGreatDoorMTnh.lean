import Derived.Test.YtjakooihcbdcaaaGreatDoorMZsq
import Derived.Test.YtjakooihcbdcaaaGreatDoorMTph0
import Derived.Test.YtjakooihcbdcaaaGreatDoorMTng
import Derived.Test.YtjakooihcbdcaaaGreatDoorMCgd
import Derived.Laws.StructEq
set_option maxHeartbeats 32000000
namespace Go.Proofs.YtjakooihcbdcaaaGreatDoor.Fo
open Go.ChangeShapes Go.WideShapes Go.ChangeAt Go.RowKit Go.Shelf
set_option linter.unusedVariables false
set_option maxRecDepth 100000
theorem sp_code {va : Value} {np : Nat} {F : Nat → Pd} (w : World) (ha : RowP 0 w va np F) (hb : Bd np F) :
  Calls Tryz.prog 8 #[.agg #[va]] w fun e w'=>∃ c f n:Nat,e = .returned (.agg #[.int .i64 c,.int .i64 f,.int .i64 n])∧AnC np F c f n∧Kb 0 w w':=by
 have ha0:=ha;obtain ⟨pa,ca,rfl,ha2⟩:=ha;obtain ⟨w1,hw1⟩:∃ w1,w1=(w.alloc (.cells #[.slice pa np ca] 31)).alloc (.cells #[.int .i64 0,.int .i64 0,.int .i64 0] 27):=⟨_,rfl⟩
 obtain ⟨b0,b1,bs,k1⟩:=two_new' w _ _ _ _ w1 hw1;obtain ⟨B,hB⟩:∃ B,B=w.heap.size+1:=⟨_,rfl⟩
 rw [← hB] at b1;have c0:w1.cell? ⟨w.heap.size,0,none⟩=some (.slice pa np ca):=cell_of b0 rfl
 have HSH:=sp_shape (ca:=ca) w1 (fun h=>by
  obtain ⟨A,e1,e2,e3,e4⟩:=ha2 h
  exact ⟨A,e1,e2,e3,fun i hi=>(e4 i hi).keep zq k1⟩) hb
 have HBK:Hid (∀ W,Kb 0 w1 W→W.cell? ⟨w.heap.size,0,none⟩=some (.slice pa np ca)∧W.heap[B]? = some (.cells #[.int .i64 0,.int .i64 0,.int .i64 0] 27 (0,0))∧Kb 0 w W):=(fun W k=>⟨k.cell c0,(k.block B zq (Array.getElem?_eq_some_iff.1 b1).1).trans b1,k1.trans k⟩:∀ W,_)
 have HRT:Hid (∀ (W:World) (c f n:Nat),Kb 0 w1 W→AnC np F c f n→∃ c' f' n':Nat,Ending.returned (.agg #[.int .i64 c,.int .i64 f,.int .i64 n]) = .returned (.agg #[.int .i64 c',.int .i64 f',.int .i64 n'])∧AnC np F c' f' n'∧Kb 0 w (((W.setCell ⟨B,0,none⟩ (.int .i64 c)).setCell ⟨B,1,none⟩ (.int .i64 f)).setCell ⟨B,2,none⟩ (.int .i64 n))):=(fun W c f n k h=>⟨c,f,n,rfl,h,(((k1.trans k).setCell ⟨B,0,none⟩ (.inr (by show w.heap.size≤B;omega)) _).setCell ⟨B,1,none⟩ (.inr (by show w.heap.size≤B;omega)) _).setCell ⟨B,2,none⟩ (.inr (by show w.heap.size≤B;omega)) _⟩:∀ (W:World) (c f n:Nat),_)
 have HY:Hid (RowP 0 w (.slice pa np ca) np F∧Bd np F∧(0 < np→∃ A:Addr,pa=some A∧np≤ca∧0≤A.block∧∀ i,i < np→ProC 0 w (A.add (i*9)) (F i))):=(⟨ha0,hb,ha2⟩:_∧_)
 have HW1:Hid (w1=(w.alloc (.cells #[.slice pa np ca] 31)).alloc (.cells #[.int .i64 0,.int .i64 0,.int .i64 0] 27)∧B=w.heap.size+1):=(⟨hw1,hB⟩:_∧_)
 clear ha0 hb ha2 hw1 b0 b1 bs k1 hB;go_enter Tryz.func8,Tryz.ntmps8;go_upto_region 1 with fail;rw [← (uh HW1).1,← (uh HW1).2];clear HW1;go_wp2_with fail;refine HSH.mono ?_;rintro e w2 ⟨c,f,n,rfl,hans,k2⟩;clear HSH c0;obtain ⟨w3,hw3⟩:∃ w3,w3=w2.alloc (.cells #[.int .i64 c,.int .i64 f,.int .i64 n] 27):=⟨_,rfl⟩
 have k23:Kb 0 w2 w3:=by rw [hw3];exact kb_alloc _ _ _
 have b3:w3.heap[w2.heap.size]? = some (.cells #[.int .i64 c,.int .i64 f,.int .i64 n] 27 (0,0)):=by rw [hw3];exact alloc_new _ _ _
 have x0:w3.cell? ⟨w2.heap.size,0,none⟩=some (.int .i64 c):=cell_of b3 rfl;have x1:w3.cell? ⟨w2.heap.size,1,none⟩=some (.int .i64 f):=cell_of b3 rfl;have x2:w3.cell? ⟨w2.heap.size,2,none⟩=some (.int .i64 n):=cell_of b3 rfl;have k13:=k2.trans k23;obtain ⟨y0,hB3,kw3⟩:=(uh HBK) w3 k13;have HW3:Hid (w3=w2.alloc (.cells #[.int .i64 c,.int .i64 f,.int .i64 n] 27)):=hw3;clear hw3 k23 b3 k2;by_cases hc0:c=0
 case neg =>
  have gc:((c:Int) == 0)=false:=beq_eq_false_iff_ne.2 (by omega);have r0:w3.cell? ⟨B,0,none⟩=some (.int .i64 0):=cell_of hB3 rfl;have r1:w3.cell? ⟨B,1,none⟩=some (.int .i64 0):=cell_of hB3 rfl;have r2:w3.cell? ⟨B,2,none⟩=some (.int .i64 0):=cell_of hB3 rfl;have fr:∀ j,w3.frozen? ⟨B,j,none⟩=false:=fun j=>frozen_of hB3;have HZ:=(uh HRT) w3 c f n k13 (.inl ⟨hc0,hans⟩);have HZh:Hid (∃ c' f' n':Nat,Ending.returned (.agg #[.int .i64 c,.int .i64 f,.int .i64 n]) = .returned (.agg #[.int .i64 c',.int .i64 f',.int .i64 n'])∧AnC np F c' f' n'∧Kb 0 w (((w3.setCell ⟨B,0,none⟩ (.int .i64 c)).setCell ⟨B,1,none⟩ (.int .i64 f)).setCell ⟨B,2,none⟩ (.int .i64 n))):=HZ;clear HZ hc0 hans k13 kw3 hB3 HBK HRT HY;go_upto_region 2 with fail;rw [← (uh HW3)];clear HW3;go_wp2_with fail;refine bodyPost_ret (by simp [results,Tryz.results8,go_sem,set3_0 r0,set3_1 r1,set3_2 r2];rfl) rfl ?_;exact HZh
 subst hc0
 obtain ⟨rfl,rfl⟩:f=0∧n=0:=by
  rcases hans with ⟨h1,_⟩ | ⟨_,h1,_⟩ | ⟨_,_,h2,h3,_⟩
  ·omega
  ·omega
  ·exact ⟨h2,h3⟩
 replace HW3:Hid (w3=w2.alloc (.cells #[.int .i64 0,.int .i64 0,.int .i64 0] 27)):=HW3;replace x0:w3.cell? ⟨w2.heap.size,0,none⟩=some (.int .i64 0):=x0;replace x1:w3.cell? ⟨w2.heap.size,1,none⟩=some (.int .i64 0):=x1;replace x2:w3.cell? ⟨w2.heap.size,2,none⟩=some (.int .i64 0):=x2;have hsk:=sk_of hans;have npI:(np:Int)≤200:=by have:=hsk.bp;omega
 have HSK:Hid (Sk np F∧Ans 7 np F 0 0 0):=(⟨hsk,hans⟩:_∧_)
 have HST:Hid (Kb 0 w1 w3∧∀ p,p < 0→WrR F (F p) 0 0):=(⟨k13,fun p hp=>by omega⟩:_∧_)
 clear hsk hans hB3 kw3 k13;go_upto_region 2 with fail;rw [← (uh HW3)];clear HW3;go_wp2_with fail
 go_loopw [16] (fun sl wr=>∃ p:Nat,sl = .int .i64 p∧p≤np∧Hid (Kb 0 w1 wr∧∀ q,q < p→WrR F (F q) 0 0)) (fun sl _=>np - (intOf sl).toNat)
 case atStart=>exact ⟨0,rfl,Nat.zero_le _,HST⟩
 case round =>
  clear HST x0 x1 x2 y0;obtain ⟨p,rfl,hp,HX⟩:=hrel;obtain ⟨kr,hall⟩:=(uh HX)
  clear HX;obtain ⟨y0,hBr,kwr⟩:=(uh HBK) wr kr;obtain ⟨ha0,hb,ha2⟩:=(uh HY)
  obtain ⟨hsk,hans⟩:=(uh HSK)
  rcases Nat.lt_or_ge p np with h | h
  ·have pI:(p:Int) < (np:Int):=by omega
   obtain ⟨A,rfl,hca,hAb,hpr⟩:=ha2 (by omega);have HPO:=sp_walk (A:=A) (ca:=ca) wr (fun i hi=>(hpr i hi).keep zq kwr) h hsk.bp (hsk.is p h) (hsk.hd p h) (hsk.nz p h) (hsk.nn p h) (fun i hi ho=>⟨by have:=(hsk.U h hi ho).1;omega,(hsk.U h hi ho).2⟩);have HKR:Hid (Kb 0 w1 wr∧(∀ q,q < p→WrR F (F q) 0 0)∧p < np):=(⟨kr,hall,h⟩:_∧_)
   clear ha0 hb ha2 hsk hans hca hAb hpr kr hall kwr hBr hp h;go_wp2_with fail;refine HPO.mono ?_;rintro e w5 ⟨v,c',f',n',rfl,hwr,hf0,hf1,k5,hsl⟩;clear HPO y0;obtain ⟨w6,hw6⟩:∃ w6,w6=w5.alloc (.cells #[.int .i64 c',.int .i64 f',.int .i64 n'] 27):=⟨_,rfl⟩
   have k56:Kb 0 w5 w6:=by rw [hw6];exact kb_alloc _ _ _
   have b6:w6.heap[w5.heap.size]? = some (.cells #[.int .i64 c',.int .i64 f',.int .i64 n'] 27 (0,0)):=by rw [hw6];exact alloc_new _ _ _
   have x0:w6.cell? ⟨w5.heap.size,0,none⟩=some (.int .i64 c'):=cell_of b6 rfl;have x1:w6.cell? ⟨w5.heap.size,1,none⟩=some (.int .i64 f'):=cell_of b6 rfl;have x2:w6.cell? ⟨w5.heap.size,2,none⟩=some (.int .i64 n'):=cell_of b6 rfl;have HW6:Hid (w6=w5.alloc (.cells #[.int .i64 c',.int .i64 f',.int .i64 n'] 27)):=hw6;obtain ⟨kr,hall,h⟩:=(uh HKR)
   have k6:Kb 0 w1 w6:=(kr.trans k5).trans k56;obtain ⟨-,hB6,-⟩:=(uh HBK) w6 k6;by_cases hc:c'=0
   ·subst hc;have hf:=hf0 rfl;subst hf
    have hn:n'=0:=by
     obtain ⟨k,hk⟩:=hwr;rcases hk with hk | ⟨M,hk,hk2⟩
     ·exact absurd hk (wit_nz k n')
     ·rcases hk2 with ⟨-,z,-⟩ | ⟨z,-⟩
      ·exact z
      ·cases z
    subst hn
    have HN:Hid (Kb 0 w1 w6∧∀ q,q < p+1→WrR F (F q) 0 0):=(⟨k6,fun q hq=>by
     by_cases e:q=p
     ·subst e;exact hwr
     ·exact hall q (by omega)⟩:_∧_)
    replace HW6:Hid (w6=w5.alloc (.cells #[.int .i64 0,.int .i64 0,.int .i64 0] 27)):=HW6;replace x0:w6.cell? ⟨w5.heap.size,0,none⟩=some (.int .i64 0):=x0;replace x1:w6.cell? ⟨w5.heap.size,1,none⟩=some (.int .i64 0):=x1;replace x2:w6.cell? ⟨w5.heap.size,2,none⟩=some (.int .i64 0):=x2;clear kr hall h k6 hB6 hwr hf0 hf1 k5 hw6 k56 b6 HKR;go_upto_region 8 with fail;rw [← (uh HW6)];clear HW6;go_wp2_with fail;go_roundw
    case rel=>exact ⟨p+1,by go_num,by omega,HN⟩
    case measure=>simp [intOf];omega
   ·have gc:((c':Int) == 0)=false:=beq_eq_false_iff_ne.2 (by omega);have hf:=hf1 hc;subst hf;have r0:w6.cell? ⟨B,0,none⟩=some (.int .i64 0):=cell_of hB6 rfl;have r1:w6.cell? ⟨B,1,none⟩=some (.int .i64 0):=cell_of hB6 rfl;have r2:w6.cell? ⟨B,2,none⟩=some (.int .i64 0):=cell_of hB6 rfl;have fr:∀ j,w6.frozen? ⟨B,j,none⟩=false:=fun j=>frozen_of hB6;have HZ:=(uh HRT) w6 c' f' n' k6 (.inr ⟨(uh HSK).2,.inr ⟨hc,h,hwr,hall⟩⟩);have HZh:Hid (∃ c'' f'' n'':Nat,Ending.returned (.agg #[.int .i64 c',.int .i64 f',.int .i64 n']) = .returned (.agg #[.int .i64 c'',.int .i64 f'',.int .i64 n''])∧AnC np F c'' f'' n''∧Kb 0 w (((w6.setCell ⟨B,0,none⟩ (.int .i64 c')).setCell ⟨B,1,none⟩ (.int .i64 f')).setCell ⟨B,2,none⟩ (.int .i64 n'))):=HZ;clear HZ kr hall h k6 hB6 hwr hf0 hf1 k5 hw6 k56 b6 HKR hc HBK HRT HY HSK;go_upto_region 8 with fail;rw [← (uh HW6)];clear HW6;go_wp2_with fail;refine bodyPost_ret (by simp [results,Tryz.results8,go_sem,set3_0 r0,set3_1 r1,set3_2 r2];rfl) rfl ?_;exact HZh
  ·have pI:¬ (p:Int) < (np:Int):=by omega
   obtain rfl:p=np:=by omega
   have r0:wr.cell? ⟨B,0,none⟩=some (.int .i64 0):=cell_of hBr rfl;have r1:wr.cell? ⟨B,1,none⟩=some (.int .i64 0):=cell_of hBr rfl;have r2:wr.cell? ⟨B,2,none⟩=some (.int .i64 0):=cell_of hBr rfl;have fr:∀ j,wr.frozen? ⟨B,j,none⟩=false:=fun j=>frozen_of hBr;have HZ:=(uh HRT) wr 0 0 0 kr (.inr ⟨hans,.inl ⟨rfl,rfl,rfl,hall⟩⟩);have HZh:Hid (∃ c' f' n':Nat,Ending.returned (.agg #[.int .i64 0,.int .i64 0,.int .i64 0]) = .returned (.agg #[.int .i64 c',.int .i64 f',.int .i64 n'])∧AnC p F c' f' n'∧Kb 0 w (((wr.setCell ⟨B,0,none⟩ (.int .i64 0)).setCell ⟨B,1,none⟩ (.int .i64 0)).setCell ⟨B,2,none⟩ (.int .i64 0))):=HZ;clear HZ kr hall hBr kwr ha0 hb ha2 hsk hans hp h HBK HRT HY HSK y0;go_wp2_with fail;refine bodyPost_ret (by simp [results,Tryz.results8,go_sem,set3_0 r0,set3_1 r1,set3_2 r2];rfl) rfl ?_;exact HZh
theorem im_code {va : Value} {np : Nat} {F : Nat → Pd} (w : World) (hgd : Gd w) (ha : RowP 0 w va np F) (hb : Bd np F) :
  Calls Tryz.prog 10 #[.agg #[va]] w fun e w'=>∃ c f n:Nat,e = .returned (.agg #[.int .i64 c,.int .i64 f,.int .i64 n])∧AnC np F c f n∧Kb 0 w w':=by
 have ha0:=ha;obtain ⟨pa,ca,rfl,ha2⟩:=ha;obtain ⟨w1,hw1⟩:∃ w1,w1=(w.alloc (.cells #[.slice pa np ca] 31)).alloc (.cells #[.int .i64 0,.int .i64 0,.int .i64 0] 27):=⟨_,rfl⟩
 obtain ⟨b0,b1,bs,k1⟩:=two_new' w _ _ _ _ w1 hw1;obtain ⟨B,hB⟩:∃ B,B=w.heap.size+1:=⟨_,rfl⟩
 rw [← hB] at b1;have c0:w1.cell? ⟨w.heap.size,0,none⟩=some (.slice pa np ca):=cell_of b0 rfl;have HSH:=im_shape w1 (hgd.keep k1) (ha0.keep k1) hb;have HBK:Hid (∀ W,Kb 0 w1 W→W.cell? ⟨w.heap.size,0,none⟩=some (.slice pa np ca)∧W.heap[B]? = some (.cells #[.int .i64 0,.int .i64 0,.int .i64 0] 27 (0,0))∧Kb 0 w W):=(fun W k=>⟨k.cell c0,(k.block B zq (Array.getElem?_eq_some_iff.1 b1).1).trans b1,k1.trans k⟩:∀ W,_)
 have HRT:Hid (∀ (W:World) (c f n:Nat),Kb 0 w1 W→AnC np F c f n→∃ c' f' n':Nat,Ending.returned (.agg #[.int .i64 c,.int .i64 f,.int .i64 n]) = .returned (.agg #[.int .i64 c',.int .i64 f',.int .i64 n'])∧AnC np F c' f' n'∧Kb 0 w (((W.setCell ⟨B,0,none⟩ (.int .i64 c)).setCell ⟨B,1,none⟩ (.int .i64 f)).setCell ⟨B,2,none⟩ (.int .i64 n))):=(fun W c f n k h=>⟨c,f,n,rfl,h,(((k1.trans k).setCell ⟨B,0,none⟩ (.inr (by show w.heap.size≤B;omega)) _).setCell ⟨B,1,none⟩ (.inr (by show w.heap.size≤B;omega)) _).setCell ⟨B,2,none⟩ (.inr (by show w.heap.size≤B;omega)) _⟩:∀ (W:World) (c f n:Nat),_)
 have HY:Hid (Gd w∧RowP 0 w (.slice pa np ca) np F∧Bd np F∧(0 < np→∃ A:Addr,pa=some A∧np≤ca∧0≤A.block∧∀ i,i < np→ProC 0 w (A.add (i*9)) (F i))):=(⟨hgd,ha0,hb,ha2⟩:_∧_)
 have HW1:Hid (w1=(w.alloc (.cells #[.slice pa np ca] 31)).alloc (.cells #[.int .i64 0,.int .i64 0,.int .i64 0] 27)∧B=w.heap.size+1):=(⟨hw1,hB⟩:_∧_)
 clear hgd ha0 hb ha2 hw1 b0 b1 bs k1 hB;go_enter Tryz.func10,Tryz.ntmps10;go_upto_region 1 with fail;rw [← (uh HW1).1,← (uh HW1).2];clear HW1;go_wp2_with fail;refine HSH.mono ?_;rintro e w2 ⟨c,f,n,rfl,hans,k2⟩;clear HSH c0;obtain ⟨w3,hw3⟩:∃ w3,w3=w2.alloc (.cells #[.int .i64 c,.int .i64 f,.int .i64 n] 27):=⟨_,rfl⟩
 have k23:Kb 0 w2 w3:=by rw [hw3];exact kb_alloc _ _ _
 have b3:w3.heap[w2.heap.size]? = some (.cells #[.int .i64 c,.int .i64 f,.int .i64 n] 27 (0,0)):=by rw [hw3];exact alloc_new _ _ _
 have x0:w3.cell? ⟨w2.heap.size,0,none⟩=some (.int .i64 c):=cell_of b3 rfl;have x1:w3.cell? ⟨w2.heap.size,1,none⟩=some (.int .i64 f):=cell_of b3 rfl;have x2:w3.cell? ⟨w2.heap.size,2,none⟩=some (.int .i64 n):=cell_of b3 rfl;have k13:=k2.trans k23;obtain ⟨y0,hB3,kw3⟩:=(uh HBK) w3 k13;have HW3:Hid (w3=w2.alloc (.cells #[.int .i64 c,.int .i64 f,.int .i64 n] 27)):=hw3;clear hw3 k23 b3 k2;by_cases hc0:c=0
 case neg =>
  have gc:((c:Int) == 0)=false:=beq_eq_false_iff_ne.2 (by omega);have r0:w3.cell? ⟨B,0,none⟩=some (.int .i64 0):=cell_of hB3 rfl;have r1:w3.cell? ⟨B,1,none⟩=some (.int .i64 0):=cell_of hB3 rfl;have r2:w3.cell? ⟨B,2,none⟩=some (.int .i64 0):=cell_of hB3 rfl;have fr:∀ j,w3.frozen? ⟨B,j,none⟩=false:=fun j=>frozen_of hB3;have HZ:=(uh HRT) w3 c f n k13 (.inl ⟨hc0,hans⟩);have HZh:Hid (∃ c' f' n':Nat,Ending.returned (.agg #[.int .i64 c,.int .i64 f,.int .i64 n]) = .returned (.agg #[.int .i64 c',.int .i64 f',.int .i64 n'])∧AnC np F c' f' n'∧Kb 0 w (((w3.setCell ⟨B,0,none⟩ (.int .i64 c)).setCell ⟨B,1,none⟩ (.int .i64 f)).setCell ⟨B,2,none⟩ (.int .i64 n))):=HZ;clear HZ hc0 hans k13 kw3 hB3 HBK HRT HY;go_upto_region 2 with fail;rw [← (uh HW3)];clear HW3;go_wp2_with fail;refine bodyPost_ret (by simp [results,Tryz.results10,go_sem,set3_0 r0,set3_1 r1,set3_2 r2];rfl) rfl ?_;exact HZh
 subst hc0
 obtain ⟨rfl,rfl⟩:f=0∧n=0:=by
  rcases hans with ⟨h1,_⟩ | ⟨_,h1,_⟩ | ⟨_,_,h2,h3,_⟩
  ·omega
  ·omega
  ·exact ⟨h2,h3⟩
 replace HW3:Hid (w3=w2.alloc (.cells #[.int .i64 0,.int .i64 0,.int .i64 0] 27)):=HW3;replace x0:w3.cell? ⟨w2.heap.size,0,none⟩=some (.int .i64 0):=x0;replace x1:w3.cell? ⟨w2.heap.size,1,none⟩=some (.int .i64 0):=x1;replace x2:w3.cell? ⟨w2.heap.size,2,none⟩=some (.int .i64 0):=x2;have hsk:=sk_of hans;have npI:(np:Int)≤200:=by have:=hsk.bp;omega
 have HSK:Hid (Sk np F∧Ans 7 np F 0 0 0):=(⟨hsk,hans⟩:_∧_)
 have HST:Hid (Kb 0 w1 w3∧∀ p,p < 0→WrR F (F p) 0 0):=(⟨k13,fun p hp=>by omega⟩:_∧_)
 clear hsk hans hB3 kw3 k13;go_upto_region 2 with fail;rw [← (uh HW3)];clear HW3;go_wp2_with fail
 go_loopw [15] (fun sl wr=>∃ p:Nat,sl = .int .i64 p∧p≤np∧Hid (Kb 0 w1 wr∧∀ q,q < p→WrR F (F q) 0 0)) (fun sl _=>np - (intOf sl).toNat)
 case atStart=>exact ⟨0,rfl,Nat.zero_le _,HST⟩
 case round =>
  clear HST x0 x1 x2 y0;obtain ⟨p,rfl,hp,HX⟩:=hrel;obtain ⟨kr,hall⟩:=(uh HX)
  clear HX;obtain ⟨y0,hBr,kwr⟩:=(uh HBK) wr kr;obtain ⟨hgd,ha0,hb,ha2⟩:=(uh HY)
  obtain ⟨hsk,hans⟩:=(uh HSK)
  rcases Nat.lt_or_ge p np with h | h
  ·have pI:(p:Int) < (np:Int):=by omega
   obtain ⟨A,rfl,hca,hAb,hpr⟩:=ha2 (by omega);have HPO:=im_passof (A:=A) (ca:=ca) wr (fun i hi=>(hpr i hi).keep zq kwr) h hsk.bp (hsk.nz p h) (hsk.nn p h);have HRU:Hid (∀ e w',PsA (F p) A np ca p wr e w'→∃ P,e = .returned (.pointer (some ⟨P,0,none⟩))∧Kb 0 wr w'∧Calls Tryz.prog 32 #[.pointer (some ⟨P,0,none⟩)] w' fun e2 w2=>∃ c f n:Nat,e2 = .returned (.agg #[.int .i64 c,.int .i64 f,.int .i64 n])∧WrR F (F p) c n∧(c=0→f=0)∧(c ≠ 0→f=p)∧Kb 0 wr w2):=(fun e w' hp'=>run_of wr w' hsk h (hgd.keep kwr) (ha0.keep kwr) hp':∀ e w',_)
   have HKR:Hid (Kb 0 w1 wr∧(∀ q,q < p→WrR F (F q) 0 0)∧p < np):=(⟨kr,hall,h⟩:_∧_)
   clear hgd ha0 hb ha2 hsk hans hca hAb hpr kr hall kwr hBr hp h;go_wp2_with fail;refine HPO.mono ?_;intro e w4 hps;obtain ⟨P,rfl,k4,HRN⟩:=(uh HRU) e w4 hps;clear HPO HRU hps y0;go_wp2_with fail;refine HRN.mono ?_;rintro e w5 ⟨c',f',n',rfl,hwr,hf0,hf1,k5⟩;clear HRN k4;obtain ⟨w6,hw6⟩:∃ w6,w6=w5.alloc (.cells #[.int .i64 c',.int .i64 f',.int .i64 n'] 27):=⟨_,rfl⟩
   have k56:Kb 0 w5 w6:=by rw [hw6];exact kb_alloc _ _ _
   have b6:w6.heap[w5.heap.size]? = some (.cells #[.int .i64 c',.int .i64 f',.int .i64 n'] 27 (0,0)):=by rw [hw6];exact alloc_new _ _ _
   have x0:w6.cell? ⟨w5.heap.size,0,none⟩=some (.int .i64 c'):=cell_of b6 rfl;have x1:w6.cell? ⟨w5.heap.size,1,none⟩=some (.int .i64 f'):=cell_of b6 rfl;have x2:w6.cell? ⟨w5.heap.size,2,none⟩=some (.int .i64 n'):=cell_of b6 rfl;have HW6:Hid (w6=w5.alloc (.cells #[.int .i64 c',.int .i64 f',.int .i64 n'] 27)):=hw6;obtain ⟨kr,hall,h⟩:=(uh HKR)
   have k6:Kb 0 w1 w6:=(kr.trans k5).trans k56;obtain ⟨-,hB6,-⟩:=(uh HBK) w6 k6;by_cases hc:c'=0
   ·subst hc;have hf:=hf0 rfl;subst hf
    have hn:n'=0:=by
     obtain ⟨k,hk⟩:=hwr;rcases hk with hk | ⟨M,hk,hk2⟩
     ·exact absurd hk (wit_nz k n')
     ·rcases hk2 with ⟨-,z,-⟩ | ⟨z,-⟩
      ·exact z
      ·cases z
    subst hn
    have HN:Hid (Kb 0 w1 w6∧∀ q,q < p+1→WrR F (F q) 0 0):=(⟨k6,fun q hq=>by
     by_cases e:q=p
     ·subst e;exact hwr
     ·exact hall q (by omega)⟩:_∧_)
    replace HW6:Hid (w6=w5.alloc (.cells #[.int .i64 0,.int .i64 0,.int .i64 0] 27)):=HW6;replace x0:w6.cell? ⟨w5.heap.size,0,none⟩=some (.int .i64 0):=x0;replace x1:w6.cell? ⟨w5.heap.size,1,none⟩=some (.int .i64 0):=x1;replace x2:w6.cell? ⟨w5.heap.size,2,none⟩=some (.int .i64 0):=x2;clear kr hall h k6 hB6 hwr hf0 hf1 k5 hw6 k56 b6 HKR;go_upto_region 8 with fail;rw [← (uh HW6)];clear HW6;go_wp2_with fail;go_roundw
    case rel=>exact ⟨p+1,by go_num,by omega,HN⟩
    case measure=>simp [intOf];omega
   ·have gc:((c':Int) == 0)=false:=beq_eq_false_iff_ne.2 (by omega);have hf:=hf1 hc;subst hf;have r0:w6.cell? ⟨B,0,none⟩=some (.int .i64 0):=cell_of hB6 rfl;have r1:w6.cell? ⟨B,1,none⟩=some (.int .i64 0):=cell_of hB6 rfl;have r2:w6.cell? ⟨B,2,none⟩=some (.int .i64 0):=cell_of hB6 rfl;have fr:∀ j,w6.frozen? ⟨B,j,none⟩=false:=fun j=>frozen_of hB6;have HZ:=(uh HRT) w6 c' f' n' k6 (.inr ⟨(uh HSK).2,.inr ⟨hc,h,hwr,hall⟩⟩);have HZh:Hid (∃ c'' f'' n'':Nat,Ending.returned (.agg #[.int .i64 c',.int .i64 f',.int .i64 n']) = .returned (.agg #[.int .i64 c'',.int .i64 f'',.int .i64 n''])∧AnC np F c'' f'' n''∧Kb 0 w (((w6.setCell ⟨B,0,none⟩ (.int .i64 c')).setCell ⟨B,1,none⟩ (.int .i64 f')).setCell ⟨B,2,none⟩ (.int .i64 n'))):=HZ;clear HZ kr hall h k6 hB6 hwr hf0 hf1 k5 hw6 k56 b6 HKR hc HBK HRT HY HSK;go_upto_region 8 with fail;rw [← (uh HW6)];clear HW6;go_wp2_with fail;refine bodyPost_ret (by simp [results,Tryz.results10,go_sem,set3_0 r0,set3_1 r1,set3_2 r2];rfl) rfl ?_;exact HZh
  ·have pI:¬ (p:Int) < (np:Int):=by omega
   obtain rfl:p=np:=by omega
   have r0:wr.cell? ⟨B,0,none⟩=some (.int .i64 0):=cell_of hBr rfl;have r1:wr.cell? ⟨B,1,none⟩=some (.int .i64 0):=cell_of hBr rfl;have r2:wr.cell? ⟨B,2,none⟩=some (.int .i64 0):=cell_of hBr rfl;have fr:∀ j,wr.frozen? ⟨B,j,none⟩=false:=fun j=>frozen_of hBr;have HZ:=(uh HRT) wr 0 0 0 kr (.inr ⟨hans,.inl ⟨rfl,rfl,rfl,hall⟩⟩);have HZh:Hid (∃ c' f' n':Nat,Ending.returned (.agg #[.int .i64 0,.int .i64 0,.int .i64 0]) = .returned (.agg #[.int .i64 c',.int .i64 f',.int .i64 n'])∧AnC p F c' f' n'∧Kb 0 w (((wr.setCell ⟨B,0,none⟩ (.int .i64 0)).setCell ⟨B,1,none⟩ (.int .i64 0)).setCell ⟨B,2,none⟩ (.int .i64 0))):=HZ;clear HZ kr hall hBr kwr hgd ha0 hb ha2 hsk hans hp h HBK HRT HY HSK y0;go_wp2_with fail;refine bodyPost_ret (by simp [results,Tryz.results10,go_sem,set3_0 r0,set3_1 r1,set3_2 r2];rfl) rfl ?_;exact HZh
