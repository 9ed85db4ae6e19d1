import Derived.Test.YtamcnmnaadpfoaaFJri
import Derived.Test.YtamcnmnaadpfoaaFUbc
import Derived.Test.YtamcnmnaadpfoaaFJha
set_option maxHeartbeats 16000000
namespace Go.Proofs.Ytamcnmnaadpfoaa.Fo
open Go.ChangeShapes Go.WideShapes Go.ChangeAt Go.RowKit
set_option linter.unusedVariables false
set_option maxRecDepth 100000
theorem dr_wt {w : World} {v u : Value} {n : Nat} {S R : Nat → ByteArray} (h1 : RowV w v n (fun i => .string (S i))) (h2 : RowV w u n (fun i => .string (R i))) (he : ∀ i, i < n → S i = R i) (hn : n ≤ 1048576) :
  Calls Try.prog 14 #[v,u] w fun e w'=>e = .returned (.bool true)∧Kb 0 w w':=by
 obtain ⟨pa,ca,rfl,ha⟩:=h1
 obtain ⟨pb,cb,rfl,hb⟩:=h2
 have hnI:(n:Int)≤1048576:=by omega
 have HA:Hid ((0 < n→∃ a:Addr,pa=some a∧n≤ca∧∀ i,i < n→w.cell? (a.add i)=some (.string (S i)))∧(0 < n→∃ a:Addr,pb=some a∧n≤cb∧∀ i,i < n→w.cell? (a.add i)=some (.string (R i)))∧(∀ i,i < n→S i=R i)):=(⟨ha,hb,he⟩:_∧_)
 clear ha hb he hn
 go_enter Try.func14,Try.ntmps14
 go_wp2_with fail
 go_loopw [13] (fun s13 wr=>∃ i:Nat,s13 = .int .i64 (i:Int)∧i≤n∧Hid (Kb 0 w wr)) (fun s13 _=>n - (intOf s13).toNat)
 case atStart=>exact ⟨0,rfl,Nat.zero_le _,Kb.refl _ _⟩
 case round =>
  obtain ⟨i,rfl,hin,HK⟩:=hrel
  have hk:=(show Kb 0 w wr from HK)
  by_cases hi:i < n
  ·have hiI:(i:Int) < (n:Int):=by omega
   obtain ⟨a1,a2,a3⟩:=(show (0 < n→∃ a:Addr,pa=some a∧n≤ca∧∀ i,i < n→w.cell? (a.add i)=some (.string (S i)))∧(0 < n→∃ a:Addr,pb=some a∧n≤cb∧∀ i,i < n→w.cell? (a.add i)=some (.string (R i)))∧(∀ i,i < n→S i=R i) from HA)
   obtain ⟨a,rfl,hca,hra⟩:=a1 (by omega)
   obtain ⟨b,rfl,hcb,hrb⟩:=a2 (by omega)
   have e1:wr.cell? (a.add i)=some (.string (S i)):=hk.cell (hra i hi)
   have e2:wr.cell? (b.add i)=some (.string (S i)):=by rw [a3 i hi];exact hk.cell (hrb i hi)
   clear a1 a2 a3 hra hrb hin hk HA
   go_wp2_with fail
   go_quiet (fail)
   have HN:Hid (Kb 0 w (wr.drewN nq)):=(show Kb 0 w wr from HK).trans (Kb.drewN (Kb.refl _ _) nq)
   generalize wr.drewN nq=w9 at *
   go_wp2_with fail
   go_roundw
   case rel=>exact ⟨i+1,by go_num,by omega,HN⟩
   case measure=>simp [intOf];omega
  ·obtain rfl:i=n:=by omega
   go_wp2_with fail
   go_ret
   exact ⟨rfl,HK⟩
theorem rja_jb {M:List UInt8} {ok:Bool} {J:Jd} (h:RjA M ok J):Jb J∧J.n≤300∧J.m≤300:=by
 cases ok
 ·rw [(h.2 rfl).1]
  exact ⟨⟨Nat.zero_le _,Nat.zero_le _,fun i hi=>absurd hi (Nat.not_lt_zero _)⟩,Nat.zero_le _,Nat.zero_le _⟩
 ·obtain ⟨h1,h2,-⟩:=h.1 rfl
  obtain ⟨q1,q2,-,-,-,q6⟩:=(jir_ok h2 h1).1
  refine ⟨⟨by omega,by omega,fun i hi=>?_⟩,by omega,by omega⟩
  obtain ⟨_,_,q⟩:=q6 i hi
  omega
theorem law_fj {pa : Option Addr} {ca n : Nat} (w : World) (hn : (n : Int) < 140737488355328) (hD : n ≤ 1048576 → Calls Try.prog 13 #[.slice pa n ca] w (DrB w)) :
  Calls Try.prog 4 #[.slice pa n ca] w fun e w'=>e = .returned (.bool true)∧Kb 0 w w':=by
 by_cases hlong : 1048576 < n
 ·have hl:(1048576:Int) < (n:Int):=by omega
  clear hD hlong
  go_enter Try.func4,Try.ntmps4
  go_wp2_with fail
  go_ret
  exact ⟨rfl,Kb.refl _ _⟩
 have HD:=hD (by omega)
 have hl:¬ (1048576:Int) < (n:Int):=by omega
 clear hD hlong hn
 go_enter Try.func4,Try.ntmps4
 go_wp2_with fail
 refine HD.mono ?_
 rintro e w1 ⟨v,rfl,hby,k1⟩
 obtain ⟨M,hM8,hsp,him,pb,cb,rfl,harg⟩:=byr_both hby
 have HI:=him w1 (Kb.refl _ _)
 have HSP:Hid (∀ W,Kb 0 w1 W→Calls Try.prog 5 #[.slice pb M.length cb] W (RjM M W)):=hsp
 have HAR:Hid (Arg pb cb M w1∧M.length≤8192∧Kb 0 w w1):=(⟨harg,hM8,k1⟩:_∧_)
 clear HD hby hsp him harg hM8 k1
 go_wp2_with fail
 refine HI.mono ?_
 rintro e w2 ⟨ok,J,v1,u1,rfl,ra1,hx1,k2⟩
 have r1:Jr J w2 v1 u1:=hx1.1
 obtain ⟨N,S,P,Q,m,T⟩:=J
 obtain ⟨p1,c1,rfl,-⟩:=id r1.1
 obtain ⟨q1,d1,rfl,-⟩:=id r1.2
 dsimp only at ra1 ⊢
 obtain ⟨g1,hg1⟩:∃ g1,g1=w2.heap.size:=⟨_,rfl⟩
 obtain ⟨w3,hw3⟩:∃ w3,w3=w2.alloc (.cells #[.bool ok,.slice p1 N c1,.int .i64 P,.int .i64 Q,.slice q1 m d1] 28):=⟨_,rfl⟩
 have k3:Kb 0 w2 w3:=by rw [hw3];exact kb_alloc _ _ _
 have b3:w3.heap[g1]? = some (.cells #[.bool ok,.slice p1 N c1,.int .i64 P,.int .i64 Q,.slice q1 m d1] 28 (0,0)):=by rw [hw3,hg1];exact alloc_new _ _ _
 have HS3:=(show ∀ W,Kb 0 w1 W→_ from HSP) w3 (k2.trans k3)
 have H3:Hid (Kb 0 w1 w3∧w3.heap[g1]? = some (.cells #[.bool ok,.slice p1 N c1,.int .i64 P,.int .i64 Q,.slice q1 m d1] 28 (0,0))∧Jr (⟨N,S,P,Q,m,T⟩:Jd) w3 (.slice p1 N c1) (.slice q1 m d1)∧RjA M ok (⟨N,S,P,Q,m,T⟩:Jd)):=(⟨k2.trans k3,b3,r1.keep k3,ra1⟩:_∧_)
 have HW3:Hid (w3=w2.alloc (.cells #[.bool ok,.slice p1 N c1,.int .i64 P,.int .i64 Q,.slice q1 m d1] 28)∧g1=w2.heap.size):=(⟨hw3,hg1⟩:_∧_)
 clear HI HSP r1 hx1 k2 k3 b3 ra1 hw3 hg1
 go_upto_region 5 with fail
 rw [← (show _∧_ from HW3).1,← (show _∧_ from HW3).2]
 clear HW3
 go_wp2_with fail
 refine HS3.mono ?_
 rintro e w4 ⟨ok',K,v2,u2,rfl,ra2,hx2,k4⟩
 obtain ⟨k13,b3,r1,ra1⟩:=(show Kb 0 w1 w3∧w3.heap[g1]? = some (.cells #[.bool ok,.slice p1 N c1,.int .i64 P,.int .i64 Q,.slice q1 m d1] 28 (0,0))∧Jr (⟨N,S,P,Q,m,T⟩:Jd) w3 (.slice p1 N c1) (.slice q1 m d1)∧RjA M ok (⟨N,S,P,Q,m,T⟩:Jd) from H3)
 obtain ⟨hok,hje⟩:=ra1.uniq ra2
 have r2:Jr K w4 v2 u2:=hx2.1
 obtain ⟨N2,S2,P2,Q2,m2,T2⟩:=K
 obtain ⟨e1,e2,e3,e4,e5,e6⟩:=hje
 dsimp only at e1 e2 e3 e4 e5 e6 ra2 ⊢
 subst hok e1 e2 e3 e4
 obtain ⟨p2,c2,rfl,-⟩:=id r2.1
 obtain ⟨q2,d2,rfl,-⟩:=id r2.2
 obtain ⟨g2,hg2⟩:∃ g2,g2=w4.heap.size:=⟨_,rfl⟩
 obtain ⟨w5,hw5⟩:∃ w5,w5=w4.alloc (.cells #[.bool ok,.slice p2 N c2,.int .i64 P,.int .i64 Q,.slice q2 m d2] 28):=⟨_,rfl⟩
 have k5:Kb 0 w4 w5:=by rw [hw5];exact kb_alloc _ _ _
 have b5:w5.heap[g2]? = some (.cells #[.bool ok,.slice p2 N c2,.int .i64 P,.int .i64 Q,.slice q2 m d2] 28 (0,0)):=by rw [hw5,hg2];exact alloc_new _ _ _
 have b3':=blk_kb b3 (k4.trans k5)
 have r1':=r1.keep (k4.trans k5)
 have r2':=r2.keep k5
 have HWT:=dr_wt (w:=w5) r1'.1 r2'.1 e5 (by obtain ⟨_,h9⟩:=(show Jb (⟨N,S,P,Q,m,T⟩:Jd)∧N≤300∧m≤300 from rja_jb ra1);show N≤1048576;omega)
 have hmN:=(show Jb (⟨N,S,P,Q,m,T⟩:Jd)∧N≤300∧m≤300 from rja_jb ra1).2
 have hmI:(m:Int)≤300:=by omega
 have hNI:(N:Int)≤300:=by omega
 have H5:Hid (Kb 0 w1 w5∧w5.heap[g1]? = some (.cells #[.bool ok,.slice p1 N c1,.int .i64 P,.int .i64 Q,.slice q1 m d1] 28 (0,0))∧w5.heap[g2]? = some (.cells #[.bool ok,.slice p2 N c2,.int .i64 P,.int .i64 Q,.slice q2 m d2] 28 (0,0))∧Jr (⟨N,S,P,Q,m,T⟩:Jd) w5 (.slice p1 N c1) (.slice q1 m d1)∧Jr (⟨N,S2,P,Q,m,T2⟩:Jd) w5 (.slice p2 N c2) (.slice q2 m d2)∧RjA M ok (⟨N,S,P,Q,m,T⟩:Jd)∧(∀ i,i < m→T i=T2 i)):=(⟨(k13.trans k4).trans k5,b3',b5,r1',r2',ra1,e6⟩:_∧_)
 have HW5:Hid (w5=w4.alloc (.cells #[.bool ok,.slice p2 N c2,.int .i64 P,.int .i64 Q,.slice q2 m d2] 28)∧g2=w4.heap.size):=(⟨hw5,hg2⟩:_∧_)
 have ax0:w5.cell? ⟨g1,0,none⟩=some (.bool ok):=cell_of b3' rfl
 have ax1:w5.cell? ⟨g1,1,none⟩=some (.slice p1 N c1):=cell_of b3' rfl
 have ax2:w5.cell? ⟨g1,2,none⟩=some (.int .i64 P):=cell_of b3' rfl
 have ax3:w5.cell? ⟨g1,3,none⟩=some (.int .i64 Q):=cell_of b3' rfl
 have ax4:w5.cell? ⟨g1,4,none⟩=some (.slice q1 m d1):=cell_of b3' rfl
 have cx0:w5.cell? ⟨g2,0,none⟩=some (.bool ok):=cell_of b5 rfl
 have cx1:w5.cell? ⟨g2,1,none⟩=some (.slice p2 N c2):=cell_of b5 rfl
 have cx2:w5.cell? ⟨g2,2,none⟩=some (.int .i64 P):=cell_of b5 rfl
 have cx3:w5.cell? ⟨g2,3,none⟩=some (.int .i64 Q):=cell_of b5 rfl
 have cx4:w5.cell? ⟨g2,4,none⟩=some (.slice q2 m d2):=cell_of b5 rfl
 clear HS3 k13 b3 r1 ra1 ra2 hx2 k4 r2 e5 e6 k5 b5 hw5 hg2 H3
 clear b3' r1' r2'
 go_upto_region 6 with fail
 rw [← (show _∧_ from HW5).1,← (show _∧_ from HW5).2]
 clear HW5
 go_wp2_with fail
 refine HWT.mono ?_
 rintro e w6 ⟨rfl,k6⟩
 have HK6:Hid (Kb 0 w5 w6):=k6
 have ay4:=k6.cell ax4
 have cy4:=k6.cell cx4
 clear HWT k6 ax0 ax1 ax2 ax3 ax4 cx0 cx1 cx2 cx3 cx4
 go_wp2_with fail
 clear ay4 cy4
 go_loopw [64] (fun s64 wr=>∃ i:Nat,s64 = .int .i64 (i:Int)∧i≤m∧Hid (Kb 0 w5 wr)) (fun s64 _=>m - (intOf s64).toNat)
 case atStart=>exact ⟨0,rfl,Nat.zero_le _,HK6⟩
 case round =>
  obtain ⟨i,rfl,him,HK⟩:=hrel
  obtain ⟨k15,b3',b5,r1',r2',ra1,e6⟩:=(show Kb 0 w1 w5∧w5.heap[g1]? = some (.cells #[.bool ok,.slice p1 N c1,.int .i64 P,.int .i64 Q,.slice q1 m d1] 28 (0,0))∧w5.heap[g2]? = some (.cells #[.bool ok,.slice p2 N c2,.int .i64 P,.int .i64 Q,.slice q2 m d2] 28 (0,0))∧Jr (⟨N,S,P,Q,m,T⟩:Jd) w5 (.slice p1 N c1) (.slice q1 m d1)∧Jr (⟨N,S2,P,Q,m,T2⟩:Jd) w5 (.slice p2 N c2) (.slice q2 m d2)∧RjA M ok (⟨N,S,P,Q,m,T⟩:Jd)∧(∀ i,i < m→T i=T2 i) from H5)
  have kr:=(show Kb 0 w5 wr from HK)
  have a4:wr.cell? ⟨g1,4,none⟩=some (.slice q1 m d1):=kr.cell (cell_of b3' rfl)
  have a0:wr.cell? ⟨g1,0,none⟩=some (.bool ok):=kr.cell (cell_of b3' rfl)
  have k4:wr.cell? ⟨g2,4,none⟩=some (.slice q2 m d2):=kr.cell (cell_of b5 rfl)
  by_cases hi:i < m
  ·have hiI:(i:Int) < (m:Int):=by omega
   obtain ⟨pa1,ca1,ee1,hh1⟩:=r1'.2.keep kr
   obtain ⟨pa2,ca2,ee2,hh2⟩:=r2'.2.keep kr
   obtain ⟨rfl,-,rfl⟩:=(Value.slice.injEq _ _ _ _ _ _).mp ee1
   obtain ⟨rfl,-,rfl⟩:=(Value.slice.injEq _ _ _ _ _ _).mp ee2
   obtain ⟨x1,rfl,hx1,-,hv1⟩:=hh1 (show 0 < m by omega)
   obtain ⟨x2,rfl,hx2,-,hv2⟩:=hh2 (show 0 < m by omega)
   obtain ⟨s0,s1,s2,s3⟩:=hv1 i hi
   obtain ⟨y0,y1,y2,y3⟩:=hv2 i hi
   dsimp only at s0 s1 s2 s3 y0 y1 y2 y3 hx1 hx2
   rw [← e6 i hi] at y0 y1 y2 y3
   clear hv1 hv2 hh1 hh2 r1' r2' b3' b5 ra1 k15 kr e6 ee1 ee2 a0 him H5
   go_wp2_with fail
   go_quiet (fail)
   have HN:Hid (Kb 0 w5 (wr.drewN nq)):=(show Kb 0 w5 wr from HK).trans (Kb.drewN (Kb.refl _ _) nq)
   generalize wr.drewN nq=w9 at *
   go_wp2_with fail
   go_roundw
   case rel=>exact ⟨i+1,by go_num,by omega,HN⟩
   case measure=>simp [intOf];omega
  ·obtain rfl:i=m:=by omega
   clear r2' e6 b5 k4
   cases ok with
   | false =>
    go_upto_region 14 with fail
    have HE:Hid (∀ d,Kb 0 w (wr.drewN d)):=(fun d=>(((show _∧_∧_ from HAR).2.2.trans k15).trans kr).trans (Kb.drewN (Kb.refl _ _) d):∀ d,Kb 0 w (wr.drewN d))
    clear kr k15 b3' ra1 HK H5 HAR a4 r1'
    go_quiet (fail)
    go_wp2_with fail
    go_ret
    exact ⟨rfl,(show ∀ d,_ from HE) _⟩
   | true =>
    have harg:=(show _∧_∧_ from HAR).1.keep (k15.trans kr)
    have r1k:=r1'.keep kr
    have kW:Kb 0 w wr:=((show _∧_∧_ from HAR).2.2.trans k15).trans kr
    have e3:wr.heap[g1]? = some (.cells #[.bool true,.slice p1 N c1,.int .i64 P,.int .i64 Q,.slice q1 i d1] 28 (0,0)):=blk_kb b3' kr
    have hJ:jir (⟨N,S,P,Q,i,T⟩:Jd)=toI M:=(ra1.1 rfl).2.1
    have hjb:=rja_jb ra1
    have HSS:Hid (∀ W,Kb 0 wr W→W.cell? ⟨g1,0,none⟩=some (.bool true)∧W.cell? ⟨g1,1,none⟩=some (.slice p1 N c1)∧W.cell? ⟨g1,2,none⟩=some (.int .i64 P)∧W.cell? ⟨g1,3,none⟩=some (.int .i64 Q)∧W.cell? ⟨g1,4,none⟩=some (.slice q1 i d1)∧(convert 22 9 (.slice pb M.length cb)).run Try.prog W = .ok (.string ⟨M.toArray⟩) W):=(fun W k=>by
     have e:=blk_kb e3 k
     exact ⟨cell_of e rfl,cell_of e rfl,cell_of e rfl,cell_of e rfl,cell_of e rfl,(harg.keep k).conv⟩:∀ W,_)
    have HIM:Hid (∀ W,Kb 0 wr W→Calls Try.prog 15 #[.agg #[.slice p1 N c1,.int .i64 P,.int .i64 Q,.slice q1 i d1]] W fun e w'=>∃ v,e = .returned v∧(convert 22 9 v).run Try.prog w' = .ok (.string ⟨M.toArray⟩) w'∧Kb 0 W w'):=(fun W k=>by
     have r:=r1k.keep k
     refine (im_jr (J:=⟨N,S,P,Q,i,T⟩) W r.1 r.2 (show N≤1048576 by have h9:N≤300:=hjb.2.1;omega) (show i≤1048576 by have h9:i≤300:=hjb.2.2;omega) (fun j hj=>by have h9:(T j).x.size≤1048576:=hjb.1.2.2 j hj;show ((T j).x.size:Int)≤9223372036854775807;omega)).mono ?_
     rintro e w' ⟨v,rfl,ho,hk⟩
     rw [hJ] at ho
     exact ⟨v,rfl,conv_pck ho,hk⟩:∀ W,_)
    have HKW:Hid (Kb 0 w wr):=kW
    clear harg r1k kW e3 hJ hjb b3' ra1 kr k15 r1' HK a4 a0 H5 HAR hmI hmN him hi
    go_upto_region 14 with fail
    refine AnyL.region (S:=fun W'=>Kb 0 wr W') (z:=12) (by kernel_rfl) ?_
    obtain ⟨VD,hVD⟩:∃ VD,VD=wr.drew:=⟨_,rfl⟩
    rw [← hVD]
    have KD:Kb 0 wr VD:=by rw [hVD];exact Kb.drew (Kb.refl _ _)
    clear hVD
    refine AnyL.takeAt 0 (.pointer (some ⟨g1,0,none⟩)) rfl (by kernel_rfl) (by kernel_rfl) (by kernel_rfl) (by kernel_rfl) (fun _ _ _ h=>h) rfl KD (by intro W hW;obtain ⟨a0,a1,a2,a3,a4,a5⟩:=(show ∀ W,Kb 0 wr W→_ from HSS) W hW;clear hW;go_simp) ?_
    try simp only [Act.put,List.setIfInBounds_toArray,List.set_cons_zero,List.set_cons_succ]
    refine AnyL.takeAt 1 (.bool true) rfl (by kernel_rfl) (by kernel_rfl) (by kernel_rfl) (by kernel_rfl) (fun _ _ _ h=>h) rfl KD (by intro W hW;obtain ⟨a0,a1,a2,a3,a4,a5⟩:=(show ∀ W,Kb 0 wr W→_ from HSS) W hW;clear hW;go_simp) ?_
    try simp only [Act.put,List.setIfInBounds_toArray,List.set_cons_zero,List.set_cons_succ]
    refine AnyL.takeAt 2 (.bool false) rfl (by kernel_rfl) (by kernel_rfl) (by kernel_rfl) (by kernel_rfl) (fun _ _ _ h=>h) rfl KD (by intro W hW;obtain ⟨a0,a1,a2,a3,a4,a5⟩:=(show ∀ W,Kb 0 wr W→_ from HSS) W hW;clear hW;go_simp) ?_
    try simp only [Act.put,List.setIfInBounds_toArray,List.set_cons_zero,List.set_cons_succ]
    refine AnyL.takeAt 3 (.bool false) rfl (by kernel_rfl) (by kernel_rfl) (by kernel_rfl) (by kernel_rfl) (fun _ _ _ h=>h) rfl KD (by intro W hW;obtain ⟨a0,a1,a2,a3,a4,a5⟩:=(show ∀ W,Kb 0 wr W→_ from HSS) W hW;clear hW;go_simp) ?_
    try simp only [Act.put,List.setIfInBounds_toArray,List.set_cons_zero,List.set_cons_succ]
    refine AnyL.takeAt 4 (.pointer (some ⟨g1,1,none⟩)) rfl (by kernel_rfl) (by kernel_rfl) (by kernel_rfl) (by kernel_rfl) (fun _ _ _ h=>h) rfl KD (by intro W hW;obtain ⟨a0,a1,a2,a3,a4,a5⟩:=(show ∀ W,Kb 0 wr W→_ from HSS) W hW;clear hW;go_simp) ?_
    try simp only [Act.put,List.setIfInBounds_toArray,List.set_cons_zero,List.set_cons_succ]
    refine AnyL.takeAt 5 (.agg #[.slice p1 N c1,.int .i64 P,.int .i64 Q,.slice q1 i d1]) rfl (by kernel_rfl) (by kernel_rfl) (by kernel_rfl) (by kernel_rfl) (fun _ _ _ h=>h) rfl KD (by intro W hW;obtain ⟨a0,a1,a2,a3,a4,a5⟩:=(show ∀ W,Kb 0 wr W→_ from HSS) W hW;clear hW;go_simp) ?_
    try simp only [Act.put,List.setIfInBounds_toArray,List.set_cons_zero,List.set_cons_succ]
    refine AnyL.takeAt 8 (.slice pb M.length cb) rfl (by kernel_rfl) (by kernel_rfl) (by kernel_rfl) (by kernel_rfl) (fun _ _ _ h=>h) rfl KD (by intro W hW;obtain ⟨a0,a1,a2,a3,a4,a5⟩:=(show ∀ W,Kb 0 wr W→_ from HSS) W hW;clear hW;go_simp) ?_
    try simp only [Act.put,List.setIfInBounds_toArray,List.set_cons_zero,List.set_cons_succ]
    refine AnyL.takeAt 9 (.string ⟨M.toArray⟩) rfl (by kernel_rfl) (by kernel_rfl) (by kernel_rfl) (by kernel_rfl) (fun _ _ _ h=>h) rfl KD (by intro W hW;obtain ⟨a0,a1,a2,a3,a4,a5⟩:=(show ∀ W,Kb 0 wr W→_ from HSS) W hW;clear hW;go_simp) ?_
    try simp only [Act.put,List.setIfInBounds_toArray,List.set_cons_zero,List.set_cons_succ]
    refine AnyL.oneAt 6 rfl (by kernel_rfl) rfl ?_
    intro K hK
    go_simp
    refine ((show ∀ W,Kb 0 wr W→_ from HIM) VD KD).mono ?_
    rintro e wc ⟨vq,rfl,hcv,hkc⟩
    have KC:Kb 0 wr wc:=KD.trans hkc
    clear KD hkc HIM
    refine hK.out _ _ (fun _=>KC) ?_
    clear hK K
    try simp only [Act.put,List.setIfInBounds_toArray,List.set_cons_zero,List.set_cons_succ]
    refine AnyL.oneAt 7 rfl (by kernel_rfl) rfl ?_
    intro K hK
    go_simp
    clear hcv
    refine hK.out _ _ (fun _=>KC) ?_
    clear hK K
    try simp only [Act.put,List.setIfInBounds_toArray,List.set_cons_zero,List.set_cons_succ]
    refine AnyL.takeAt 10 (.bool true) rfl (by kernel_rfl) (by kernel_rfl) (by kernel_rfl) (by kernel_rfl) (fun _ _ _ h=>h) rfl KC (by intro W hW;clear hW;go_simp) ?_
    try simp only [Act.put,List.setIfInBounds_toArray,List.set_cons_zero,List.set_cons_succ]
    refine AnyL.takeAt 11 (.bool true) rfl (by kernel_rfl) (by kernel_rfl) (by kernel_rfl) (by kernel_rfl) (fun _ _ _ h=>h) rfl KC (by intro W hW;clear hW;go_simp) ?_
    try simp only [Act.put,List.setIfInBounds_toArray,List.set_cons_zero,List.set_cons_succ]
    have HE:Hid (Kb 0 w wc):=(show Kb 0 w wr from HKW).trans KC
    refine AnyL.oneAt 12 rfl (by kernel_rfl) rfl ?_
    intro K hK
    go_simp
    refine hK.out _ _ (fun h=>absurd rfl h) ?_
    clear hK K KC HSS HKW
    try simp only [Act.put,List.setIfInBounds_toArray,List.set_cons_zero,List.set_cons_succ]
    refine AnyL.done (by kernel_rfl) ?_
    go_wp2_with fail
    go_ret
    exact ⟨rfl,HE⟩
end Go.Proofs.Ytamcnmnaadpfoaa.Fo
