import Derived.Test.YtfpidccjcemcjaaGreatMZsq
import Derived.Test.YtfpidccjcemcjaaGreatMNqb
set_option maxHeartbeats 8000000
namespace Go.Proofs.YtfpidccjcemcjaaGreat.Fo
open Go.ChangeShapes Go.WideShapes Go.ChangeAt Go.RowKit
set_option linter.unusedVariables false
set_option maxRecDepth 100000
theorem sp_refs26 {AN GP:Addr} {cnn cp nf ca Gs t:Nat} {pf pv pu:Option Addr} {cv cu:Nat} {e1:Option Addr} {e2 e3:Nat} {d:Fd} {PA:Nat→Int} (w:World) (ok:Fok d) (ht:t < d.n) (hnf:nf≤1048576) (hra:∀ i,i < d.n→NodeC 0 w (AN.add (i*8)) (d.N i)) (hrp:∀ k,k < d.n→w.cell? (GP.add k)=some (.int .i64 (PA k))) (hg:∃ DA,Grn d.N d.n PA DA) (hG:Gs < w.heap.size) (hs:Sn Gs d.p (DS d t 0) w) (hk:(d.N t).a.k=26):Calls Tryz.prog 40 #[.agg #[.slice pf nf ca],.agg #[.string d.x,.int .i64 d.l,.int .i64 d.m,.bool d.r,.slice pv d.p cv,.slice pu d.u cu,.slice (some AN) d.n cnn],.agg #[.slice (some GP) d.n cp,.slice e1 e2 e3],.int .i64 (t:Int),.slice (some ⟨Gs,0,none⟩) d.p d.p] w fun e w'=>e = .returned (.bool (dc (R6 d nf t)))∧Kx Gs w w'∧(R6 d nf t→Sn Gs d.p (DS d (t+1) 0) w'):=by
 have hp1:(d.N t).p=1:=ok.one t ht (by omega)
 have hiff:R6 d nf t↔0≤(d.N t).R 0∧(d.N t).R 0 < (d.p:Int)∧SS d.N d.n d.m ((d.N t).R 0) t:=by
  unfold R6 Dcn
  rw [hp1]
  constructor
  ·intro h;exact h.2.2.1 hk 0 (by omega)
  ·intro h
   have h':∀ j,j < 1→0≤(d.N t).R j∧(d.N t).R j < (d.p:Int)∧SS d.N d.n d.m ((d.N t).R j) t:=fun j hj=>by rw [show j=0 by omega];exact h
   exact ⟨fun e=>by omega,fun e=>by omega,fun e=>h',fun e=>by omega⟩
 have hnd:¬ Dcn d.N t:=by unfold Dcn;omega
 have hpp:(d.N t).p≤1048576:=ok.hp t ht
 have hpI:((d.N t).p:Int)≤1048576:=by omega
 have htI:(t:Int) < (d.n:Int):=by omega
 have hnI:(d.n:Int)≤3000:=by have:=ok.hn;omega
 obtain ⟨R,hR⟩:∃ R,R=dc (R6 d nf t):=⟨_,rfl⟩
 have HR:Hid (R=dc (R6 d nf t)):=hR
 rw [← hR]
 obtain ⟨vr,vk,⟨y0,y1,y2,y3,y4,y5,y6,y7⟩,hrr,hrk⟩:=hra t ht
 obtain ⟨pr,cr,rfl,hr2⟩:=id hrr
 obtain ⟨pk,ck,rfl,-⟩:=id hrk
 have hst:=hst0
 have ka3:∀ a b c:Obj,Kb 0 w (((w.alloc a).alloc b).alloc c):=fun a b c=>kb_alloc3 _ _ _ _ _
 have y0a:=fun a b c=>(ka3 a b c).cell y0
 have y1a:=fun a b c=>(ka3 a b c).cell y1
 have y2a:=fun a b c=>(ka3 a b c).cell y2
 have y3a:=fun a b c=>(ka3 a b c).cell y3
 have y4a:=fun a b c=>(ka3 a b c).cell y4
 have y5a:=fun a b c=>(ka3 a b c).cell y5
 have y6a:=fun a b c=>(ka3 a b c).cell y6
 have y7a:=fun a b c=>(ka3 a b c).cell y7
 obtain ⟨w4,hw4⟩:∃ w4,w4=((((w.alloc (.cells #[.slice pf nf ca] 30)).alloc (.cells #[.string d.x,.int .i64 d.l,.int .i64 d.m,.bool d.r,.slice pv d.p cv,.slice pu d.u cu,.slice (some AN) d.n cnn] 48)).alloc (.cells #[.slice (some GP) d.n cp,.slice e1 e2 e3] 75)).alloc (.cells #[.int .i64 (d.N t).a.k,.int .i64 (d.N t).a.l,.int .i64 (d.N t).a.o,.int .i64 (d.N t).a.m,.float .f64 (d.N t).a.g,.string (d.N t).a.x,.slice pr (d.N t).p cr,.slice pk (d.N t).q ck] 59)):=⟨_,rfl⟩
 obtain ⟨q0,q1,q2,q3,k4⟩:=four_new w _ _ _ _ _ _ _ _ w4 hw4
 have HW4:Hid (w4=((((w.alloc (.cells #[.slice pf nf ca] 30)).alloc (.cells #[.string d.x,.int .i64 d.l,.int .i64 d.m,.bool d.r,.slice pv d.p cv,.slice pu d.u cu,.slice (some AN) d.n cnn] 48)).alloc (.cells #[.slice (some GP) d.n cp,.slice e1 e2 e3] 75)).alloc (.cells #[.int .i64 (d.N t).a.k,.int .i64 (d.N t).a.l,.int .i64 (d.N t).a.o,.int .i64 (d.N t).a.m,.float .f64 (d.N t).a.g,.string (d.N t).a.x,.slice pr (d.N t).p cr,.slice pk (d.N t).q ck] 59))):=hw4
 have HX:Hid (∀ w',Kb 0 w4 w'→Kx Gs w w'∧(R6 d nf t→Sn Gs d.p (DS d (t+1) 0) w')):=(fun w' k=>⟨.of_kb (k4.trans k),fun _=>(hs.keep hG (k4.trans k)).eqv (fun y=>ds_same hnd)⟩:∀ w',_)
 have HV:Hid (0≤(d.N t).R 0→Calls Tryz.prog 56 #[.agg #[.string d.x,.int .i64 d.l,.int .i64 d.m,.bool d.r,.slice pv d.p cv,.slice pu d.u cu,.slice (some AN) d.n cnn],.agg #[.slice (some GP) d.n cp,.slice e1 e2 e3],.int .i64 (t:Int),.int .i64 ((d.N t).R 0)] w4 fun e w'=>e = .returned (.bool (dc (SS d.N d.n d.m ((d.N t).R 0) t)))∧Kb 0 w4 w'):=(fun h0=>sp_visible (vv:=.slice pv d.p cv) (vu:=.slice pu d.u cu) (vd:=.slice e1 e2 e3) ((d.N t).R 0) w4 ⟨_,_,_,rfl⟩ ⟨_,_,_,rfl⟩ ⟨_,_,_,rfl⟩ (fun i hi=>(hra i hi).keep zq k4) (fun k hk=>k4.cell (hrp k hk)) ok hg h0 t ht:_→_)
 obtain ⟨ra,rfl,-,-,hra'⟩:=hr2 (by omega)
 have qr0:w4.cell? (ra.add 0)=some (.int .i64 ((d.N t).R 0)):=k4.cell (hra' 0 (by omega))
 have qr1:w4.cell? ra=some (.int .i64 ((d.N t).R 0)):=qr0
 have n0:w4.cell? ⟨w.heap.size+1+1+1,0,none⟩=some (.int .i64 (d.N t).a.k):=cell_of q3 rfl
 have n6:w4.cell? ⟨w.heap.size+1+1+1,6,none⟩=some (.slice (some ra) (d.N t).p cr):=cell_of q3 rfl
 have f4:w4.cell? ⟨w.heap.size+1,4,none⟩=some (.slice pv d.p cv):=cell_of q1 rfl
 have hdI:(d.p:Int)≤200:=by have:=ok.p2;omega
 have b0:w4.cell? ⟨w.heap.size+1,0,none⟩=some ((.string d.x)):=cell_of q1 rfl
 have b1:w4.cell? ⟨w.heap.size+1,1,none⟩=some ((.int .i64 d.l)):=cell_of q1 rfl
 have b2:w4.cell? ⟨w.heap.size+1,2,none⟩=some ((.int .i64 d.m)):=cell_of q1 rfl
 have b3:w4.cell? ⟨w.heap.size+1,3,none⟩=some ((.bool d.r)):=cell_of q1 rfl
 have b4:w4.cell? ⟨w.heap.size+1,4,none⟩=some ((.slice pv d.p cv)):=cell_of q1 rfl
 have b5:w4.cell? ⟨w.heap.size+1,5,none⟩=some ((.slice pu d.u cu)):=cell_of q1 rfl
 have b6:w4.cell? ⟨w.heap.size+1,6,none⟩=some ((.slice (some AN) d.n cnn)):=cell_of q1 rfl
 have t0:w4.cell? ⟨w.heap.size+1+1,0,none⟩=some (.slice (some GP) d.n cp):=cell_of q2 rfl
 have t1:w4.cell? ⟨w.heap.size+1+1,1,none⟩=some (.slice e1 e2 e3):=cell_of q2 rfl
 have hp1I:(0:Int) < ((d.N t).p:Int):=by omega
 have g1:=beq1 hk
 have g27:((d.N t).a.k == 27)=false:=by simp;omega
 have g36:((d.N t).a.k == 36)=false:=by simp;omega
 have HI:Hid (R6 d nf t↔0≤(d.N t).R 0∧(d.N t).R 0 < (d.p:Int)∧SS d.N d.n d.m ((d.N t).R 0) t):=hiff
 clear hw4 q0 q1 q2 q3 k4 hra' hr2 hrr hrk hra hrp hg hs hG ok ht hnf hnd hk hiff hR ka3 y0 y1 y2 y3 y4 y5 y6 y7 hp1 f4
 generalize hkk:(d.N t).a.k=kk at *
 generalize hxx:(d.N t).R 0=x at *
 clear hkk hxx
 go_enter Tryz.func40,Tryz.ntmps40
 go_wp2_with fail
 rw [← (uh HW4)]
 clear HW4 y0a y1a y2a y3a y4a y5a y6a y7a
 go_wp2_with fail
 go_loopw [58] (fun s58 wr=>s58 = .int .i64 0∧w4=wr) (fun _ _=>0)
 case atStart=>exact ⟨rfl,rfl⟩
 case round =>
  obtain ⟨rfl,rfl⟩:=hrel
  rcases Int.lt_or_le x 0 with h0 | h0
  ·obtain rfl:R=false:=(uh HR).trans (dc_f (fun g=>by have:=((uh HI).1 g).1;omega))
   clear HR HI HV
   go_wp2_with fail
   all_goals (go_ret;exact ⟨rfl,(uh HX) _ (Kb.refl _ _)⟩)
  ·have g0:¬ x < 0:=by omega
   rcases Int.lt_or_le x (d.p:Int) with h1 | h1
   ·have g2:¬ (d.p:Int)≤x:=by omega
    have HC:=(uh HV) h0
    obtain ⟨z,hz⟩:∃ z,z=dc (SS d.N d.n d.m x t):=⟨_,rfl⟩
    have hRz:R=z:=by
     rw [hz,show R = _ from HR]
     congr 1
     exact propext ((uh HI).trans ⟨fun g=>g.2.2,fun g=>⟨h0,h1,g⟩⟩)
    rw [← hz] at HC
    subst hRz
    clear HR HI HV hz
    go_wp2_with fail
    refine HC.mono ?_
    rintro e w5 ⟨rfl,k5⟩
    have HX2:Hid (Kx Gs w w5∧(R6 d nf t→Sn Gs d.p (DS d (t+1) 0) w5)):=(uh HX) w5 k5
    clear k5 HX HC
    go_wp2_with fail
    go_ret
    exact ⟨rfl,HX2⟩
   ·obtain rfl:R=false:=(uh HR).trans (dc_f (fun g=>by have:=((uh HI).1 g).2.1;omega))
    clear HR HI HV
    go_wp2_with fail
    all_goals (go_ret;exact ⟨rfl,(uh HX) _ (Kb.refl _ _)⟩)
theorem sp_refs0 {AN GP:Addr} {cnn cp nf ca Gs t:Nat} {pf pv pu:Option Addr} {cv cu:Nat} {e1:Option Addr} {e2 e3:Nat} {d:Fd} {PA:Nat→Int} (w:World) (ok:Fok d) (ht:t < d.n) (hnf:nf≤1048576) (hra:∀ i,i < d.n→NodeC 0 w (AN.add (i*8)) (d.N i)) (hrp:∀ k,k < d.n→w.cell? (GP.add k)=some (.int .i64 (PA k))) (hg:∃ DA,Grn d.N d.n PA DA) (hG:Gs < w.heap.size) (hs:Sn Gs d.p (DS d t 0) w) (hpd:∀ pr cr,w.cell? ⟨(AN.add (t*8)).block,(AN.add (t*8)).off+6,none⟩=some (.slice pr (d.N t).p cr)→0 < (d.N t).p→∃ a:Addr,pr=some a∧a.block ≠ Gs) (hk:Dcn d.N t):Calls Tryz.prog 40 #[.agg #[.slice pf nf ca],.agg #[.string d.x,.int .i64 d.l,.int .i64 d.m,.bool d.r,.slice pv d.p cv,.slice pu d.u cu,.slice (some AN) d.n cnn],.agg #[.slice (some GP) d.n cp,.slice e1 e2 e3],.int .i64 (t:Int),.slice (some ⟨Gs,0,none⟩) d.p d.p] w fun e w'=>e = .returned (.bool (dc (R6 d nf t)))∧Kx Gs w w'∧(R6 d nf t→Sn Gs d.p (DS d (t+1) 0) w'):=by
 have hiff:R6 d nf t↔∀ j,j < (d.N t).p→0≤(d.N t).R j∧(d.N t).R j < (d.p:Int)∧¬ DS d t j ((d.N t).R j):=by
  unfold R6
  constructor
  ·intro h;exact h.2.2.2 hk
  ·intro h
   exact ⟨fun e=>absurd e hk.2.1,fun e=>absurd e hk.2.2,fun e=>absurd e hk.1,fun _=>h⟩
 have hpp:(d.N t).p≤1048576:=ok.hp t ht
 have hpI:((d.N t).p:Int)≤1048576:=by omega
 have htI:(t:Int) < (d.n:Int):=by omega
 have hnI:(d.n:Int)≤3000:=by have:=ok.hn;omega
 obtain ⟨R,hR⟩:∃ R,R=dc (R6 d nf t):=⟨_,rfl⟩
 have HR:Hid (R=dc (R6 d nf t)):=hR
 rw [← hR]
 obtain ⟨vr,vk,⟨y0,y1,y2,y3,y4,y5,y6,y7⟩,hrr,hrk⟩:=hra t ht
 obtain ⟨pr,cr,rfl,hr2⟩:=id hrr
 obtain ⟨pk,ck,rfl,-⟩:=id hrk
 have hst:=hst0
 have ka3:∀ a b c:Obj,Kb 0 w (((w.alloc a).alloc b).alloc c):=fun a b c=>kb_alloc3 _ _ _ _ _
 have y0a:=fun a b c=>(ka3 a b c).cell y0
 have y1a:=fun a b c=>(ka3 a b c).cell y1
 have y2a:=fun a b c=>(ka3 a b c).cell y2
 have y3a:=fun a b c=>(ka3 a b c).cell y3
 have y4a:=fun a b c=>(ka3 a b c).cell y4
 have y5a:=fun a b c=>(ka3 a b c).cell y5
 have y6a:=fun a b c=>(ka3 a b c).cell y6
 have y7a:=fun a b c=>(ka3 a b c).cell y7
 obtain ⟨w4,hw4⟩:∃ w4,w4=((((w.alloc (.cells #[.slice pf nf ca] 30)).alloc (.cells #[.string d.x,.int .i64 d.l,.int .i64 d.m,.bool d.r,.slice pv d.p cv,.slice pu d.u cu,.slice (some AN) d.n cnn] 48)).alloc (.cells #[.slice (some GP) d.n cp,.slice e1 e2 e3] 75)).alloc (.cells #[.int .i64 (d.N t).a.k,.int .i64 (d.N t).a.l,.int .i64 (d.N t).a.o,.int .i64 (d.N t).a.m,.float .f64 (d.N t).a.g,.string (d.N t).a.x,.slice pr (d.N t).p cr,.slice pk (d.N t).q ck] 59)):=⟨_,rfl⟩
 obtain ⟨q0,q1,q2,q3,k4⟩:=four_new w _ _ _ _ _ _ _ _ w4 hw4
 have HW4:Hid (w4=((((w.alloc (.cells #[.slice pf nf ca] 30)).alloc (.cells #[.string d.x,.int .i64 d.l,.int .i64 d.m,.bool d.r,.slice pv d.p cv,.slice pu d.u cu,.slice (some AN) d.n cnn] 48)).alloc (.cells #[.slice (some GP) d.n cp,.slice e1 e2 e3] 75)).alloc (.cells #[.int .i64 (d.N t).a.k,.int .i64 (d.N t).a.l,.int .i64 (d.N t).a.o,.int .i64 (d.N t).a.m,.float .f64 (d.N t).a.g,.string (d.N t).a.x,.slice pr (d.N t).p cr,.slice pk (d.N t).q ck] 59))):=hw4
 have n0:w4.cell? ⟨w.heap.size+1+1+1,0,none⟩=some (.int .i64 (d.N t).a.k):=cell_of q3 rfl
 have n6:w4.cell? ⟨w.heap.size+1+1+1,6,none⟩=some (.slice pr (d.N t).p cr):=cell_of q3 rfl
 have f4:w4.cell? ⟨w.heap.size+1,4,none⟩=some (.slice pv d.p cv):=cell_of q1 rfl
 have hdI:(d.p:Int)≤200:=by have:=ok.p2;omega
 have HI:Hid ((R6 d nf t↔∀ j,j < (d.N t).p→0≤(d.N t).R j∧(d.N t).R j < (d.p:Int)∧¬ DS d t j ((d.N t).R j))∧Dcn d.N t∧Kb 0 w w4∧(0 < (d.N t).p→∃ a:Addr,pr=some a∧(d.N t).p≤cr∧0≤a.block∧∀ i,i < (d.N t).p→w.cell? (a.add i)=some (.int .i64 ((d.N t).R i)))∧w4.cell? ⟨w.heap.size+1+1+1,0,none⟩=some (.int .i64 (d.N t).a.k)∧w4.cell? ⟨w.heap.size+1,4,none⟩=some (.slice pv d.p cv)∧Gs < w.heap.size∧(0 < (d.N t).p→∃ a:Addr,pr=some a∧a.block ≠ Gs)):=(⟨hiff,hk,k4,hr2,n0,f4,hG,hpd _ _ y6⟩:_∧_)
 have H0:Hid (Kx Gs w4 w4∧Sn Gs d.p (DS d t 0) w4):=(⟨Kx.refl _ _,hs.keep hG k4⟩:_∧_)
 have g27:((d.N t).a.k == 27)=false:=by simp;exact hk.2.1
 have g36:((d.N t).a.k == 36)=false:=by simp;exact hk.2.2
 have g26:((d.N t).a.k == 26)=false:=by simp;exact hk.1
 clear hw4 q0 q1 q2 q3 k4 hr2 hrr hrk hra hrp hg hs hG ok ht hnf hk hiff hR ka3 y0 y1 y2 y3 y4 y5 y6 y7 hpd f4
 go_enter Tryz.func40,Tryz.ntmps40
 go_wp2_with fail
 rw [← (uh HW4)]
 clear HW4 y0a y1a y2a y3a y4a y5a y6a y7a
 go_wp2_with fail
 go_loopw [58] (fun s58 wr=>∃ j:Nat,s58 = .int .i64 (j:Int)∧j≤(d.N t).p∧Hid ((Kx Gs w4 wr∧Sn Gs d.p (DS d t j) wr)∧∀ i,i < j→0≤(d.N t).R i∧(d.N t).R i < (d.p:Int)∧¬ DS d t i ((d.N t).R i))) (fun s58 _=>(d.N t).p - (intOf s58).toNat)
 case atStart=>exact ⟨0,rfl,Nat.zero_le _,(⟨H0,fun i hi=>by omega⟩:_∧_)⟩
 case round =>
  clear H0
  obtain ⟨j,rfl,hj,HJ⟩:=hrel
  obtain ⟨⟨kx,hsn⟩,hall⟩:=(uh HJ)
  obtain ⟨hiff,hdc,k4,hr2,n0,f4,hG,hnG⟩:=(uh HI)
  have kxw:Kx Gs w wr:=(Kx.of_kb k4).trans kx
  rcases Nat.lt_or_ge j (d.N t).p with hlt | hge
  case inr =>
   have ej:j=(d.N t).p:=by omega
   subst ej
   have hT:R=true:=(uh HR).trans (dc_t (hiff.2 hall))
   subst hT
   have HX:Hid (Kx Gs w wr∧(R6 d nf t→Sn Gs d.p (DS d (t+1) 0) wr)):=(⟨kxw,fun _=>hsn.eqv (fun y=>ds_next hdc)⟩:_∧_)
   clear HR HI HJ kx hsn hall hiff hdc k4 hr2 n0 f4 hG hnG kxw hj hge
   go_wp2_with fail
   go_ret
   exact ⟨rfl,HX⟩
  have hjI:(j:Int) < ((d.N t).p:Int):=by omega
  obtain ⟨ra,rfl,-,-,hra⟩:=hr2 (by omega)
  obtain ⟨ra',e',hne⟩:=hnG (by omega)
  obtain rfl:ra=ra':=by simpa using e'
  have cx:∀ {a:Addr} {u:Value},a.block ≠ Gs→w4.cell? a=some u→wr.cell? a=some u:=fun {a u} h1 h2=>(World.cell?_of_block (kx.block _ (lt_of_cell' h2) h1)).trans h2
  have qr:wr.cell? (ra.add j)=some (.int .i64 ((d.N t).R j)):=cx (by rw [add_block];exact hne) (k4.cell (hra j hlt))
  have n0':wr.cell? ⟨w.heap.size+1+1+1,0,none⟩=some (.int .i64 (d.N t).a.k):=cx (by show w.heap.size+1+1+1 ≠ Gs;omega) n0
  have f4':wr.cell? ⟨w.heap.size+1,4,none⟩=some (.slice pv d.p cv):=cx (by show w.heap.size+1 ≠ Gs;omega) f4
  have HF:Hid (¬ (0≤(d.N t).R j∧(d.N t).R j < (d.p:Int)∧¬ DS d t j ((d.N t).R j))→R=false∧Kx Gs w wr∧(R6 d nf t→Sn Gs d.p (DS d (t+1) 0) wr)):=(fun g=>⟨(uh HR).trans (dc_f (fun h=>g (hiff.1 h j hlt))),kxw,fun h=>absurd (hiff.1 h j hlt) g⟩:_→_)
  have HG:Hid (0≤(d.N t).R j∧(d.N t).R j < (d.p:Int)∧¬ DS d t j ((d.N t).R j)→∀ i,i < j+1→0≤(d.N t).R i∧(d.N t).R i < (d.p:Int)∧¬ DS d t i ((d.N t).R i)):=(fun g i hi=>by
   by_cases e:i=j
   ·rw [e];exact g
   ·exact hall i (by omega):_→_)
  have hstep:=fun y=>ds_step (d:=d) (t:=t) (j:=j) hdc (x:=y)
  have HS:Hid (Kx Gs w4 wr∧Sn Gs d.p (DS d t j) wr∧∀ y,DS d t (j+1) y↔DS d t j y∨y=(d.N t).R j):=(⟨kx,hsn,hstep⟩:_∧_)
  generalize hkk:(d.N t).a.k=kk at *
  clear HR HI HJ kx hsn hall hiff hdc k4 hr2 n0 f4 hG hnG kxw hj hra hne e' cx hkk hstep
  generalize hxx:(d.N t).R j=x at *
  rcases Int.lt_or_le x 0 with h0 | h0
  ·obtain ⟨rfl,HX'⟩:=(uh HF) (fun g=>by have:=g.1;omega)
   have HX:Hid (Kx Gs w wr∧(R6 d nf t→Sn Gs d.p (DS d (t+1) 0) wr)):=HX'
   clear HF HG HS HX' hxx
   go_wp2_with fail
   all_goals (go_ret;exact ⟨rfl,HX⟩)
  have g0:¬ x < 0:=by omega
  rcases Int.lt_or_le x (d.p:Int) with h1 | h1
  case inr =>
   obtain ⟨rfl,HX'⟩:=(uh HF) (fun g=>by have:=g.2.1;omega)
   have HX:Hid (Kx Gs w wr∧(R6 d nf t→Sn Gs d.p (DS d (t+1) 0) wr)):=HX'
   clear HF HG HS HX' hxx
   go_wp2_with fail
   all_goals (go_ret;exact ⟨rfl,HX⟩)
  have g1:¬ (d.p:Int)≤x:=by omega
  obtain ⟨xn,rfl⟩:=Int.eq_ofNat_of_zero_le h0
  have hxn:xn < d.p:=by omega
  have qs:=(uh HS).2.1.1 xn hxn
  have fs:=(uh HS).2.1.2 xn
  by_cases hd:DS d t j (xn:Int)
  ·rw [dc_t hd] at qs
   obtain ⟨rfl,HX'⟩:=(uh HF) (fun g=>g.2.2 hd)
   have HX:Hid (Kx Gs w wr∧(R6 d nf t→Sn Gs d.p (DS d (t+1) 0) wr)):=HX'
   clear HF HG HS HX' hxx hd
   go_wp2_with fail
   all_goals (go_ret;exact ⟨rfl,HX⟩)
  ·rw [dc_f hd] at qs
   obtain ⟨kx,hsn,hstep⟩:=(uh HS)
   have HX:Hid ((Kx Gs w4 (wr.setCell ⟨Gs,xn,none⟩ (.bool true))∧Sn Gs d.p (DS d t (j+1)) (wr.setCell ⟨Gs,xn,none⟩ (.bool true)))∧∀ i,i < j+1→0≤(d.N t).R i∧(d.N t).R i < (d.p:Int)∧¬ DS d t i ((d.N t).R i)):=(⟨⟨kx.set _ _,hsn.set hxn hstep⟩,(uh HG) ⟨h0,h1,hd⟩⟩:_∧_)
   clear HF HG HS hxx hd kx hsn hstep
   go_wp2_with fail
   go_roundw
   case rel=>exact ⟨j+1,by go_num,by omega,HX⟩
   case measure=>simp [intOf];omega
theorem sp_refs {AN GP:Addr} {cnn cp nf ca Gs t:Nat} {pf pv pu:Option Addr} {cv cu:Nat} {e1:Option Addr} {e2 e3:Nat} {d:Fd} {PA:Nat→Int} (w:World) (ok:Fok d) (ht:t < d.n) (hnf:nf≤1048576) (hra:∀ i,i < d.n→NodeC 0 w (AN.add (i*8)) (d.N i)) (hrp:∀ k,k < d.n→w.cell? (GP.add k)=some (.int .i64 (PA k))) (hg:∃ DA,Grn d.N d.n PA DA) (hG:Gs < w.heap.size) (hs:Sn Gs d.p (DS d t 0) w) (hpd:∀ pr cr,w.cell? ⟨(AN.add (t*8)).block,(AN.add (t*8)).off+6,none⟩=some (.slice pr (d.N t).p cr)→0 < (d.N t).p→∃ a:Addr,pr=some a∧a.block ≠ Gs):Calls Tryz.prog 40 #[.agg #[.slice pf nf ca],.agg #[.string d.x,.int .i64 d.l,.int .i64 d.m,.bool d.r,.slice pv d.p cv,.slice pu d.u cu,.slice (some AN) d.n cnn],.agg #[.slice (some GP) d.n cp,.slice e1 e2 e3],.int .i64 (t:Int),.slice (some ⟨Gs,0,none⟩) d.p d.p] w fun e w'=>e = .returned (.bool (dc (R6 d nf t)))∧Kx Gs w w'∧(R6 d nf t→Sn Gs d.p (DS d (t+1) 0) w'):=by
 by_cases h27:(d.N t).a.k=27
 ·exact sp_refs27 w ok ht hnf hra hrp hg hG hs h27
 by_cases h36:(d.N t).a.k=36
 ·exact sp_refs36 w ok ht hnf hra hrp hg hG hs h36
 by_cases h26:(d.N t).a.k=26
 ·exact sp_refs26 w ok ht hnf hra hrp hg hG hs h26
 ·exact sp_refs0 w ok ht hnf hra hrp hg hG hs hpd ⟨h26,h27,h36⟩
theorem sp_ups {a GP : Addr} {ca nf f g t cp : Nat} {e1 : Option Addr} {e2 e3 : Nat} {F : Nat → Fd} {PA : Nat → Int} (w : World) (hf : f < nf) (hg : g < nf) (hnf : nf ≤ 1048576) (hfn : ∀ i, i < nf → FnC 0 w (a.add (i * 7)) (F i)) (ok : Fok (F f)) (hgu : (F g).u ≤ 200) (ht : t < (F f).n) (hrp : ∀ k, k < (F f).n → w.cell? (GP.add k) = some (.int .i64 (PA k))) (hG : ∃ DA, Grn (F f).N (F f).n PA DA) :
  Calls Tryz.prog 42 #[.agg #[.slice (some a) nf ca],.int .i64 (f:Int),.agg #[.slice (some GP) (F f).n cp,.slice e1 e2 e3],.int .i64 (t:Int),.int .i64 (g:Int)] w fun e w'=>e = .returned (.bool (dc (Cls (F f) (F g) t)))∧Kb 0 w w':=by
 have hfI:(f:Int) < (nf:Int):=by omega
 have hgI:(g:Int) < (nf:Int):=by omega
 have hnfI:(nf:Int)≤1048576:=by omega
 have hguI:((F g).u:Int)≤200:=by omega
 obtain ⟨vv,vu,vn,hce,⟨pv,cv,rfl,-⟩,⟨pu,cu,rfl,-⟩,hvn⟩:=hfn f hf
 obtain ⟨pn,cn,rfl,hvn2⟩:=hvn
 obtain ⟨AN,rfl,-,-,hra⟩:=hvn2 ok.tree.pos
 obtain ⟨xv,xu,xn,⟨-,-,-,-,-,h5,-⟩,-,hxu,-⟩:=hfn g hg
 obtain ⟨pe,ce,rfl,hru⟩:=hxu
 obtain ⟨w2,hw2⟩:∃ w2,w2=(w.alloc (.cells #[.slice (some a) nf ca] 30)).alloc (.cells #[.slice (some GP) (F f).n cp,.slice e1 e2 e3] 75):=⟨_,rfl⟩
 have k2:Kb 0 w w2:=by rw [hw2];exact kb_alloc2 _ _ _ _
 have b0:w2.heap[w.heap.size]? = some (.cells #[.slice (some a) nf ca] 30 (0,0)):=by
  rw [hw2,(kb_alloc 0 _ _).block _ zq (by rw [World.size_alloc];omega)]
  exact alloc_new _ _ _
 have b1:w2.heap[w.heap.size+1]? = some (.cells #[.slice (some GP) (F f).n cp,.slice e1 e2 e3] 75 (0,0)):=by
  have e:(w.alloc (.cells #[.slice (some a) nf ca] 30)).heap.size=w.heap.size+1:=World.size_alloc _ _
  rw [hw2,← e]
  exact alloc_new _ _ _
 have c5:w2.cell? ⟨(a.add (g*7)).block,(a.add (g*7)).off+5,none⟩=some (.slice pe (F g).u ce):=k2.cell h5
 have u0:w2.cell? ⟨w.heap.size,0,none⟩=some (.slice (some a) nf ca):=cell_of b0 rfl
 have HB:Hid (Kb 0 w w2∧w2.heap[w.heap.size]? = some (.cells #[.slice (some a) nf ca] 30 (0,0))∧w2.heap[w.heap.size+1]? = some (.cells #[.slice (some GP) (F f).n cp,.slice e1 e2 e3] 75 (0,0))∧CelF w (a.add (f*7)) (F f) (.slice pv (F f).p cv) (.slice pu (F f).u cu) (.slice (some AN) (F f).n cn)∧(∀ i,i < (F f).n→NodeC 0 w (AN.add (i*8)) ((F f).N i))∧(0 < (F g).u→∃ a,pe=some a∧(F g).u≤ce∧0≤a.block∧∀ i,i < (F g).u→CelU w (a.add (i*2)) ((F g).U i))∧Fok (F f)∧t < (F f).n∧(∀ k,k < (F f).n→w.cell? (GP.add k)=some (.int .i64 (PA k)))∧∃ DA,Grn (F f).N (F f).n PA DA):=(⟨k2,b0,b1,hce,hra,hru,ok,ht,hrp,hG⟩:_∧_)
 have H0:Hid (Kb 0 w2 w2∧∀ i,i < 0→((((F g).U i).1=true→0≤((F g).U i).2∧((F g).U i).2 < ((F f).p:Int)∧SS (F f).N (F f).n (F f).m ((F g).U i).2 t)∧(((F g).U i).1=false→0≤((F g).U i).2∧((F g).U i).2 < ((F f).u:Int)))):=(⟨Kb.refl _ _,fun i hi=>by omega⟩:_∧_)
 obtain ⟨R,hR⟩:∃ R,R=dc (Cls (F f) (F g) t):=⟨_,rfl⟩
 have HR:Hid (R=dc (Cls (F f) (F g) t)):=hR
 rw [← hR]
 have HW2:Hid (w2=(w.alloc (.cells #[.slice (some a) nf ca] 30)).alloc (.cells #[.slice (some GP) (F f).n cp,.slice e1 e2 e3] 75)):=hw2
 rw [hw2] at c5
 clear hw2 k2 b0 b1 hce hra hru ok ht hrp hG hR hfn hvn2 hf hg hgu hnf h5 u0
 go_enter Tryz.func42,Tryz.ntmps42
 go_wp2_with fail
 rw [← (uh HW2)]
 clear HW2 c5
 go_loopw [20] (fun s20 wr=>∃ j:Nat,s20 = .int .i64 (j:Int)∧j≤(F g).u∧Hid (Kb 0 w2 wr∧∀ i,i < j→((((F g).U i).1=true→0≤((F g).U i).2∧((F g).U i).2 < ((F f).p:Int)∧SS (F f).N (F f).n (F f).m ((F g).U i).2 t)∧(((F g).U i).1=false→0≤((F g).U i).2∧((F g).U i).2 < ((F f).u:Int))))) (fun s20 _=>(F g).u - (intOf s20).toNat)
 case atStart=>exact ⟨0,rfl,Nat.zero_le _,H0⟩
 case round =>
  clear H0
  obtain ⟨j,rfl,hj,HX⟩:=hrel
  obtain ⟨kw,hX⟩:=(uh HX)
  obtain ⟨k2,b0,b1,hce,hra,hru,ok,ht,hrp,hG⟩:=(uh HB)
  rcases Nat.lt_or_ge j (F g).u with h | h
  case inr =>
   obtain rfl:R=true:=(uh HR).trans (dc_t (fun i hi=>hX i (by omega)))
   have HK:Hid (Kb 0 w wr):=k2.trans kw
   have hI:¬ (j:Int) < ((F g).u:Int):=by omega
   clear HX kw hX k2 b0 b1 hce hra hru ok ht hrp hG HB HR
   go_wp2_with fail
   all_goals (go_ret;exact ⟨by first | rfl | simp [*],HK⟩)
  have hI:(j:Int) < ((F g).u:Int):=by omega
  obtain ⟨pE,rfl,hce2,-,hru2⟩:=hru (by omega)
  obtain ⟨y0,y1⟩:=hru2 j h
  have kq:=k2.trans kw
  replace y0:=kq.cell y0
  replace y1:=kq.cell y1
  obtain ⟨lc,hlc⟩:∃ lc,lc=((F g).U j).1:=⟨_,rfl⟩
  obtain ⟨x,hx⟩:∃ x,x=((F g).U j).2:=⟨_,rfl⟩
  rw [← hlc] at y0
  rw [← hx] at y1
  obtain ⟨W4,hW4⟩:∃ W4,W4=wr.alloc (.cells #[.bool lc,.int .i64 x] 61):=⟨_,rfl⟩
  have k4:Kb 0 wr W4:=by rw [hW4];exact kb_alloc _ _ _
  have q4:W4.heap[wr.heap.size]? = some (.cells #[.bool lc,.int .i64 x] 61 (0,0)):=by rw [hW4];exact alloc_new _ _ _
  have k24:=kw.trans k4
  have k04:=k2.trans k24
  have HELDW:∀ W,Kb 0 W4 W→W.cell? ⟨w.heap.size,0,none⟩=some (.slice (some a) nf ca)∧(W.cell? ⟨w.heap.size+1,0,none⟩=some (.slice (some GP) (F f).n cp)∧W.cell? ⟨w.heap.size+1,1,none⟩=some (.slice e1 e2 e3))∧(W.cell? ⟨wr.heap.size,0,none⟩=some (.bool lc)∧W.cell? ⟨wr.heap.size,1,none⟩=some (.int .i64 x))∧(W.cell? (a.add (f*7))=some (.string (F f).x)∧W.cell? ⟨(a.add (f*7)).block,(a.add (f*7)).off+1,none⟩=some (.int .i64 (F f).l)∧W.cell? ⟨(a.add (f*7)).block,(a.add (f*7)).off+2,none⟩=some (.int .i64 (F f).m)∧W.cell? ⟨(a.add (f*7)).block,(a.add (f*7)).off+3,none⟩=some (.bool (F f).r)∧W.cell? ⟨(a.add (f*7)).block,(a.add (f*7)).off+4,none⟩=some (.slice pv (F f).p cv)∧W.cell? ⟨(a.add (f*7)).block,(a.add (f*7)).off+5,none⟩=some (.slice pu (F f).u cu)∧W.cell? ⟨(a.add (f*7)).block,(a.add (f*7)).off+6,none⟩=some (.slice (some AN) (F f).n cn)):=fun W k=>by
   obtain ⟨d0,d1,d2,d3,d4,d5,d6⟩:=hce
   have kk:=k04.trans k
   exact ⟨(k24.trans k).cell (cell_of b0 rfl),⟨(k24.trans k).cell (cell_of b1 rfl),(k24.trans k).cell (cell_of b1 rfl)⟩,⟨k.cell (cell_of q4 rfl),k.cell (cell_of q4 rfl)⟩,kk.cell d0,kk.cell d1,kk.cell d2,kk.cell d3,kk.cell d4,kk.cell d5,kk.cell d6⟩
  have HC9:Hid (W4.cell? ⟨w.heap.size,0,none⟩=some (.slice (some a) nf ca)∧(W4.cell? ⟨w.heap.size+1,0,none⟩=some (.slice (some GP) (F f).n cp)∧W4.cell? ⟨w.heap.size+1,1,none⟩=some (.slice e1 e2 e3))∧(W4.cell? ⟨wr.heap.size,0,none⟩=some (.bool lc)∧W4.cell? ⟨wr.heap.size,1,none⟩=some (.int .i64 x))∧(W4.cell? (a.add (f*7))=some (.string (F f).x)∧W4.cell? ⟨(a.add (f*7)).block,(a.add (f*7)).off+1,none⟩=some (.int .i64 (F f).l)∧W4.cell? ⟨(a.add (f*7)).block,(a.add (f*7)).off+2,none⟩=some (.int .i64 (F f).m)∧W4.cell? ⟨(a.add (f*7)).block,(a.add (f*7)).off+3,none⟩=some (.bool (F f).r)∧W4.cell? ⟨(a.add (f*7)).block,(a.add (f*7)).off+4,none⟩=some (.slice pv (F f).p cv)∧W4.cell? ⟨(a.add (f*7)).block,(a.add (f*7)).off+5,none⟩=some (.slice pu (F f).u cu)∧W4.cell? ⟨(a.add (f*7)).block,(a.add (f*7)).off+6,none⟩=some (.slice (some AN) (F f).n cn))):=HELDW W4 (Kb.refl _ _)
  obtain ⟨a0,⟨a1,a2⟩,⟨z0,z1⟩,d0,d1,d2,d3,d4,d5,d6⟩:=HELDW W4 (Kb.refl _ _)
  have HVIS:Hid (∀ W,Kb 0 W4 W→0≤x→Calls Tryz.prog 56 #[.agg #[.string (F f).x,.int .i64 (F f).l,.int .i64 (F f).m,.bool (F f).r,.slice pv (F f).p cv,.slice pu (F f).u cu,.slice (some AN) (F f).n cn],.agg #[.slice (some GP) (F f).n cp,.slice e1 e2 e3],.int .i64 (t:Int),.int .i64 x] W fun e w'=>e = .returned (.bool (dc (SS (F f).N (F f).n (F f).m x t)))∧(w'.cell? ⟨w.heap.size,0,none⟩=some (.slice (some a) nf ca)∧(w'.cell? ⟨w.heap.size+1,0,none⟩=some (.slice (some GP) (F f).n cp)∧w'.cell? ⟨w.heap.size+1,1,none⟩=some (.slice e1 e2 e3))∧(w'.cell? ⟨wr.heap.size,0,none⟩=some (.bool lc)∧w'.cell? ⟨wr.heap.size,1,none⟩=some (.int .i64 x))∧(w'.cell? (a.add (f*7))=some (.string (F f).x)∧w'.cell? ⟨(a.add (f*7)).block,(a.add (f*7)).off+1,none⟩=some (.int .i64 (F f).l)∧w'.cell? ⟨(a.add (f*7)).block,(a.add (f*7)).off+2,none⟩=some (.int .i64 (F f).m)∧w'.cell? ⟨(a.add (f*7)).block,(a.add (f*7)).off+3,none⟩=some (.bool (F f).r)∧w'.cell? ⟨(a.add (f*7)).block,(a.add (f*7)).off+4,none⟩=some (.slice pv (F f).p cv)∧w'.cell? ⟨(a.add (f*7)).block,(a.add (f*7)).off+5,none⟩=some (.slice pu (F f).u cu)∧w'.cell? ⟨(a.add (f*7)).block,(a.add (f*7)).off+6,none⟩=some (.slice (some AN) (F f).n cn)))∧Kb 0 W4 w'):=(fun W k h0=>by
   have hv:=sp_visible (d:=F f) (cnn:=cn) (cp:=cp) (AN:=AN) (GP:=GP) (PA:=PA) x W (vv:=.slice pv (F f).p cv) (vu:=.slice pu (F f).u cu) (vd:=.slice e1 e2 e3) ⟨_,_,_,rfl⟩ ⟨_,_,_,rfl⟩ ⟨_,_,_,rfl⟩ (fun i hi=>(hra i hi).keep zq (k04.trans k)) (fun i hi=>(k04.trans k).cell (hrp i hi)) ok hG h0 t ht
   unfold fnv at hv
   refine hv.mono ?_
   rintro e w' ⟨he,hk⟩
   exact ⟨he,HELDW w' (k.trans hk),k.trans hk⟩:∀ W,_)
  have HRET:Hid (¬ ((((F g).U j).1=true→0≤((F g).U j).2∧((F g).U j).2 < ((F f).p:Int)∧SS (F f).N (F f).n (F f).m ((F g).U j).2 t)∧(((F g).U j).1=false→0≤((F g).U j).2∧((F g).U j).2 < ((F f).u:Int)))→R=false):=(fun n=>(uh HR).trans (dc_f (fun c=>n (c j h))):_→_)
  have HNXT:Hid (((((F g).U j).1=true→0≤((F g).U j).2∧((F g).U j).2 < ((F f).p:Int)∧SS (F f).N (F f).n (F f).m ((F g).U j).2 t)∧(((F g).U j).1=false→0≤((F g).U j).2∧((F g).U j).2 < ((F f).u:Int)))→∀ W,Kb 0 W4 W→Kb 0 w2 W∧∀ i,i < (j+1)→((((F g).U i).1=true→0≤((F g).U i).2∧((F g).U i).2 < ((F f).p:Int)∧SS (F f).N (F f).n (F f).m ((F g).U i).2 t)∧(((F g).U i).1=false→0≤((F g).U i).2∧((F g).U i).2 < ((F f).u:Int)))):=(fun o W k=>⟨k24.trans k,fun i hi=>by
   by_cases e:i=j
   ·subst e;exact o
   ·exact hX i (by omega)⟩:_→_)
  have HK4:Hid (∀ W,Kb 0 W4 W→Kb 0 w W):=(fun W k=>k04.trans k:∀ W,_)
  have hpI:((F f).p:Int)≤200:=by have:=ok.p2;omega
  have huI:((F f).u:Int)≤200:=by have:=ok.u2;omega
  rw [← hx,← hlc] at HRET HNXT
  have HW4:Hid (W4=wr.alloc (.cells #[.bool lc,.int .i64 x] 61)):=hW4
  clear HX kw hX k2 b0 b1 hce hra hru hru2 ok ht hrp hG HB HR kq hW4 k4 q4 k24 k04 HELDW hx hlc h hj
  have mixed:Tryz.prog.follows .mixedOrders=true:=by kernel_rfl
  cases lc with
  | true =>
   rcases Int.lt_or_le x 0 with h0 | h0
   ·have g0:decide (x < 0)=true:=decide_eq_true h0
    obtain rfl:R=false:=(uh HRET) (by intro c;have:=(c.1 rfl).1;omega)
    clear HRET HNXT HVIS HC9
    go_wp2_with fail
    rw [← (uh HW4)]
    clear HW4
    go_wp2_with fail
    go_quiet (skip)
    go_wp2_with fail
    all_goals (go_ret;exact ⟨by first | rfl | simp [*],(uh HK4) _ (Kb.drewN (Kb.refl _ _) _)⟩)
   have g0:decide (x < 0)=false:=decide_eq_false (by omega)
   rcases Int.lt_or_le x ((F f).p:Int) with h1 | h1
   case inr =>
    have g1:decide (((F f).p:Int)≤x)=true:=decide_eq_true h1
    obtain rfl:R=false:=(uh HRET) (by intro c;have:=(c.1 rfl).2.1;omega)
    clear HRET HNXT HVIS HC9
    go_wp2_with fail
    rw [← (uh HW4)]
    clear HW4
    go_wp2_with fail
    go_quiet (skip)
    go_wp2_with fail
    all_goals (go_ret;exact ⟨by first | rfl | simp [*],(uh HK4) _ (Kb.drewN (Kb.refl _ _) _)⟩)
   have g1:decide (((F f).p:Int)≤x)=false:=decide_eq_false (by omega)
   have HV2:=fun W k=>(uh HVIS) W k h0
   by_cases hs:SS (F f).N (F f).n (F f).m x t
   ·have HN2:=(uh HNXT) ⟨fun _=>⟨h0,h1,hs⟩,fun e=>by cases e⟩
    rw [dc_t hs] at HV2
    have HV3:Hid (∀ W,Kb 0 W4 W→_):=HV2
    have HN3:Hid (∀ W,Kb 0 W4 W→_):=HN2
    clear HV2 HN2 HNXT HRET HVIS h0 h1 hs HK4
    go_wp2_with fail
    rw [← (uh HW4)]
    clear HW4
    go_wp2_with fail
    go_region_held_law (fun W'=>W'.cell? ⟨w.heap.size,0,none⟩=some (.slice (some a) nf ca)∧(W'.cell? ⟨w.heap.size+1,0,none⟩=some (.slice (some GP) (F f).n cp)∧W'.cell? ⟨w.heap.size+1,1,none⟩=some (.slice e1 e2 e3))∧(W'.cell? ⟨wr.heap.size,0,none⟩=some (.bool true)∧W'.cell? ⟨wr.heap.size,1,none⟩=some (.int .i64 x))∧(W'.cell? (a.add (f*7))=some (.string (F f).x)∧W'.cell? ⟨(a.add (f*7)).block,(a.add (f*7)).off+1,none⟩=some (.int .i64 (F f).l)∧W'.cell? ⟨(a.add (f*7)).block,(a.add (f*7)).off+2,none⟩=some (.int .i64 (F f).m)∧W'.cell? ⟨(a.add (f*7)).block,(a.add (f*7)).off+3,none⟩=some (.bool (F f).r)∧W'.cell? ⟨(a.add (f*7)).block,(a.add (f*7)).off+4,none⟩=some (.slice pv (F f).p cv)∧W'.cell? ⟨(a.add (f*7)).block,(a.add (f*7)).off+5,none⟩=some (.slice pu (F f).u cu)∧W'.cell? ⟨(a.add (f*7)).block,(a.add (f*7)).off+6,none⟩=some (.slice (some AN) (F f).n cn))) (first | exact s11 | exact (uh HC9))
     ((go_at_call 56;refine ((uh HV3) _ (by exact Kb.drewN (Kb.refl _ _) _)).mono ?_;rintro e w11 ⟨rfl,s11,k11⟩))
    clear HV3 HC9 s11 a0 a1 a2 z0 z1 d0 d1 d2 d3 d4 d5 d6
    go_wp2_with fail
    go_roundw
    case rel=>exact ⟨j+1,by go_num,by omega,(uh HN3) _ k11⟩
    case measure=>simp [intOf];omega
   ·obtain rfl:R=false:=(uh HRET) (fun c=>hs (c.1 rfl).2.2)
    rw [dc_f hs] at HV2
    have HV3:Hid (∀ W,Kb 0 W4 W→_):=HV2
    clear HV2 HNXT HRET HVIS h0 h1 hs
    go_wp2_with fail
    rw [← (uh HW4)]
    clear HW4
    go_wp2_with fail
    go_region_held_law (fun W'=>W'.cell? ⟨w.heap.size,0,none⟩=some (.slice (some a) nf ca)∧(W'.cell? ⟨w.heap.size+1,0,none⟩=some (.slice (some GP) (F f).n cp)∧W'.cell? ⟨w.heap.size+1,1,none⟩=some (.slice e1 e2 e3))∧(W'.cell? ⟨wr.heap.size,0,none⟩=some (.bool true)∧W'.cell? ⟨wr.heap.size,1,none⟩=some (.int .i64 x))∧(W'.cell? (a.add (f*7))=some (.string (F f).x)∧W'.cell? ⟨(a.add (f*7)).block,(a.add (f*7)).off+1,none⟩=some (.int .i64 (F f).l)∧W'.cell? ⟨(a.add (f*7)).block,(a.add (f*7)).off+2,none⟩=some (.int .i64 (F f).m)∧W'.cell? ⟨(a.add (f*7)).block,(a.add (f*7)).off+3,none⟩=some (.bool (F f).r)∧W'.cell? ⟨(a.add (f*7)).block,(a.add (f*7)).off+4,none⟩=some (.slice pv (F f).p cv)∧W'.cell? ⟨(a.add (f*7)).block,(a.add (f*7)).off+5,none⟩=some (.slice pu (F f).u cu)∧W'.cell? ⟨(a.add (f*7)).block,(a.add (f*7)).off+6,none⟩=some (.slice (some AN) (F f).n cn))) (first | exact s11 | exact (uh HC9))
     ((go_at_call 56;refine ((uh HV3) _ (by exact Kb.drewN (Kb.refl _ _) _)).mono ?_;rintro e w11 ⟨rfl,s11,k11⟩))
    clear HV3 HC9 s11 a0 a1 a2 z0 z1 d0 d1 d2 d3 d4 d5 d6
    go_wp2_with fail
    all_goals (go_ret;exact ⟨by first | rfl | simp [*],(uh HK4) _ k11⟩)
  | false =>
   rcases Int.lt_or_le x 0 with h0 | h0
   ·have g0:decide (x < 0)=true:=decide_eq_true h0
    obtain rfl:R=false:=(uh HRET) (by intro c;have:=(c.2 rfl).1;omega)
    clear HRET HNXT HVIS HC9
    go_wp2_with fail
    rw [← (uh HW4)]
    clear HW4
    go_wp2_with fail
    go_quiet (skip)
    go_wp2_with fail
    all_goals (go_ret;exact ⟨by first | rfl | simp [*],(uh HK4) _ (Kb.drewN (Kb.refl _ _) _)⟩)
   have g0:decide (x < 0)=false:=decide_eq_false (by omega)
   rcases Int.lt_or_le x ((F f).u:Int) with h1 | h1
   case inr =>
    have g1:decide (((F f).u:Int)≤x)=true:=decide_eq_true h1
    obtain rfl:R=false:=(uh HRET) (by intro c;have:=(c.2 rfl).2;omega)
    clear HRET HNXT HVIS HC9
    go_wp2_with fail
    rw [← (uh HW4)]
    clear HW4
    go_wp2_with fail
    go_quiet (skip)
    go_wp2_with fail
    all_goals (go_ret;exact ⟨by first | rfl | simp [*],(uh HK4) _ (Kb.drewN (Kb.refl _ _) _)⟩)
   have g1:decide (((F f).u:Int)≤x)=false:=decide_eq_false (by omega)
   have HN2:=(uh HNXT) ⟨fun e=>(by cases e),fun _=>⟨h0,h1⟩⟩
   have HN3:Hid (∀ W,Kb 0 W4 W→_):=HN2
   clear HN2 HNXT HRET HVIS h0 h1 HK4 HC9
   go_wp2_with fail
   rw [← (uh HW4)]
   clear HW4
   go_wp2_with fail
   go_quiet (skip)
   go_wp2_with fail
   go_roundw
   case rel=>exact ⟨j+1,by go_num,by omega,(uh HN3) _ (Kb.drewN (Kb.refl _ _) _)⟩
   case measure=>simp [intOf];omega
end Go.Proofs.YtfpidccjcemcjaaGreat.Fo
