import Derived.Test.YtfpidccjcemcjaaGreatMZsq
import Derived.Test.YtfpidccjcemcjaaGreatMNbd
import Derived.Deep.RegionHeldLaw
set_option maxHeartbeats 8000000
namespace Go.Proofs.YtfpidccjcemcjaaGreat.Fo
open Go.ChangeShapes Go.WideShapes Go.ChangeAt Go.RowKit
set_option linter.unusedVariables false
set_option maxRecDepth 100000
theorem to_ups {va : Value} {n : Nat} {U : Nat → Bool × Int} (w : World) (ha : RowU 0 w va n U) (hn : n ≤ 1048576)  :
  Calls Tryz.prog 44 #[va] w fun e w'=>∃ v,e = .returned v∧RowU w.heap.size w' v n U∧Kb 0 w w':=by
 obtain ⟨pa,ca,rfl,ha2⟩:=ha
 have hnI:(n:Int)≤1048576:=by omega
 have hmk:=run_make (P:=Tryz.prog) w 45 61 Tryz.t61 (.agg #[.bool false,.int .i64 0]) Tryz.underlying45 (by kernel_rfl) (by kernel_rfl) .i64 .i64 (n:Int) (n:Int) (by omega) (Int.le_refl _) (by show (16:Int)*(n:Int)≤_;omega) (by omega)
 rw [Int.toNat_natCast] at hmk
 obtain ⟨w1,hw1⟩:∃ w1,w1=w.alloc (.cells (madeCells (.agg #[.bool false,.int .i64 0]:Value).cells (n*2)) 61):=⟨_,rfl⟩
 have hmk2:=hmk
 rw [show n*Tryz.t61.size=n*2 from rfl,← hw1] at hmk2
 clear hmk
 have hk1:Kb 0 w w1:=by rw [hw1];exact kb_alloc _ _ _
 obtain ⟨G,hG⟩:∃ G,G=w.heap.size:=⟨_,rfl⟩
 have HI0:Hid (∃ E:Nat→List Value,Mk 2 w1 G n E 0 w1∧∀ j,j < 0→E j = [.bool (U j).1,.int .i64 (U j).2]):=by
  refine ⟨fun _=>[],?_,fun j hj=>by omega⟩
  rw [hG,hw1]
  exact mk_zero w _ 2 _ n _ rfl
 have HA:Hid ((0 < n→∃ a:Addr,pa=some a∧n≤ca∧0≤a.block∧∀ i,i < n→UpC 0 w (a.add (i*2)) (U i))∧Kb 0 w w1∧G=w.heap.size):=(⟨ha2,hk1,hG⟩:_∧_)
 rw [← hG] at hmk2
 clear ha2 hk1 hw1 hn hG
 go_enter Tryz.func44,Tryz.ntmps44
 go_wp2_with fail
 go_loopw [4] (fun s4 wr=>∃ i:Nat,s4 = .int .i64 (i:Int)∧i≤n∧Hid (∃ E:Nat→List Value,Mk 2 w1 G n E i wr∧∀ j,j < i→E j = [.bool (U j).1,.int .i64 (U j).2])) (fun s4 _=>n - (intOf s4).toNat)
 case atStart=>exact ⟨0,rfl,Nat.zero_le _,HI0⟩
 case round =>
  clear HI0 hmk2
  obtain ⟨i,rfl,hin,HI⟩:=hrel
  obtain ⟨E,hM,hR⟩:=(uh HI)
  have hA:=(uh HA)
  have hBW:Kb 0 w wr:=by
   have hG:=hA.2.2
   have hA2:=hA.2.1
   exact ⟨hM.os.trans hA2.os,hM.output.trans hA2.output,Nat.le_trans hA2.size hM.size,fun b _ hb=>(hM.block b (Nat.lt_of_lt_of_le hb hA2.size) (by omega)).trans (hA2.block b zq hb)⟩
  rcases Nat.lt_or_ge i n with hi | hi
  ·have hiI:(i:Int) < (n:Int):=by omega
   obtain ⟨a,rfl,hca,_,hra⟩:=hA.1 (by omega)
   obtain ⟨d0,d1⟩:=(hra i hi).keep zq hBW
   have HT:Hid (Calls Tryz.prog 57 #[upv (U i)] wr fun e w'=>e = .returned (upv (U i))∧Kb 0 wr w'):=to_up (U i) wr
   have HS:Hid (∀ w6 ,Kb 0 wr w6→(∀ t,t < 2→∃ u,w6.cell? ⟨G,i*2+t,none⟩=some u)∧(∀ j,w6.frozen? ⟨G,j,none⟩=false)∧∃ E:Nat→List Value,Mk 2 w1 G n E (i+1) (setL w6 G (i*2) [.bool (U i).1,.int .i64 (U i).2])∧∀ j,j < i+1→E j = [.bool (U j).1,.int .i64 (U j).2]):=by
    show ∀ w6 ,_
    intro w6  k6
    have h6:=hM.kb k6
    have hgl:=Nat.lt_of_lt_of_le hM.gl hM.size
    have kl:Kb (G+1) w6 (setL w6 G (i*2) [.bool (U i).1,.int .i64 (U i).2]):=⟨(setL_os _ _ _ _).1,(setL_os _ _ _ _).2,by rw [setL_size];exact Nat.le_refl _,fun k h1 _=>setL_block _ _ (by omega) _ _ _⟩
    refine ⟨h6.rest i (Nat.le_refl _) hi,h6.fz,_,h6.step hi rfl,fun j hj=>?_⟩
    by_cases e:j=i
    ·subst e
     exact if_pos rfl
    ·rw [if_neg e]
     exact hR j (by omega)
   clear hA HA hM hR HI hra hin hBW
   go_wp2_with fail
   refine (uh HT).mono ?_
   rintro e w6 ⟨rfl,k6⟩
   obtain ⟨hc,hf,hT⟩:=(uh HS) w6 k6
   have HTT:Hid (∃ E:Nat→List Value,Mk 2 w1 G n E (i+1) (setL w6 G (i*2) [.bool (U i).1,.int .i64 (U i).2])∧∀ j,j < i+1→E j = [.bool (U j).1,.int .i64 (U j).2]):=hT
   obtain ⟨u0,h0⟩:=hc 0 (by omega)
   obtain ⟨u1,h1⟩:=hc 1 (by omega)
   rw [Nat.add_zero] at h0
   have e0:=hf (i*2)
   have e1:=hf (i*2+1)
   clear hc hf hT HS HT
   skip
   clear k6 d0 d1
   unfold upv
   go_wp2_with fail
   go_roundw
   case rel=>exact ⟨i+1,by go_num,by omega,HTT⟩
   case measure=>simp [intOf];omega
  ·obtain rfl:i=n:=by omega
   have HE:Hid (Mk 2 w1 G i E i wr∧(∀ j,j < i→E j = [.bool (U j).1,.int .i64 (U j).2])∧Kb 0 w wr∧G=w.heap.size):=(⟨hM,hR,hBW,hA.2.2⟩:_∧_∧_∧_)
   clear HI hM hR hA HA hBW
   go_wp2_with fail
   go_ret
   obtain ⟨hM,hR,hB,hG⟩:=(uh HE)
   refine ⟨_,rfl,⟨_,_,rfl,fun _=>⟨⟨G,0,none⟩,rfl,Nat.le_refl _,(by show w.heap.size≤G;omega),fun j hj=>?_⟩⟩,hB⟩
   rw [addr0]
   have hce:=hM.ce j hj
   rw [hR j hj] at hce
   exact CelU.of hce
theorem to_nodes {va : Value} {n : Nat} {N : Nat → Nd} (w : World) (ha : RowN 0 w va n N) (hn : n ≤ 1048576) (hN : ∀ i, i < n → (N i).p ≤ 1048576 ∧ (N i).q ≤ 1048576) :
  Calls Tryz.prog 45 #[va] w fun e w'=>∃ v,e = .returned v∧RowN w.heap.size w' v n N∧Kb 0 w w':=by
 obtain ⟨pa,ca,rfl,ha2⟩:=ha
 have hnI:(n:Int)≤1048576:=by omega
 have hmk:=run_make (P:=Tryz.prog) w 46 59 Tryz.t59 (.agg #[.int .i64 0,.int .i64 0,.int .i64 0,.int .i64 0,.float .f64 0,.string ⟨#[]⟩,.slice none 0 0,.slice none 0 0]) Tryz.underlying46 (by kernel_rfl) (by kernel_rfl) .i64 .i64 (n:Int) (n:Int) (by omega) (Int.le_refl _) (by show (104:Int)*(n:Int)≤_;omega) (by omega)
 rw [Int.toNat_natCast] at hmk
 obtain ⟨w1,hw1⟩:∃ w1,w1=w.alloc (.cells (madeCells (.agg #[.int .i64 0,.int .i64 0,.int .i64 0,.int .i64 0,.float .f64 0,.string ⟨#[]⟩,.slice none 0 0,.slice none 0 0]:Value).cells (n*8)) 59):=⟨_,rfl⟩
 have hmk2:=hmk
 rw [show n*Tryz.t59.size=n*8 from rfl,← hw1] at hmk2
 clear hmk
 have hk1:Kb 0 w w1:=by rw [hw1];exact kb_alloc _ _ _
 obtain ⟨G,hG⟩:∃ G,G=w.heap.size:=⟨_,rfl⟩
 have HI0:Hid (∃ E:Nat→List Value,Mk 8 w1 G n E 0 w1∧∀ j,j < 0→∃ vr vk,E j = [.int .i64 (N j).a.k,.int .i64 (N j).a.l,.int .i64 (N j).a.o,.int .i64 (N j).a.m,.float .f64 (N j).a.g,.string (N j).a.x,vr,vk]∧RowB (G+1) w1 vr (N j).p (fun t=>.int .i64 ((N j).R t))∧RowB (G+1) w1 vk (N j).q (fun t=>.int .i64 ((N j).K t))):=by
  refine ⟨fun _=>[],?_,fun j hj=>by omega⟩
  rw [hG,hw1]
  exact mk_zero w _ 8 _ n _ rfl
 have HA:Hid ((0 < n→∃ a:Addr,pa=some a∧n≤ca∧0≤a.block∧∀ i,i < n→NodeC 0 w (a.add (i*8)) (N i))∧Kb 0 w w1∧G=w.heap.size∧(∀ i,i < n→(N i).p≤1048576∧(N i).q≤1048576)):=(⟨ha2,hk1,hG,hN⟩:_∧_)
 rw [← hG] at hmk2
 clear ha2 hk1 hw1 hn hG hN
 go_enter Tryz.func45,Tryz.ntmps45
 go_wp2_with fail
 go_loopw [4] (fun s4 wr=>∃ i:Nat,s4 = .int .i64 (i:Int)∧i≤n∧Hid (∃ E:Nat→List Value,Mk 8 w1 G n E i wr∧∀ j,j < i→∃ vr vk,E j = [.int .i64 (N j).a.k,.int .i64 (N j).a.l,.int .i64 (N j).a.o,.int .i64 (N j).a.m,.float .f64 (N j).a.g,.string (N j).a.x,vr,vk]∧RowB (G+1) wr vr (N j).p (fun t=>.int .i64 ((N j).R t))∧RowB (G+1) wr vk (N j).q (fun t=>.int .i64 ((N j).K t)))) (fun s4 _=>n - (intOf s4).toNat)
 case atStart=>exact ⟨0,rfl,Nat.zero_le _,HI0⟩
 case round =>
  clear HI0 hmk2
  obtain ⟨i,rfl,hin,HI⟩:=hrel
  obtain ⟨E,hM,hR⟩:=(uh HI)
  have hA:=(uh HA)
  have hBW:Kb 0 w wr:=by
   have hG:=hA.2.2.1
   have hA2:=hA.2.1
   exact ⟨hM.os.trans hA2.os,hM.output.trans hA2.output,Nat.le_trans hA2.size hM.size,fun b _ hb=>(hM.block b (Nat.lt_of_lt_of_le hb hA2.size) (by omega)).trans (hA2.block b zq hb)⟩
  rcases Nat.lt_or_ge i n with hi | hi
  ·have hiI:(i:Int) < (n:Int):=by omega
   obtain ⟨a,rfl,hca,_,hra⟩:=hA.1 (by omega)
   obtain ⟨vr,vk,hcel,hvr,hvk⟩:=(hra i hi).keep zq hBW
   obtain ⟨y1,y2⟩:=hA.2.2.2 i hi
   obtain ⟨d0,d1,d2,d3,d4,d5,d6,d7⟩:=hcel
   have HT:Hid (Calls Tryz.prog 58 #[ndv (N i).a vr vk] wr fun e w'=>∃ v0 v1,e = .returned (ndv (N i).a v0 v1)∧RowB wr.heap.size w' v0 (N i).p (fun t=>.int .i64 ((N i).R t))∧RowB wr.heap.size w' v1 (N i).q (fun t=>.int .i64 ((N i).K t))∧Kb 0 wr w'):=to_node wr (fun W k=>to_ints' W (hvr.keep k).row y1) (fun W k=>to_ints' W (hvk.keep k).row y2)
   have HS:Hid (∀ w6 (v0 v1:Value),Kb 0 wr w6→RowB wr.heap.size w6 v0 (N i).p (fun t=>.int .i64 ((N i).R t))→RowB wr.heap.size w6 v1 (N i).q (fun t=>.int .i64 ((N i).K t))→(∀ t,t < 8→∃ u,w6.cell? ⟨G,i*8+t,none⟩=some u)∧(∀ j,w6.frozen? ⟨G,j,none⟩=false)∧∃ E:Nat→List Value,Mk 8 w1 G n E (i+1) (setL w6 G (i*8) [.int .i64 (N i).a.k,.int .i64 (N i).a.l,.int .i64 (N i).a.o,.int .i64 (N i).a.m,.float .f64 (N i).a.g,.string (N i).a.x,v0,v1])∧∀ j,j < i+1→∃ vr vk,E j = [.int .i64 (N j).a.k,.int .i64 (N j).a.l,.int .i64 (N j).a.o,.int .i64 (N j).a.m,.float .f64 (N j).a.g,.string (N j).a.x,vr,vk]∧RowB (G+1) (setL w6 G (i*8) [.int .i64 (N i).a.k,.int .i64 (N i).a.l,.int .i64 (N i).a.o,.int .i64 (N i).a.m,.float .f64 (N i).a.g,.string (N i).a.x,v0,v1]) vr (N j).p (fun t=>.int .i64 ((N j).R t))∧RowB (G+1) (setL w6 G (i*8) [.int .i64 (N i).a.k,.int .i64 (N i).a.l,.int .i64 (N i).a.o,.int .i64 (N i).a.m,.float .f64 (N i).a.g,.string (N i).a.x,v0,v1]) vk (N j).q (fun t=>.int .i64 ((N j).K t))):=by
    show ∀ w6 (v0 v1:Value),_
    intro w6 v0 v1 k6 r0 r1
    have h6:=hM.kb k6
    have hgl:=Nat.lt_of_lt_of_le hM.gl hM.size
    have kl:Kb (G+1) w6 (setL w6 G (i*8) [.int .i64 (N i).a.k,.int .i64 (N i).a.l,.int .i64 (N i).a.o,.int .i64 (N i).a.m,.float .f64 (N i).a.g,.string (N i).a.x,v0,v1]):=⟨(setL_os _ _ _ _).1,(setL_os _ _ _ _).2,by rw [setL_size];exact Nat.le_refl _,fun k h1 _=>setL_block _ _ (by omega) _ _ _⟩
    refine ⟨h6.rest i (Nat.le_refl _) hi,h6.fz,_,h6.step hi rfl,fun j hj=>?_⟩
    by_cases e:j=i
    ·subst e
     rw [if_pos rfl]
     exact ⟨v0,v1,rfl,(r0.mono (by omega)).keep kl,(r1.mono (by omega)).keep kl⟩
    ·rw [if_neg e]
     obtain ⟨ur,uk,q1,q2,q3⟩:=hR j (by omega)
     exact ⟨ur,uk,q1,(q2.keep (k6.mono zq)).keep kl,(q3.keep (k6.mono zq)).keep kl⟩
   clear hA HA hM hR HI hra hin hBW hvr hvk y1 y2
   go_wp2_with fail
   refine (uh HT).mono ?_
   rintro e w6 ⟨v0,v1,rfl,r0,r1,k6⟩
   obtain ⟨hc,hf,hT⟩:=(uh HS) w6 v0 v1 k6 r0 r1
   have HTT:Hid (∃ E:Nat→List Value,Mk 8 w1 G n E (i+1) (setL w6 G (i*8) [.int .i64 (N i).a.k,.int .i64 (N i).a.l,.int .i64 (N i).a.o,.int .i64 (N i).a.m,.float .f64 (N i).a.g,.string (N i).a.x,v0,v1])∧∀ j,j < i+1→∃ vr vk,E j = [.int .i64 (N j).a.k,.int .i64 (N j).a.l,.int .i64 (N j).a.o,.int .i64 (N j).a.m,.float .f64 (N j).a.g,.string (N j).a.x,vr,vk]∧RowB (G+1) (setL w6 G (i*8) [.int .i64 (N i).a.k,.int .i64 (N i).a.l,.int .i64 (N i).a.o,.int .i64 (N i).a.m,.float .f64 (N i).a.g,.string (N i).a.x,v0,v1]) vr (N j).p (fun t=>.int .i64 ((N j).R t))∧RowB (G+1) (setL w6 G (i*8) [.int .i64 (N i).a.k,.int .i64 (N i).a.l,.int .i64 (N i).a.o,.int .i64 (N i).a.m,.float .f64 (N i).a.g,.string (N i).a.x,v0,v1]) vk (N j).q (fun t=>.int .i64 ((N j).K t))):=hT
   obtain ⟨u0,h0⟩:=hc 0 (by omega)
   obtain ⟨u1,h1⟩:=hc 1 (by omega)
   obtain ⟨u2,h2⟩:=hc 2 (by omega)
   obtain ⟨u3,h3⟩:=hc 3 (by omega)
   obtain ⟨u4,h4⟩:=hc 4 (by omega)
   obtain ⟨u5,h5⟩:=hc 5 (by omega)
   obtain ⟨u6,h6⟩:=hc 6 (by omega)
   obtain ⟨u7,h7⟩:=hc 7 (by omega)
   rw [Nat.add_zero] at h0
   have e0:=hf (i*8)
   have e1:=hf (i*8+1)
   have e2:=hf (i*8+2)
   have e3:=hf (i*8+3)
   have e4:=hf (i*8+4)
   have e5:=hf (i*8+5)
   have e6:=hf (i*8+6)
   have e7:=hf (i*8+7)
   clear hc hf hT HS HT
   obtain ⟨p0,l0,rfl,_⟩:=id r0
   obtain ⟨p1,l1,rfl,_⟩:=id r1
   clear k6 r0 r1 d0 d1 d2 d3 d4 d5 d6 d7
   have hst:=hst0
   unfold ndv
   go_wp2_with fail
   go_roundw
   case rel=>exact ⟨i+1,by go_num,by omega,HTT⟩
   case measure=>simp [intOf];omega
  ·obtain rfl:i=n:=by omega
   have HE:Hid (Mk 8 w1 G i E i wr∧(∀ j,j < i→∃ vr vk,E j = [.int .i64 (N j).a.k,.int .i64 (N j).a.l,.int .i64 (N j).a.o,.int .i64 (N j).a.m,.float .f64 (N j).a.g,.string (N j).a.x,vr,vk]∧RowB (G+1) wr vr (N j).p (fun t=>.int .i64 ((N j).R t))∧RowB (G+1) wr vk (N j).q (fun t=>.int .i64 ((N j).K t)))∧Kb 0 w wr∧G=w.heap.size):=(⟨hM,hR,hBW,hA.2.2.1⟩:_∧_∧_∧_)
   clear HI hM hR hA HA hBW
   go_wp2_with fail
   go_ret
   obtain ⟨hM,hR,hB,hG⟩:=(uh HE)
   refine ⟨_,rfl,⟨_,_,rfl,fun _=>⟨⟨G,0,none⟩,rfl,Nat.le_refl _,(by show w.heap.size≤G;omega),fun j hj=>?_⟩⟩,hB⟩
   rw [addr0]
   have hce:=hM.ce j hj
   obtain ⟨ur,uk,q1,q2,q3⟩:=hR j hj
   rw [q1] at hce
   exact ⟨ur,uk,CelN.of hce,q2.mono (by omega),q3.mono (by omega)⟩
theorem to_fns {va : Value} {n : Nat} {F : Nat → Fd} (w : World) (ha : RowF 0 w va n F) (hn : n ≤ 1048576) (hF : ∀ i, i < n → (F i).p ≤ 1048576 ∧ (F i).u ≤ 1048576 ∧ (F i).n ≤ 1048576 ∧ ∀ j, j < (F i).n → ((F i).N j).p ≤ 1048576 ∧ ((F i).N j).q ≤ 1048576) :
  Calls Tryz.prog 16 #[va] w fun e w'=>∃ v,e = .returned v∧RowF w.heap.size w' v n F∧Kb 0 w w':=by
 obtain ⟨pa,ca,rfl,ha2⟩:=ha
 have hnI:(n:Int)≤1048576:=by omega
 have hmk:=run_make (P:=Tryz.prog) w 28 48 Tryz.t48 (.agg #[.string ⟨#[]⟩,.int .i64 0,.int .i64 0,.bool false,.slice none 0 0,.slice none 0 0,.slice none 0 0]) Tryz.underlying28 (by kernel_rfl) (by kernel_rfl) .i64 .i64 (n:Int) (n:Int) (by omega) (Int.le_refl _) (by show (112:Int)*(n:Int)≤_;omega) (by omega)
 rw [Int.toNat_natCast] at hmk
 obtain ⟨w1,hw1⟩:∃ w1,w1=w.alloc (.cells (madeCells (.agg #[.string ⟨#[]⟩,.int .i64 0,.int .i64 0,.bool false,.slice none 0 0,.slice none 0 0,.slice none 0 0]:Value).cells (n*7)) 48):=⟨_,rfl⟩
 have hmk2:=hmk
 rw [show n*Tryz.t48.size=n*7 from rfl,← hw1] at hmk2
 clear hmk
 have hk1:Kb 0 w w1:=by rw [hw1];exact kb_alloc _ _ _
 obtain ⟨G,hG⟩:∃ G,G=w.heap.size:=⟨_,rfl⟩
 have HI0:Hid (∃ E:Nat→List Value,Mk 7 w1 G n E 0 w1∧∀ j,j < 0→∃ vv vu vn,E j = [.string (F j).x,.int .i64 (F j).l,.int .i64 (F j).m,.bool (F j).r,vv,vu,vn]∧RowB (G+1) w1 vv (F j).p (fun t=>.string ((F j).V t))∧RowU (G+1) w1 vu (F j).u (F j).U∧RowN (G+1) w1 vn (F j).n (F j).N):=by
  refine ⟨fun _=>[],?_,fun j hj=>by omega⟩
  rw [hG,hw1]
  exact mk_zero w _ 7 _ n _ rfl
 have HA:Hid ((0 < n→∃ a:Addr,pa=some a∧n≤ca∧0≤a.block∧∀ i,i < n→FnC 0 w (a.add (i*7)) (F i))∧Kb 0 w w1∧G=w.heap.size∧(∀ i,i < n→(F i).p≤1048576∧(F i).u≤1048576∧(F i).n≤1048576∧∀ j,j < (F i).n→((F i).N j).p≤1048576∧((F i).N j).q≤1048576)):=(⟨ha2,hk1,hG,hF⟩:_∧_)
 rw [← hG] at hmk2
 clear ha2 hk1 hw1 hn hG hF
 go_enter Tryz.func16,Tryz.ntmps16
 go_wp2_with fail
 go_loopw [4] (fun s4 wr=>∃ i:Nat,s4 = .int .i64 (i:Int)∧i≤n∧Hid (∃ E:Nat→List Value,Mk 7 w1 G n E i wr∧∀ j,j < i→∃ vv vu vn,E j = [.string (F j).x,.int .i64 (F j).l,.int .i64 (F j).m,.bool (F j).r,vv,vu,vn]∧RowB (G+1) wr vv (F j).p (fun t=>.string ((F j).V t))∧RowU (G+1) wr vu (F j).u (F j).U∧RowN (G+1) wr vn (F j).n (F j).N)) (fun s4 _=>n - (intOf s4).toNat)
 case atStart=>exact ⟨0,rfl,Nat.zero_le _,HI0⟩
 case round =>
  clear HI0 hmk2
  obtain ⟨i,rfl,hin,HI⟩:=hrel
  obtain ⟨E,hM,hR⟩:=(uh HI)
  have hA:=(uh HA)
  have hBW:Kb 0 w wr:=by
   have hG:=hA.2.2.1
   have hA2:=hA.2.1
   exact ⟨hM.os.trans hA2.os,hM.output.trans hA2.output,Nat.le_trans hA2.size hM.size,fun b _ hb=>(hM.block b (Nat.lt_of_lt_of_le hb hA2.size) (by omega)).trans (hA2.block b zq hb)⟩
  rcases Nat.lt_or_ge i n with hi | hi
  ·have hiI:(i:Int) < (n:Int):=by omega
   obtain ⟨a,rfl,hca,_,hra⟩:=hA.1 (by omega)
   obtain ⟨vv,vu,vn,hcel,hvv,hvu,hvn⟩:=(hra i hi).keep zq hBW
   obtain ⟨y1,y2,y3,y4⟩:=hA.2.2.2 i hi
   obtain ⟨d0,d1,d2,d3,d4,d5,d6⟩:=hcel
   have HT:Hid (Calls Tryz.prog 25 #[fnv (F i) vv vu vn] wr fun e w'=>∃ v0 v1 v2,e = .returned (fnv (F i) v0 v1 v2)∧RowB wr.heap.size w' v0 (F i).p (fun t=>.string ((F i).V t))∧RowU wr.heap.size w' v1 (F i).u (F i).U∧RowN wr.heap.size w' v2 (F i).n (F i).N∧Kb 0 wr w'):=to_fn wr (fun W k=>to_strs' W (hvv.keep k).row y1) (fun W k=>to_ups W (hvu.keep k) y2) (fun W k=>to_nodes W (hvn.keep k) y3 y4)
   have HS:Hid (∀ w6 (v0 v1 v2:Value),Kb 0 wr w6→RowB wr.heap.size w6 v0 (F i).p (fun t=>.string ((F i).V t))→RowU wr.heap.size w6 v1 (F i).u (F i).U→RowN wr.heap.size w6 v2 (F i).n (F i).N→(∀ t,t < 7→∃ u,w6.cell? ⟨G,i*7+t,none⟩=some u)∧(∀ j,w6.frozen? ⟨G,j,none⟩=false)∧∃ E:Nat→List Value,Mk 7 w1 G n E (i+1) (setL w6 G (i*7) [.string (F i).x,.int .i64 (F i).l,.int .i64 (F i).m,.bool (F i).r,v0,v1,v2])∧∀ j,j < i+1→∃ vv vu vn,E j = [.string (F j).x,.int .i64 (F j).l,.int .i64 (F j).m,.bool (F j).r,vv,vu,vn]∧RowB (G+1) (setL w6 G (i*7) [.string (F i).x,.int .i64 (F i).l,.int .i64 (F i).m,.bool (F i).r,v0,v1,v2]) vv (F j).p (fun t=>.string ((F j).V t))∧RowU (G+1) (setL w6 G (i*7) [.string (F i).x,.int .i64 (F i).l,.int .i64 (F i).m,.bool (F i).r,v0,v1,v2]) vu (F j).u (F j).U∧RowN (G+1) (setL w6 G (i*7) [.string (F i).x,.int .i64 (F i).l,.int .i64 (F i).m,.bool (F i).r,v0,v1,v2]) vn (F j).n (F j).N):=by
    show ∀ w6 (v0 v1 v2:Value),_
    intro w6 v0 v1 v2 k6 r0 r1 r2
    have h6:=hM.kb k6
    have hgl:=Nat.lt_of_lt_of_le hM.gl hM.size
    have kl:Kb (G+1) w6 (setL w6 G (i*7) [.string (F i).x,.int .i64 (F i).l,.int .i64 (F i).m,.bool (F i).r,v0,v1,v2]):=⟨(setL_os _ _ _ _).1,(setL_os _ _ _ _).2,by rw [setL_size];exact Nat.le_refl _,fun k h1 _=>setL_block _ _ (by omega) _ _ _⟩
    refine ⟨h6.rest i (Nat.le_refl _) hi,h6.fz,_,h6.step hi rfl,fun j hj=>?_⟩
    by_cases e:j=i
    ·subst e
     rw [if_pos rfl]
     exact ⟨v0,v1,v2,rfl,(r0.mono (by omega)).keep kl,(r1.mono (by omega)).keep kl,(r2.mono (by omega)).keep kl⟩
    ·rw [if_neg e]
     obtain ⟨uv,uu,un,q1,q2,q3,q4⟩:=hR j (by omega)
     exact ⟨uv,uu,un,q1,(q2.keep (k6.mono zq)).keep kl,(q3.keep (k6.mono zq)).keep kl,(q4.keep (k6.mono zq)).keep kl⟩
   clear hA HA hM hR HI hra hin hBW hvv hvu hvn y1 y2 y3 y4
   go_wp2_with fail
   refine (uh HT).mono ?_
   rintro e w6 ⟨v0,v1,v2,rfl,r0,r1,r2,k6⟩
   obtain ⟨hc,hf,hT⟩:=(uh HS) w6 v0 v1 v2 k6 r0 r1 r2
   have HTT:Hid (∃ E:Nat→List Value,Mk 7 w1 G n E (i+1) (setL w6 G (i*7) [.string (F i).x,.int .i64 (F i).l,.int .i64 (F i).m,.bool (F i).r,v0,v1,v2])∧∀ j,j < i+1→∃ vv vu vn,E j = [.string (F j).x,.int .i64 (F j).l,.int .i64 (F j).m,.bool (F j).r,vv,vu,vn]∧RowB (G+1) (setL w6 G (i*7) [.string (F i).x,.int .i64 (F i).l,.int .i64 (F i).m,.bool (F i).r,v0,v1,v2]) vv (F j).p (fun t=>.string ((F j).V t))∧RowU (G+1) (setL w6 G (i*7) [.string (F i).x,.int .i64 (F i).l,.int .i64 (F i).m,.bool (F i).r,v0,v1,v2]) vu (F j).u (F j).U∧RowN (G+1) (setL w6 G (i*7) [.string (F i).x,.int .i64 (F i).l,.int .i64 (F i).m,.bool (F i).r,v0,v1,v2]) vn (F j).n (F j).N):=hT
   obtain ⟨u0,h0⟩:=hc 0 (by omega)
   obtain ⟨u1,h1⟩:=hc 1 (by omega)
   obtain ⟨u2,h2⟩:=hc 2 (by omega)
   obtain ⟨u3,h3⟩:=hc 3 (by omega)
   obtain ⟨u4,h4⟩:=hc 4 (by omega)
   obtain ⟨u5,h5⟩:=hc 5 (by omega)
   obtain ⟨u6,h6⟩:=hc 6 (by omega)
   rw [Nat.add_zero] at h0
   have e0:=hf (i*7)
   have e1:=hf (i*7+1)
   have e2:=hf (i*7+2)
   have e3:=hf (i*7+3)
   have e4:=hf (i*7+4)
   have e5:=hf (i*7+5)
   have e6:=hf (i*7+6)
   clear hc hf hT HS HT
   obtain ⟨p0,l0,rfl,_⟩:=id r0
   obtain ⟨p1,l1,rfl,_⟩:=id r1
   obtain ⟨p2,l2,rfl,_⟩:=id r2
   clear k6 r0 r1 r2 d0 d1 d2 d3 d4 d5 d6
   unfold fnv
   go_wp2_with fail
   go_roundw
   case rel=>exact ⟨i+1,by go_num,by omega,HTT⟩
   case measure=>simp [intOf];omega
  ·obtain rfl:i=n:=by omega
   have HE:Hid (Mk 7 w1 G i E i wr∧(∀ j,j < i→∃ vv vu vn,E j = [.string (F j).x,.int .i64 (F j).l,.int .i64 (F j).m,.bool (F j).r,vv,vu,vn]∧RowB (G+1) wr vv (F j).p (fun t=>.string ((F j).V t))∧RowU (G+1) wr vu (F j).u (F j).U∧RowN (G+1) wr vn (F j).n (F j).N)∧Kb 0 w wr∧G=w.heap.size):=(⟨hM,hR,hBW,hA.2.2.1⟩:_∧_∧_∧_)
   clear HI hM hR hA HA hBW
   go_wp2_with fail
   go_ret
   obtain ⟨hM,hR,hB,hG⟩:=(uh HE)
   refine ⟨_,rfl,⟨_,_,rfl,fun _=>⟨⟨G,0,none⟩,rfl,Nat.le_refl _,(by show w.heap.size≤G;omega),fun j hj=>?_⟩⟩,hB⟩
   rw [addr0]
   have hce:=hM.ce j hj
   obtain ⟨uv,uu,un,q1,q2,q3,q4⟩:=hR j hj
   rw [q1] at hce
   exact ⟨uv,uu,un,CelF.of hce,q2.mono (by omega),q3.mono (by omega),q4.mono (by omega)⟩
theorem eq_ints' {va vb : Value} {n : Nat} {A : Nat → Int} (w : World) (ha : RowB 0 w va n (fun i => .int .i64 (A i))) (hb : RowB 0 w vb n (fun i => .int .i64 (A i))) (hn : n ≤ 1048576) :
  Calls Tryz.prog 91 #[va,vb] w fun e w'=>e = .returned (.bool true)∧Kb 0 w w':=by
 refine (eq_ints w ha.row hb.row hn).mono ?_
 rintro e w' ⟨rfl,d,rfl⟩
 exact ⟨rfl,(Kb.refl _ _).drewN d⟩
theorem eq_strs' {va vb : Value} {n : Nat} {A : Nat → ByteArray} (w : World) (ha : RowB 0 w va n (fun i => .string (A i))) (hb : RowB 0 w vb n (fun i => .string (A i))) (hn : n ≤ 1048576) :
  Calls Tryz.prog 47 #[va,vb] w fun e w'=>e = .returned (.bool true)∧Kb 0 w w':=by
 refine (eq_strs w ha.row hb.row hn).mono ?_
 rintro e w' ⟨rfl,d,rfl⟩
 exact ⟨rfl,(Kb.refl _ _).drewN d⟩
theorem eq_up (u:Bool × Int) (w:World):Calls Tryz.prog 68 #[upv u,upv u] w fun e w'=>e = .returned (.bool true)∧Kb 0 w w':=by
 unfold upv
 obtain ⟨b,z⟩:=u
 have h1:(z != z)=false:=by simp
 have h2:(b != b)=false:=by cases b <;> rfl
 cases b
 all_goals
  go_enter Tryz.func68,Tryz.ntmps68
  go_wp2_with fail
  go_ret
  exact ⟨rfl,kb_alloc2 _ _ _ _⟩
theorem eq_node {a : Nv} {vr vk ur uk : Value} (w : World)
  (g0:∀ W',Kb 0 w W'→Calls Tryz.prog 91 #[vr,ur] W' fun e w'=>e = .returned (.bool true)∧Kb 0 W' w')
  (g1:∀ W',Kb 0 w W'→Calls Tryz.prog 91 #[vk,uk] W' fun e w'=>e = .returned (.bool true)∧Kb 0 W' w') (hg:a.g < 18446744073709551616) :
  Calls Tryz.prog 69 #[ndv a vr vk,ndv a ur uk] w fun e w'=>e = .returned (.bool true)∧Kb 0 w w':=by
 have G0:Hid (∀ W',Kb 0 w W'→Calls Tryz.prog 91 #[vr,ur] W' fun e w'=>e = .returned (.bool true)∧Kb 0 W' w'):=g0
 have G1:Hid (∀ W',Kb 0 w W'→Calls Tryz.prog 91 #[vk,uk] W' fun e w'=>e = .returned (.bool true)∧Kb 0 W' w'):=g1
 clear g0 g1
 unfold ndv
 obtain ⟨k,l,o,m,g,x⟩:=a
 have hsf:=same_flt g hg
 have e1:(k != k)=false:=by simp
 have e2:(l != l)=false:=by simp
 have e3:(o != o)=false:=by simp
 have e4:(m != m)=false:=by simp
 dsimp only
 clear hg
 obtain ⟨w2,hw2⟩:∃ w2,w2=(w.alloc (.cells #[.int .i64 k,.int .i64 l,.int .i64 o,.int .i64 m,.float .f64 g,.string x,vr,vk] 59)).alloc (.cells #[.int .i64 k,.int .i64 l,.int .i64 o,.int .i64 m,.float .f64 g,.string x,ur,uk] 59):=⟨_,rfl⟩
 have k2:Kb 0 w w2:=by rw [hw2];exact kb_alloc2 _ _ _ _
 have b0:w2.heap[w.heap.size]? = some (.cells #[.int .i64 k,.int .i64 l,.int .i64 o,.int .i64 m,.float .f64 g,.string x,vr,vk] 59 (0,0)):=by
  rw [hw2,(kb_alloc 0 _ _).block _ zq (by rw [World.size_alloc];omega)]
  exact alloc_new _ _ _
 have b1:w2.heap[w.heap.size+1]? = some (.cells #[.int .i64 k,.int .i64 l,.int .i64 o,.int .i64 m,.float .f64 g,.string x,ur,uk] 59 (0,0)):=by
  have e:(w.alloc (.cells #[.int .i64 k,.int .i64 l,.int .i64 o,.int .i64 m,.float .f64 g,.string x,vr,vk] 59)).heap.size=w.heap.size+1:=World.size_alloc _ _
  rw [hw2,← e]
  exact alloc_new _ _ _
 have HK:Hid (Kb 0 w w2∧w2.heap[w.heap.size]? = some (.cells #[.int .i64 k,.int .i64 l,.int .i64 o,.int .i64 m,.float .f64 g,.string x,vr,vk] 59 (0,0))∧w2.heap[w.heap.size+1]? = some (.cells #[.int .i64 k,.int .i64 l,.int .i64 o,.int .i64 m,.float .f64 g,.string x,ur,uk] 59 (0,0))∧w.heap.size+1 < w2.heap.size):=(⟨k2,b0,b1,by rw [hw2];simp⟩:_∧_)
 have HW:Hid (w2=(w.alloc (.cells #[.int .i64 k,.int .i64 l,.int .i64 o,.int .i64 m,.float .f64 g,.string x,vr,vk] 59)).alloc (.cells #[.int .i64 k,.int .i64 l,.int .i64 o,.int .i64 m,.float .f64 g,.string x,ur,uk] 59)):=hw2
 clear hw2 k2 b0 b1
 go_enter Tryz.func69,Tryz.ntmps69
 go_wp2_with fail
 refine (hsf _).mono ?_
 rintro e w4 ⟨rfl,rfl⟩
 go_wp2_with fail
 rw [← (uh HW)]
 clear HW
 refine ((show ∀ W',Kb 0 w W'→Calls Tryz.prog 91 #[vr,ur] W' fun e w'=>e = .returned (.bool true)∧Kb 0 W' w' from G0) w2 HK.1).mono ?_
 rintro e x0 ⟨rfl,k0⟩
 have HL:Hid (Kb 0 w x0∧x0.heap[w.heap.size]? = some (.cells #[.int .i64 k,.int .i64 l,.int .i64 o,.int .i64 m,.float .f64 g,.string x,vr,vk] 59 (0,0))∧x0.heap[w.heap.size+1]? = some (.cells #[.int .i64 k,.int .i64 l,.int .i64 o,.int .i64 m,.float .f64 g,.string x,ur,uk] 59 (0,0))∧w.heap.size+1 < x0.heap.size):=by
  obtain ⟨q1,q2,q3,q4⟩:=(uh HK)
  have q5:=k0.size
  exact ⟨q1.trans k0,(k0.block _ zq (by omega)).trans q2,(k0.block _ zq (by omega)).trans q3,by omega⟩
 clear HK
 have HK:=HL
 clear HL k0 G0
 have c0:x0.cell? ⟨w.heap.size,7,none⟩=some (vk):=cell_of HK.2.1 rfl
 have d0:x0.cell? ⟨w.heap.size+1,7,none⟩=some (uk):=cell_of HK.2.2.1 rfl
 go_wp2_with fail
 clear c0 d0
 refine ((show ∀ W',Kb 0 w W'→Calls Tryz.prog 91 #[vk,uk] W' fun e w'=>e = .returned (.bool true)∧Kb 0 W' w' from G1) x0 HK.1).mono ?_
 rintro e x1 ⟨rfl,k1⟩
 have HL:Hid (Kb 0 w x1∧x1.heap[w.heap.size]? = some (.cells #[.int .i64 k,.int .i64 l,.int .i64 o,.int .i64 m,.float .f64 g,.string x,vr,vk] 59 (0,0))∧x1.heap[w.heap.size+1]? = some (.cells #[.int .i64 k,.int .i64 l,.int .i64 o,.int .i64 m,.float .f64 g,.string x,ur,uk] 59 (0,0))∧w.heap.size+1 < x1.heap.size):=by
  obtain ⟨q1,q2,q3,q4⟩:=(uh HK)
  have q5:=k1.size
  exact ⟨q1.trans k1,(k1.block _ zq (by omega)).trans q2,(k1.block _ zq (by omega)).trans q3,by omega⟩
 clear HK
 have HK:=HL
 clear HL k1 G1
 go_wp2_with fail
 go_ret
 exact ⟨rfl,HK.1⟩
theorem eq_fn {f : Fd} {vv vu vn uv uu un : Value} (w : World)
  (g0:∀ W',Kb 0 w W'→Calls Tryz.prog 47 #[vv,uv] W' fun e w'=>e = .returned (.bool true)∧Kb 0 W' w')
  (g1:∀ W',Kb 0 w W'→Calls Tryz.prog 48 #[vu,uu] W' fun e w'=>e = .returned (.bool true)∧Kb 0 W' w')
  (g2:∀ W',Kb 0 w W'→Calls Tryz.prog 49 #[vn,un] W' fun e w'=>e = .returned (.bool true)∧Kb 0 W' w') :
  Calls Tryz.prog 28 #[fnv f vv vu vn,fnv f uv uu un] w fun e w'=>e = .returned (.bool true)∧Kb 0 w w':=by
 have G0:Hid (∀ W',Kb 0 w W'→Calls Tryz.prog 47 #[vv,uv] W' fun e w'=>e = .returned (.bool true)∧Kb 0 W' w'):=g0
 have G1:Hid (∀ W',Kb 0 w W'→Calls Tryz.prog 48 #[vu,uu] W' fun e w'=>e = .returned (.bool true)∧Kb 0 W' w'):=g1
 have G2:Hid (∀ W',Kb 0 w W'→Calls Tryz.prog 49 #[vn,un] W' fun e w'=>e = .returned (.bool true)∧Kb 0 W' w'):=g2
 clear g0 g1 g2
 unfold fnv
 generalize f.x=x at *
 generalize f.l=l at *
 generalize f.m=m at *
 generalize f.r=r at *
 have e1:(l != l)=false:=by simp
 have e2:(m != m)=false:=by simp
 have e3:(r != r)=false:=by cases r <;> rfl
 obtain ⟨w2,hw2⟩:∃ w2,w2=(w.alloc (.cells #[.string x,.int .i64 l,.int .i64 m,.bool r,vv,vu,vn] 48)).alloc (.cells #[.string x,.int .i64 l,.int .i64 m,.bool r,uv,uu,un] 48):=⟨_,rfl⟩
 have k2:Kb 0 w w2:=by rw [hw2];exact kb_alloc2 _ _ _ _
 have b0:w2.heap[w.heap.size]? = some (.cells #[.string x,.int .i64 l,.int .i64 m,.bool r,vv,vu,vn] 48 (0,0)):=by
  rw [hw2,(kb_alloc 0 _ _).block _ zq (by rw [World.size_alloc];omega)]
  exact alloc_new _ _ _
 have b1:w2.heap[w.heap.size+1]? = some (.cells #[.string x,.int .i64 l,.int .i64 m,.bool r,uv,uu,un] 48 (0,0)):=by
  have e:(w.alloc (.cells #[.string x,.int .i64 l,.int .i64 m,.bool r,vv,vu,vn] 48)).heap.size=w.heap.size+1:=World.size_alloc _ _
  rw [hw2,← e]
  exact alloc_new _ _ _
 have HK:Hid (Kb 0 w w2∧w2.heap[w.heap.size]? = some (.cells #[.string x,.int .i64 l,.int .i64 m,.bool r,vv,vu,vn] 48 (0,0))∧w2.heap[w.heap.size+1]? = some (.cells #[.string x,.int .i64 l,.int .i64 m,.bool r,uv,uu,un] 48 (0,0))∧w.heap.size+1 < w2.heap.size):=(⟨k2,b0,b1,by rw [hw2];simp⟩:_∧_)
 have HW:Hid (w2=(w.alloc (.cells #[.string x,.int .i64 l,.int .i64 m,.bool r,vv,vu,vn] 48)).alloc (.cells #[.string x,.int .i64 l,.int .i64 m,.bool r,uv,uu,un] 48)):=hw2
 clear hw2 k2 b0 b1
 go_enter Tryz.func28,Tryz.ntmps28
 go_wp2_with fail
 rw [← (uh HW)]
 clear HW
 refine ((show ∀ W',Kb 0 w W'→Calls Tryz.prog 47 #[vv,uv] W' fun e w'=>e = .returned (.bool true)∧Kb 0 W' w' from G0) w2 HK.1).mono ?_
 rintro e x0 ⟨rfl,k0⟩
 have HL:Hid (Kb 0 w x0∧x0.heap[w.heap.size]? = some (.cells #[.string x,.int .i64 l,.int .i64 m,.bool r,vv,vu,vn] 48 (0,0))∧x0.heap[w.heap.size+1]? = some (.cells #[.string x,.int .i64 l,.int .i64 m,.bool r,uv,uu,un] 48 (0,0))∧w.heap.size+1 < x0.heap.size):=by
  obtain ⟨q1,q2,q3,q4⟩:=(uh HK)
  have q5:=k0.size
  exact ⟨q1.trans k0,(k0.block _ zq (by omega)).trans q2,(k0.block _ zq (by omega)).trans q3,by omega⟩
 clear HK
 have HK:=HL
 clear HL k0 G0
 have c0:x0.cell? ⟨w.heap.size,5,none⟩=some (vu):=cell_of HK.2.1 rfl
 have d0:x0.cell? ⟨w.heap.size+1,5,none⟩=some (uu):=cell_of HK.2.2.1 rfl
 go_wp2_with fail
 clear c0 d0
 refine ((show ∀ W',Kb 0 w W'→Calls Tryz.prog 48 #[vu,uu] W' fun e w'=>e = .returned (.bool true)∧Kb 0 W' w' from G1) x0 HK.1).mono ?_
 rintro e x1 ⟨rfl,k1⟩
 have HL:Hid (Kb 0 w x1∧x1.heap[w.heap.size]? = some (.cells #[.string x,.int .i64 l,.int .i64 m,.bool r,vv,vu,vn] 48 (0,0))∧x1.heap[w.heap.size+1]? = some (.cells #[.string x,.int .i64 l,.int .i64 m,.bool r,uv,uu,un] 48 (0,0))∧w.heap.size+1 < x1.heap.size):=by
  obtain ⟨q1,q2,q3,q4⟩:=(uh HK)
  have q5:=k1.size
  exact ⟨q1.trans k1,(k1.block _ zq (by omega)).trans q2,(k1.block _ zq (by omega)).trans q3,by omega⟩
 clear HK
 have HK:=HL
 clear HL k1 G1
 have c1:x1.cell? ⟨w.heap.size,6,none⟩=some (vn):=cell_of HK.2.1 rfl
 have d1:x1.cell? ⟨w.heap.size+1,6,none⟩=some (un):=cell_of HK.2.2.1 rfl
 go_wp2_with fail
 clear c1 d1
 refine ((show ∀ W',Kb 0 w W'→Calls Tryz.prog 49 #[vn,un] W' fun e w'=>e = .returned (.bool true)∧Kb 0 W' w' from G2) x1 HK.1).mono ?_
 rintro e x2 ⟨rfl,k2⟩
 have HL:Hid (Kb 0 w x2∧x2.heap[w.heap.size]? = some (.cells #[.string x,.int .i64 l,.int .i64 m,.bool r,vv,vu,vn] 48 (0,0))∧x2.heap[w.heap.size+1]? = some (.cells #[.string x,.int .i64 l,.int .i64 m,.bool r,uv,uu,un] 48 (0,0))∧w.heap.size+1 < x2.heap.size):=by
  obtain ⟨q1,q2,q3,q4⟩:=(uh HK)
  have q5:=k2.size
  exact ⟨q1.trans k2,(k2.block _ zq (by omega)).trans q2,(k2.block _ zq (by omega)).trans q3,by omega⟩
 clear HK
 have HK:=HL
 clear HL k2 G2
 go_wp2_with fail
 go_ret
 exact ⟨rfl,HK.1⟩
theorem eq_ups {va vb : Value} {n : Nat} {U : Nat → Bool × Int} (w : World) (ha : RowU 0 w va n U) (hb : RowU 0 w vb n U) (hn : n ≤ 1048576)  :
  Calls Tryz.prog 48 #[va,vb] w fun e w'=>e = .returned (.bool true)∧Kb 0 w w':=by
 obtain ⟨pa,ca,rfl,ha2⟩:=ha
 obtain ⟨pb,cb,rfl,hb2⟩:=hb
 have HA:Hid ((0 < n→∃ a:Addr,pa=some a∧n≤ca∧0≤a.block∧∀ i,i < n→UpC 0 w (a.add (i*2)) (U i))∧(0 < n→∃ a:Addr,pb=some a∧n≤cb∧0≤a.block∧∀ i,i < n→UpC 0 w (a.add (i*2)) (U i))):=(⟨ha2,hb2⟩:_∧_)
 have hnI:(n:Int)≤1048576:=by omega
 clear ha2 hb2 hn
 go_enter Tryz.func48,Tryz.ntmps48
 go_wp2_with fail
 go_loopw [5] (fun s5 wr=>∃ i:Nat,s5 = .int .i64 (i:Int)∧i≤n∧Hid (Kb 0 w wr)) (fun s5 _=>n - (intOf s5).toNat)
 case atStart=>exact ⟨0,rfl,Nat.zero_le _,Kb.refl _ _⟩
 case round =>
  obtain ⟨i,rfl,hin,HB⟩:=hrel
  rcases Nat.lt_or_ge i n with hi | hi
  ·have hA:=(uh HA)
   obtain ⟨qa,rfl,hca,-,hra⟩:=hA.1 (by omega)
   obtain ⟨qb,rfl,hcb,-,hrb⟩:=hA.2 (by omega)
   have hiI:(i:Int) < (n:Int):=by omega
   have ca:=(hra i hi).keep zq HB
   have cb:=(hrb i hi).keep zq HB
   have heq:∀ W',Kb 0 wr W'→Calls Tryz.prog 68 #[upv (U i),upv (U i)] W' fun e w'=>e = .returned (.bool true)∧Kb 0 W' w':=fun W' _=>eq_up (U i) W'
   replace heq:∀ W',W'.heap=wr.heap→W'.os=wr.os→W'.output=wr.output→Calls Tryz.prog 68 #[upv (U i),upv (U i)] W' fun e w'=>e = .returned (.bool true)∧Kb 0 wr w':=fun W' h0 h1 h2=>by
    have kk:Kb 0 wr W':=⟨h1,h2,by rw [h0];exact Nat.le_refl _,fun k _ _=>by rw [h0]⟩
    refine (heq W' kk).mono ?_
    rintro e w' ⟨rfl,k⟩
    exact ⟨rfl,kk.trans k⟩
   obtain ⟨a0,a1⟩:=ca
   obtain ⟨b0,b1⟩:=cb
   clear hra hrb hA HA
   generalize U i=u at *
   obtain ⟨xb,xz⟩:=u
   unfold upv at heq
   dsimp only at a0 a1 b0 b1 heq
   have HKEEP:Hid (∀ (W':World),Kb 0 wr W'→W'.cell? (qa.add (i*2))=some (.bool xb)∧W'.cell? ⟨(qa.add (i*2)).block,(qa.add (i*2)).off+1,none⟩=some (.int .i64 xz)∧W'.cell? (qb.add (i*2))=some (.bool xb)∧W'.cell? ⟨(qb.add (i*2)).block,(qb.add (i*2)).off+1,none⟩=some (.int .i64 xz)):=by
    show ∀ (W':World),_
    intro W' k
    exact ⟨k.cell a0,k.cell a1,k.cell b0,k.cell b1⟩
   have HEQ:Hid (∀ W',W'.heap=wr.heap→W'.os=wr.os→W'.output=wr.output→Calls Tryz.prog 68 #[.agg #[.bool xb,.int .i64 xz],.agg #[.bool xb,.int .i64 xz]] W' fun e w'=>e = .returned (.bool true)∧Kb 0 wr w'):=heq
   clear hin heq
   go_wp2_with fail
   go_region_held_law (fun W'=>W'.cell? (qa.add (i*2))=some (.bool xb)∧W'.cell? ⟨(qa.add (i*2)).block,(qa.add (i*2)).off+1,none⟩=some (.int .i64 xz)∧W'.cell? (qb.add (i*2))=some (.bool xb)∧W'.cell? ⟨(qb.add (i*2)).block,(qb.add (i*2)).off+1,none⟩=some (.int .i64 xz)) (first | exact ⟨a0,a1,b0,b1⟩ | exact (uh HKEEP) _ k5)
    ((go_at_call 68;refine ((uh HEQ) _ (by exact rfl) (by exact rfl) (by exact rfl)).mono ?_;rintro e w5 ⟨rfl,k5⟩))
   all_goals
    have HB5:Hid (Kb 0 w w5):=(uh HB).trans k5
    clear HB HKEEP HEQ k5 a0 a1 b0 b1
    go_wp2_with fail
    go_roundw
    case rel=>exact ⟨i+1,by go_num,by omega,HB5⟩
    case measure=>simp [intOf];omega
  ·obtain rfl:i=n:=by omega
   clear HA
   go_wp2_with fail
   go_ret
   exact ⟨rfl,HB⟩
theorem eq_nodes {va vb : Value} {n : Nat} {N : Nat → Nd} (w : World) (ha : RowN 0 w va n N) (hb : RowN 0 w vb n N) (hn : n ≤ 1048576) (hN : ∀ i, i < n → (N i).p ≤ 1048576 ∧ (N i).q ≤ 1048576 ∧ (N i).a.g < 18446744073709551616) :
  Calls Tryz.prog 49 #[va,vb] w fun e w'=>e = .returned (.bool true)∧Kb 0 w w':=by
 obtain ⟨pa,ca,rfl,ha2⟩:=ha
 obtain ⟨pb,cb,rfl,hb2⟩:=hb
 have HA:Hid ((0 < n→∃ a:Addr,pa=some a∧n≤ca∧0≤a.block∧∀ i,i < n→NodeC 0 w (a.add (i*8)) (N i))∧(0 < n→∃ a:Addr,pb=some a∧n≤cb∧0≤a.block∧∀ i,i < n→NodeC 0 w (a.add (i*8)) (N i))∧(∀ i,i < n→(N i).p≤1048576∧(N i).q≤1048576∧(N i).a.g < 18446744073709551616)):=(⟨ha2,hb2,hN⟩:_∧_)
 have hnI:(n:Int)≤1048576:=by omega
 clear ha2 hb2 hn hN
 go_enter Tryz.func49,Tryz.ntmps49
 go_wp2_with fail
 go_loopw [5] (fun s5 wr=>∃ i:Nat,s5 = .int .i64 (i:Int)∧i≤n∧Hid (Kb 0 w wr)) (fun s5 _=>n - (intOf s5).toNat)
 case atStart=>exact ⟨0,rfl,Nat.zero_le _,Kb.refl _ _⟩
 case round =>
  obtain ⟨i,rfl,hin,HB⟩:=hrel
  rcases Nat.lt_or_ge i n with hi | hi
  ·have hA:=(uh HA)
   obtain ⟨qa,rfl,hca,-,hra⟩:=hA.1 (by omega)
   obtain ⟨qb,rfl,hcb,-,hrb⟩:=hA.2.1 (by omega)
   have hiI:(i:Int) < (n:Int):=by omega
   obtain ⟨vr,vk,ca,hvr,hvk⟩:=(hra i hi).keep zq HB
   obtain ⟨ur,uk,cb,hur,huk⟩:=(hrb i hi).keep zq HB
   obtain ⟨y1,y2,y3⟩:=hA.2.2 i hi
   have heq:∀ W',Kb 0 wr W'→Calls Tryz.prog 69 #[ndv (N i).a vr vk,ndv (N i).a ur uk] W' fun e w'=>e = .returned (.bool true)∧Kb 0 W' w':=fun W' k=>eq_node W' (fun W k2=>eq_ints' W (hvr.keep (k.trans k2)) (hur.keep (k.trans k2)) y1) (fun W k2=>eq_ints' W (hvk.keep (k.trans k2)) (huk.keep (k.trans k2)) y2) y3
   replace heq:∀ W',W'.heap=wr.heap→W'.os=wr.os→W'.output=wr.output→Calls Tryz.prog 69 #[ndv (N i).a vr vk,ndv (N i).a ur uk] W' fun e w'=>e = .returned (.bool true)∧Kb 0 wr w':=fun W' h0 h1 h2=>by
    have kk:Kb 0 wr W':=⟨h1,h2,by rw [h0];exact Nat.le_refl _,fun k _ _=>by rw [h0]⟩
    refine (heq W' kk).mono ?_
    rintro e w' ⟨rfl,k⟩
    exact ⟨rfl,kk.trans k⟩
   obtain ⟨a0,a1,a2,a3,a4,a5,a6,a7⟩:=ca
   obtain ⟨b0,b1,b2,b3,b4,b5,b6,b7⟩:=cb
   clear hra hrb hA HA hvr hvk hur huk y1 y2 y3
   generalize N i=G at *
   obtain ⟨⟨xk,xl,xo,xm,xg,xx⟩,gp,gR,gq,gK⟩:=G
   unfold ndv at heq
   dsimp only at a0 a1 a2 a3 a4 a5 b0 b1 b2 b3 b4 b5 heq
   have HKEEP:Hid (∀ (W':World),Kb 0 wr W'→W'.cell? (qa.add (i*8))=some (.int .i64 xk)∧W'.cell? ⟨(qa.add (i*8)).block,(qa.add (i*8)).off+1,none⟩=some (.int .i64 xl)∧W'.cell? ⟨(qa.add (i*8)).block,(qa.add (i*8)).off+2,none⟩=some (.int .i64 xo)∧W'.cell? ⟨(qa.add (i*8)).block,(qa.add (i*8)).off+3,none⟩=some (.int .i64 xm)∧W'.cell? ⟨(qa.add (i*8)).block,(qa.add (i*8)).off+4,none⟩=some (.float .f64 xg)∧W'.cell? ⟨(qa.add (i*8)).block,(qa.add (i*8)).off+5,none⟩=some (.string xx)∧W'.cell? ⟨(qa.add (i*8)).block,(qa.add (i*8)).off+6,none⟩=some (vr)∧W'.cell? ⟨(qa.add (i*8)).block,(qa.add (i*8)).off+7,none⟩=some (vk)∧W'.cell? (qb.add (i*8))=some (.int .i64 xk)∧W'.cell? ⟨(qb.add (i*8)).block,(qb.add (i*8)).off+1,none⟩=some (.int .i64 xl)∧W'.cell? ⟨(qb.add (i*8)).block,(qb.add (i*8)).off+2,none⟩=some (.int .i64 xo)∧W'.cell? ⟨(qb.add (i*8)).block,(qb.add (i*8)).off+3,none⟩=some (.int .i64 xm)∧W'.cell? ⟨(qb.add (i*8)).block,(qb.add (i*8)).off+4,none⟩=some (.float .f64 xg)∧W'.cell? ⟨(qb.add (i*8)).block,(qb.add (i*8)).off+5,none⟩=some (.string xx)∧W'.cell? ⟨(qb.add (i*8)).block,(qb.add (i*8)).off+6,none⟩=some (ur)∧W'.cell? ⟨(qb.add (i*8)).block,(qb.add (i*8)).off+7,none⟩=some (uk)):=by
    show ∀ (W':World),_
    intro W' k
    exact ⟨k.cell a0,k.cell a1,k.cell a2,k.cell a3,k.cell a4,k.cell a5,k.cell a6,k.cell a7,k.cell b0,k.cell b1,k.cell b2,k.cell b3,k.cell b4,k.cell b5,k.cell b6,k.cell b7⟩
   have HEQ:Hid (∀ W',W'.heap=wr.heap→W'.os=wr.os→W'.output=wr.output→Calls Tryz.prog 69 #[.agg #[.int .i64 xk,.int .i64 xl,.int .i64 xo,.int .i64 xm,.float .f64 xg,.string xx,vr,vk],.agg #[.int .i64 xk,.int .i64 xl,.int .i64 xo,.int .i64 xm,.float .f64 xg,.string xx,ur,uk]] W' fun e w'=>e = .returned (.bool true)∧Kb 0 wr w'):=heq
   clear hin heq
   go_wp2_with fail
   go_region_held_law (fun W'=>W'.cell? (qa.add (i*8))=some (.int .i64 xk)∧W'.cell? ⟨(qa.add (i*8)).block,(qa.add (i*8)).off+1,none⟩=some (.int .i64 xl)∧W'.cell? ⟨(qa.add (i*8)).block,(qa.add (i*8)).off+2,none⟩=some (.int .i64 xo)∧W'.cell? ⟨(qa.add (i*8)).block,(qa.add (i*8)).off+3,none⟩=some (.int .i64 xm)∧W'.cell? ⟨(qa.add (i*8)).block,(qa.add (i*8)).off+4,none⟩=some (.float .f64 xg)∧W'.cell? ⟨(qa.add (i*8)).block,(qa.add (i*8)).off+5,none⟩=some (.string xx)∧W'.cell? ⟨(qa.add (i*8)).block,(qa.add (i*8)).off+6,none⟩=some (vr)∧W'.cell? ⟨(qa.add (i*8)).block,(qa.add (i*8)).off+7,none⟩=some (vk)∧W'.cell? (qb.add (i*8))=some (.int .i64 xk)∧W'.cell? ⟨(qb.add (i*8)).block,(qb.add (i*8)).off+1,none⟩=some (.int .i64 xl)∧W'.cell? ⟨(qb.add (i*8)).block,(qb.add (i*8)).off+2,none⟩=some (.int .i64 xo)∧W'.cell? ⟨(qb.add (i*8)).block,(qb.add (i*8)).off+3,none⟩=some (.int .i64 xm)∧W'.cell? ⟨(qb.add (i*8)).block,(qb.add (i*8)).off+4,none⟩=some (.float .f64 xg)∧W'.cell? ⟨(qb.add (i*8)).block,(qb.add (i*8)).off+5,none⟩=some (.string xx)∧W'.cell? ⟨(qb.add (i*8)).block,(qb.add (i*8)).off+6,none⟩=some (ur)∧W'.cell? ⟨(qb.add (i*8)).block,(qb.add (i*8)).off+7,none⟩=some (uk)) (first | exact ⟨a0,a1,a2,a3,a4,a5,a6,a7,b0,b1,b2,b3,b4,b5,b6,b7⟩ | exact (uh HKEEP) _ k5)
    ((go_at_call 69;refine ((uh HEQ) _ (by exact rfl) (by exact rfl) (by exact rfl)).mono ?_;rintro e w5 ⟨rfl,k5⟩))
   all_goals
    have HB5:Hid (Kb 0 w w5):=(uh HB).trans k5
    clear HB HKEEP HEQ k5 a0 a1 a2 a3 a4 a5 a6 a7 b0 b1 b2 b3 b4 b5 b6 b7
    go_wp2_with fail
    go_roundw
    case rel=>exact ⟨i+1,by go_num,by omega,HB5⟩
    case measure=>simp [intOf];omega
  ·obtain rfl:i=n:=by omega
   clear HA
   go_wp2_with fail
   go_ret
   exact ⟨rfl,HB⟩
end Go.Proofs.YtfpidccjcemcjaaGreat.Fo
