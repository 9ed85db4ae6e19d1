import Derived.Test.YtfpidccjcemcjaaGreatMZsq
import Derived.Test.YtfpidccjcemcjaaGreatMNbi
import Derived.Deep.Slices
import Derived.SizedLaws
import Derived.Carry
set_option maxHeartbeats 8000000
namespace Go.Proofs.YtfpidccjcemcjaaGreat.Fo
open Go.ChangeShapes Go.WideShapes Go.ChangeAt Go.RowKit
set_option linter.unusedVariables false
set_option maxRecDepth 100000
theorem choose_fn {α : Type} [inst:Inhabited α] {n:Nat} {p:Nat → α → Prop} (h:∀ i,i < n→∃ a,p i a):∃ f:Nat → α,∀ i,i < n→p i (f i):=by
 classical
 refine ⟨fun i=>if hi:i < n then Classical.choose (h i hi) else default,fun i hi=>?_⟩
 simp only [dif_pos hi]
 exact Classical.choose_spec (h i hi)
def BN (N:Nat→Nd) (n:Nat):Prop:=∀ i,i < n→((N i).a.x.size:Int) < 140737488355328∧((N i).p:Int) < 140737488355328∧((N i).q:Int) < 140737488355328
def szN (N:Nat→Nd) (i:Nat):Nat:=(N i).a.x.size+(N i).p+(N i).q
theorem szd_nodes {va : Value} {n : Nat} {N : Nat → Nd} (w : World) (l : Int) (ha : RowN 0 w va n N) (hn : (n : Int) < 140737488355328) (hN : BN N n) (hl0 : 0 ≤ l) (hl : l ≤ 1048576) :
  Calls Tryz.prog 35 #[va,.int .i64 l] w (Szd (n+sm (szN N) n) l w):=by
 obtain ⟨pa,ca,rfl,ha2⟩:=ha
 obtain ⟨V,hV⟩:∃ V:Nat→Value × Value,∀ i,i < n→(∃ a:Addr,pa=some a∧n≤ca∧CelN w (a.add (i*8)) (N i).a (V i).1 (V i).2)∧RowB 0 w (V i).1 (N i).p (fun j=>.int .i64 ((N i).R j))∧RowB 0 w (V i).2 (N i).q (fun j=>.int .i64 ((N i).K j)):=by
  refine choose_fn (α:=Value × Value) (inst:=⟨(.pointer none,.pointer none)⟩) (n:=n) (p:=fun i V=>(∃ a:Addr,pa=some a∧n≤ca∧CelN w (a.add (i*8)) (N i).a V.1 V.2)∧RowB 0 w V.1 (N i).p (fun j=>.int .i64 ((N i).R j))∧RowB 0 w V.2 (N i).q (fun j=>.int .i64 ((N i).K j))) (fun i hi=>?_)
  obtain ⟨a,e1,e2,-,e3⟩:=ha2 (by omega)
  obtain ⟨vr,vk,c,r,k⟩:=e3 i hi
  exact ⟨(vr,vk),⟨a,e1,e2,c⟩,r,k⟩
 refine szr_nodes (N:=N) (vr:=fun i=>(V i).1) (vk:=fun i=>(V i).2) (s:=szN N) w l hn ?_ ?_ hl0 hl
 ·intro h0
  obtain ⟨a,e1,e2,-,e3⟩:=ha2 h0
  refine ⟨a,e1,e2,fun i hi=>?_⟩
  obtain ⟨⟨a',f1,f2,f3⟩,-,-⟩:=hV i hi
  have:a'=a:=by rw [e1] at f1;exact (Option.some.inj f1).symm
  rw [← this];exact f3
 ·intro i hi W l k l0 l1
  obtain ⟨-,r,kk⟩:=hV i hi
  obtain ⟨y1,y2,y3⟩:=hN i hi
  exact sz_node W l y1 (fun W' l' k' a b=>szd_ints W' l' ((r.keep k).keep k').row y2 a b) (fun W' l' k' a b=>szd_ints W' l' ((kk.keep k).keep k').row y3 a b) l0 l1
def BF (F:Nat→Fd) (nf:Nat):Prop:=∀ i,i < nf→((F i).x.size:Int) < 140737488355328∧((F i).p:Int) < 140737488355328∧(∀ j,j < (F i).p→(((F i).V j).size:Int) < 140737488355328)∧((F i).u:Int) < 140737488355328∧((F i).n:Int) < 140737488355328∧BN (F i).N (F i).n
def szF (F:Nat→Fd) (i:Nat):Nat:=(F i).x.size+(F i).p+(F i).u+((F i).n+sm (szN (F i).N) (F i).n)
theorem szd_fns {va : Value} {nf : Nat} {F : Nat → Fd} (w : World) (l : Int) (ha : RowF 0 w va nf F) (hn : (nf : Int) < 140737488355328) (hF : BF F nf) (hl0 : 0 ≤ l) (hl : l ≤ 1048576) :
  Calls Tryz.prog 13 #[va,.int .i64 l] w (Szd (nf+sm (szF F) nf) l w):=by
 obtain ⟨pa,ca,rfl,ha2⟩:=ha
 obtain ⟨V,hV⟩:∃ V:Nat→Value × Value × Value,∀ i,i < nf→(∃ a:Addr,pa=some a∧nf≤ca∧CelF w (a.add (i*7)) (F i) (V i).1 (V i).2.1 (V i).2.2)∧RowB 0 w (V i).1 (F i).p (fun j=>.string ((F i).V j))∧RowU 0 w (V i).2.1 (F i).u (F i).U∧RowN 0 w (V i).2.2 (F i).n (F i).N:=by
  refine choose_fn (α:=Value × Value × Value) (inst:=⟨(.pointer none,.pointer none,.pointer none)⟩) (n:=nf) (p:=fun i V=>(∃ a:Addr,pa=some a∧nf≤ca∧CelF w (a.add (i*7)) (F i) V.1 V.2.1 V.2.2)∧RowB 0 w V.1 (F i).p (fun j=>.string ((F i).V j))∧RowU 0 w V.2.1 (F i).u (F i).U∧RowN 0 w V.2.2 (F i).n (F i).N) (fun i hi=>?_)
  obtain ⟨a,e1,e2,-,e3⟩:=ha2 (by omega)
  obtain ⟨vv,vu,vn,c,r,k,m⟩:=e3 i hi
  exact ⟨(vv,vu,vn),⟨a,e1,e2,c⟩,r,k,m⟩
 refine szr_fns (F:=F) (vv:=fun i=>(V i).1) (vu:=fun i=>(V i).2.1) (vn:=fun i=>(V i).2.2) (s:=szF F) w l hn ?_ ?_ hl0 hl
 ·intro h0
  obtain ⟨a,e1,e2,-,e3⟩:=ha2 h0
  refine ⟨a,e1,e2,fun i hi=>?_⟩
  obtain ⟨⟨a',f1,f2,f3⟩,-,-,-⟩:=hV i hi
  have:a'=a:=by rw [e1] at f1;exact (Option.some.inj f1).symm
  rw [← this];exact f3
 ·intro i hi W l k l0 l1
  obtain ⟨-,r,kk,mm⟩:=hV i hi
  obtain ⟨y1,y2,y3,y4,y5,y6⟩:=hF i hi
  exact sz_fn W l y1 (fun W' l' k' a b=>szd_strs W' l' ((r.keep k).keep k').row y2 y3 a b) (fun W' l' k' a b=>szd_ups W' l' ((kk.keep k).keep k') y4 a b) (fun W' l' k' a b=>szd_nodes W' l' ((mm.keep k).keep k') y5 y6 a b) l0 l1
theorem sz_unit {va : Value} {nf : Nat} {F : Nat → Fd} (w : World) (ha : RowF 0 w va nf F) (hn : (nf : Int) < 140737488355328) (hF : BF F nf) :
  Calls Tryz.prog 4 #[.agg #[va],.int .i64 1048576] w (Szd (nf+sm (szF F) nf) 1048576 w):=by
 have hs:Hid (∀ o,Calls Tryz.prog 13 #[va,.int .i64 1048576] (w.alloc o) (Szd (nf+sm (szF F) nf) 1048576 (w.alloc o))):=(fun o=>szd_fns (w.alloc o) 1048576 (ha.keep (kb_alloc _ _ _)) hn hF (by omega) (by omega):∀ o,_)
 obtain ⟨pa,ca,rfl,_⟩:=ha
 generalize nf+sm (szF F) nf=S at *
 clear hn hF
 go_enter Tryz.func4,Tryz.ntmps4
 go_wp2_with fail
 refine (hs _).mono ?_
 rintro e w1 ⟨r,rfl,h1,h2,h3,hb⟩
 have HB:Hid ((0≤r→r+(S:Int)≤1048576)∧Kb 0 w w1):=(⟨h1,(kb_alloc _ _ _).trans hb⟩:_∧_)
 clear hs h1 hb
 rcases Int.lt_or_le r 0 with h | h
 ·go_wp2_with fail
  go_ret
  exact ⟨-1,rfl,fun f=>by omega,by omega,by omega,HB.2⟩
 ·have h':¬ r < 0:=by omega
  go_wp2_with fail
  go_ret
  exact ⟨r,rfl,HB.1,h2,h3,HB.2⟩
theorem to_unit0 {va : Value} {nf : Nat} {F : Nat → Fd} (w : World)
  (g0:∀ W,Kb 0 w W→Calls Tryz.prog 16 #[va] W fun e w'=>∃ v,e = .returned v∧RowF W.heap.size w' (v) nf F∧Kb 0 W w') :
  Calls Tryz.prog 6 #[.agg #[va]] w fun e w'=>∃ v0,e = .returned (.agg #[v0])∧RowF w.heap.size w' (v0) nf F∧Kb 0 w w':=by
 have G0:Hid (∀ W,Kb 0 w W→Calls Tryz.prog 16 #[va] W fun e w'=>∃ v,e = .returned v∧RowF W.heap.size w' (v) nf F∧Kb 0 W w'):=g0
 clear g0
 go_enter Tryz.func6,Tryz.ntmps6
 go_wp2_with fail
 obtain ⟨w3,hw3⟩:∃ w3,w3=((w.alloc (.cells #[va] 24)).alloc (.cells #[.slice none 0 0] 30)).alloc (.cells #[.slice none 0 0] 30):=⟨_,rfl⟩
 rw [← hw3]
 obtain ⟨b0,b1,b2,z3,k3⟩:=three_new w _ _ _ _ _ _ w3 hw3
 clear hw3
 refine ((show ∀ W,Kb 0 w W→Calls Tryz.prog 16 #[va] W fun e w'=>∃ v,e = .returned v∧RowF W.heap.size w' (v) nf F∧Kb 0 W w' from G0) w3 k3).mono ?_
 rintro e x0 ⟨v0,rfl,r0,q0⟩
 clear G0
 have zq0:=q0.size
 have zz0:w.heap.size+3≤w3.heap.size:=by omega
 have b0x0:x0.heap[w.heap.size]? = some (.cells #[va] 24 (0,0)):=(q0.block _ zq (by omega)).trans b0
 have b1x0:x0.heap[w.heap.size+1]? = some (.cells #[.slice none 0 0] 30 (0,0)):=(q0.block _ zq (by omega)).trans b1
 have b2x0:x0.heap[w.heap.size+1+1]? = some (.cells #[.slice none 0 0] 30 (0,0)):=(q0.block _ zq (by omega)).trans b2
 clear b0 b1 b2
 obtain ⟨p0,l0,rfl,_⟩:=id r0
 have s0:=r0.mono (show w.heap.size+3≤w3.heap.size by omega)
 have KW:=k3.trans q0
 have e0:x0.cell? ⟨w.heap.size+1+1,0,none⟩=some (.slice none 0 0):=cell_of b2x0 rfl
 have fz:x0.frozen? ⟨w.heap.size+1+1,0,none⟩=false:=frozen_of b2x0
 have a0:x0.cell? ⟨w.heap.size+1,0,none⟩=some (.slice none 0 0):=cell_of b1x0 rfl
 have fy:∀ j,x0.frozen? ⟨w.heap.size+1,j,none⟩=false:=fun j=>frozen_of b1x0
 have HE:Hid (Kb 0 w x0∧RowF (w.heap.size+3) x0 (.slice p0 nf l0) nf F):=(⟨KW,s0⟩:_∧_)
 clear KW s0 b0x0 b1x0 b2x0 r0 q0 zq0 zz0 k3 z3
 go_wp2_with fail
 refine bodyPost_ret (by simp [results,Tryz.results6,go_sem,a0];rfl) rfl ?_
 obtain ⟨KW,s0⟩:=(uh HE)
 clear HE
 have hq:=((Kb.refl (w.heap.size+3) x0).setCell ⟨w.heap.size+1+1,0,none⟩ (Or.inl (show w.heap.size+1+1 < w.heap.size+3 by omega)) (.slice p0 nf l0)).setCell ⟨w.heap.size+1,0,none⟩ (Or.inl (show w.heap.size+1 < w.heap.size+3 by omega)) (.slice p0 nf l0)
 have hk:=((KW).setCell ⟨w.heap.size+1+1,0,none⟩ (Or.inr (show w.heap.size≤w.heap.size+1+1 by omega)) (.slice p0 nf l0)).setCell ⟨w.heap.size+1,0,none⟩ (Or.inr (show w.heap.size≤w.heap.size+1 by omega)) (.slice p0 nf l0)
 exact ⟨_,rfl,(s0.keep hq).mono (by omega),hk⟩
theorem eq_unit0 {va vb : Value} (w : World)
  (g0:∀ W',Kb 0 w W'→Calls Tryz.prog 19 #[va,vb] W' fun e w'=>e = .returned (.bool true)∧Kb 0 W' w') :
  Calls Tryz.prog 9 #[.agg #[va],.agg #[vb]] w fun e w'=>e = .returned (.bool true)∧Kb 0 w w':=by
 have G0:Hid (∀ W',Kb 0 w W'→Calls Tryz.prog 19 #[va,vb] W' fun e w'=>e = .returned (.bool true)∧Kb 0 W' w'):=g0
 clear g0
 skip
 obtain ⟨w2,hw2⟩:∃ w2,w2=(w.alloc (.cells #[va] 30)).alloc (.cells #[vb] 30):=⟨_,rfl⟩
 have k2:Kb 0 w w2:=by rw [hw2];exact kb_alloc2 _ _ _ _
 have b0:w2.heap[w.heap.size]? = some (.cells #[va] 30 (0,0)):=by
  rw [hw2,(kb_alloc 0 _ _).block _ zq (by rw [World.size_alloc];omega)]
  exact alloc_new _ _ _
 have b1:w2.heap[w.heap.size+1]? = some (.cells #[vb] 30 (0,0)):=by
  have e:(w.alloc (.cells #[va] 30)).heap.size=w.heap.size+1:=World.size_alloc _ _
  rw [hw2,← e]
  exact alloc_new _ _ _
 have HK:Hid (Kb 0 w w2∧w2.heap[w.heap.size]? = some (.cells #[va] 30 (0,0))∧w2.heap[w.heap.size+1]? = some (.cells #[vb] 30 (0,0))∧w.heap.size+1 < w2.heap.size):=(⟨k2,b0,b1,by rw [hw2];simp⟩:_∧_)
 have HW:Hid (w2=(w.alloc (.cells #[va] 30)).alloc (.cells #[vb] 30)):=hw2
 clear hw2 k2 b0 b1
 go_enter Tryz.func9,Tryz.ntmps9
 go_wp2_with fail
 rw [← (uh HW)]
 clear HW
 refine ((show ∀ W',Kb 0 w W'→Calls Tryz.prog 19 #[va,vb] W' fun e w'=>e = .returned (.bool true)∧Kb 0 W' w' from G0) w2 HK.1).mono ?_
 rintro e x0 ⟨rfl,k0⟩
 have HL:Hid (Kb 0 w x0∧x0.heap[w.heap.size]? = some (.cells #[va] 30 (0,0))∧x0.heap[w.heap.size+1]? = some (.cells #[vb] 30 (0,0))∧w.heap.size+1 < x0.heap.size):=by
  obtain ⟨q1,q2,q3,q4⟩:=(uh HK)
  have q5:=k0.size
  exact ⟨q1.trans k0,(k0.block _ zq (by omega)).trans q2,(k0.block _ zq (by omega)).trans q3,by omega⟩
 clear HK
 have HK:=HL
 clear HL k0 G0
 go_wp2_with fail
 go_ret
 exact ⟨rfl,HK.1⟩
end Go.Proofs.YtfpidccjcemcjaaGreat.Fo
