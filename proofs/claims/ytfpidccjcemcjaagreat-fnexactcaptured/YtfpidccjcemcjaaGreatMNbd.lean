import Derived.Test.YtfpidccjcemcjaaGreatMZsq
import Derived.Test.YtfpidccjcemcjaaGreatMZaa
set_option maxHeartbeats 8000000
namespace Go.Proofs.YtfpidccjcemcjaaGreat.Fo
open Go.ChangeShapes Go.WideShapes Go.ChangeAt Go.RowKit
set_option linter.unusedVariables false
set_option maxRecDepth 100000
theorem to_ints' {va : Value} {n : Nat} {A : Nat → Int} (w : World) (ha : RowV w va n (fun i => .int .i64 (A i))) (hn : n ≤ 1048576) :
  Calls Tryz.prog 78 #[va] w fun e w'=>∃ v,e = .returned v∧RowB w.heap.size w' v n (fun i=>.int .i64 (A i))∧Kb 0 w w':=by
 refine (to_ints w ha hn).mono ?_
 rintro e w' ⟨v,rfl,h,hb,_⟩
 exact ⟨v,rfl,h.rowB (Nat.le_refl _),.of_below hb 0⟩
theorem to_strs' {va : Value} {n : Nat} {A : Nat → ByteArray} (w : World) (ha : RowV w va n (fun i => .string (A i))) (hn : n ≤ 1048576) :
  Calls Tryz.prog 43 #[va] w fun e w'=>∃ v,e = .returned v∧RowB w.heap.size w' v n (fun i=>.string (A i))∧Kb 0 w w':=by
 refine (to_strs w ha hn).mono ?_
 rintro e w' ⟨v,rfl,h,hb,_⟩
 exact ⟨v,rfl,h.rowB (Nat.le_refl _),.of_below hb 0⟩
theorem to_up (u:Bool × Int) (w:World):Calls Tryz.prog 57 #[upv u] w fun e w'=>e = .returned (upv u)∧Kb 0 w w':=by
 unfold upv
 go_enter Tryz.func57,Tryz.ntmps57
 go_wp2_with fail
 refine bodyPost_ret (by simp [results,Tryz.results57,go_sem];rfl) rfl ?_
 exact ⟨rfl,kb_alloc3 _ _ _ _ _⟩
theorem to_node {a : Nv} {vr vk : Value} {p q : Nat} {R K : Nat → Int} (w : World)
  (g0:∀ W,Kb 0 w W→Calls Tryz.prog 78 #[vr] W fun e w'=>∃ v,e = .returned v∧RowB W.heap.size w' (v) p (fun i=>.int .i64 (R i))∧Kb 0 W w')
  (g1:∀ W,Kb 0 w W→Calls Tryz.prog 78 #[vk] W fun e w'=>∃ v,e = .returned v∧RowB W.heap.size w' (v) q (fun i=>.int .i64 (K i))∧Kb 0 W w') :
  Calls Tryz.prog 58 #[ndv a vr vk] w fun e w'=>∃ v0 v1,e = .returned (ndv a v0 v1)∧RowB w.heap.size w' (v0) p (fun i=>.int .i64 (R i))∧RowB w.heap.size w' (v1) q (fun i=>.int .i64 (K i))∧Kb 0 w w':=by
 have G0:Hid (∀ W,Kb 0 w W→Calls Tryz.prog 78 #[vr] W fun e w'=>∃ v,e = .returned v∧RowB W.heap.size w' (v) p (fun i=>.int .i64 (R i))∧Kb 0 W w'):=g0
 have G1:Hid (∀ W,Kb 0 w W→Calls Tryz.prog 78 #[vk] W fun e w'=>∃ v,e = .returned v∧RowB W.heap.size w' (v) q (fun i=>.int .i64 (K i))∧Kb 0 W w'):=g1
 clear g0 g1
 unfold ndv
 have hst:=hst0
 go_enter Tryz.func58,Tryz.ntmps58
 go_wp2_with fail
 obtain ⟨w3,hw3⟩:∃ w3,w3=((w.alloc (.cells #[.int .i64 a.k,.int .i64 a.l,.int .i64 a.o,.int .i64 a.m,.float .f64 a.g,.string a.x,vr,vk] 89)).alloc (.cells #[.int .i64 0,.int .i64 0,.int .i64 0,.int .i64 0,.float .f64 0,.string ⟨#[]⟩,.slice none 0 0,.slice none 0 0] 59)).alloc (.cells #[.int .i64 a.k,.int .i64 a.l,.int .i64 a.o,.int .i64 a.m,.float .f64 a.g,.string a.x,.slice none 0 0,.slice none 0 0] 59):=⟨_,rfl⟩
 rw [← hw3]
 obtain ⟨b0,b1,b2,z3,k3⟩:=three_new w _ _ _ _ _ _ w3 hw3
 clear hw3
 refine ((show ∀ W,Kb 0 w W→Calls Tryz.prog 78 #[vr] W fun e w'=>∃ v,e = .returned v∧RowB W.heap.size w' (v) p (fun i=>.int .i64 (R i))∧Kb 0 W w' from G0) w3 k3).mono ?_
 rintro e x0 ⟨v0,rfl,r0,q0⟩
 clear G0
 have zq0:=q0.size
 have zz0:w.heap.size+3≤w3.heap.size:=by omega
 have b0x0:x0.heap[w.heap.size]? = some (.cells #[.int .i64 a.k,.int .i64 a.l,.int .i64 a.o,.int .i64 a.m,.float .f64 a.g,.string a.x,vr,vk] 89 (0,0)):=(q0.block _ zq (by omega)).trans b0
 have b1x0:x0.heap[w.heap.size+1]? = some (.cells #[.int .i64 0,.int .i64 0,.int .i64 0,.int .i64 0,.float .f64 0,.string ⟨#[]⟩,.slice none 0 0,.slice none 0 0] 59 (0,0)):=(q0.block _ zq (by omega)).trans b1
 have b2x0:x0.heap[w.heap.size+1+1]? = some (.cells #[.int .i64 a.k,.int .i64 a.l,.int .i64 a.o,.int .i64 a.m,.float .f64 a.g,.string a.x,.slice none 0 0,.slice none 0 0] 59 (0,0)):=(q0.block _ zq (by omega)).trans b2
 clear b0 b1 b2
 obtain ⟨p0,l0,rfl,_⟩:=id r0
 have o0:x0.cell? ⟨w.heap.size+1+1,6,none⟩=some (.slice none 0 0):=cell_of b2x0 rfl
 have f0:x0.frozen? ⟨w.heap.size+1+1,6,none⟩=false:=frozen_of b2x0
 have n0:x0.cell? ⟨w.heap.size,7,none⟩=some (vk):=cell_of b0x0 rfl
 obtain ⟨y0,hy0⟩:∃ W,W=x0.setCell ⟨w.heap.size+1+1,6,none⟩ (.slice p0 p l0):=⟨_,rfl⟩
 have c0:y0.heap[w.heap.size]? = some (.cells #[.int .i64 a.k,.int .i64 a.l,.int .i64 a.o,.int .i64 a.m,.float .f64 a.g,.string a.x,vr,vk] 89 (0,0)):=by rw [hy0,Below.heap_setCell _ _ _ _ (show w.heap.size ≠ w.heap.size+1+1 by omega)];exact b0x0
 have c1:y0.heap[w.heap.size+1]? = some (.cells #[.int .i64 0,.int .i64 0,.int .i64 0,.int .i64 0,.float .f64 0,.string ⟨#[]⟩,.slice none 0 0,.slice none 0 0] 59 (0,0)):=by rw [hy0,Below.heap_setCell _ _ _ _ (show w.heap.size+1 ≠ w.heap.size+1+1 by omega)];exact b1x0
 have c2:y0.heap[w.heap.size+1+1]? = some (.cells #[.int .i64 a.k,.int .i64 a.l,.int .i64 a.o,.int .i64 a.m,.float .f64 a.g,.string a.x,.slice p0 p l0,.slice none 0 0] 59 (0,0)):=by rw [hy0];exact set_known _ b2x0
 have ky0:Kb 0 w y0:=by rw [hy0];exact (k3.trans q0).setCell _ (Or.inr (by show w.heap.size≤w.heap.size+1+1;omega)) _
 have qy0:Kb (w.heap.size+3) x0 y0:=by rw [hy0];exact (Kb.refl _ _).setCell _ (Or.inl (by show w.heap.size+1+1 < w.heap.size+3;omega)) _
 have zy0:y0.heap.size=x0.heap.size:=by rw [hy0];simp
 have HX0:Hid ((y0.heap[w.heap.size]? = some (.cells #[.int .i64 a.k,.int .i64 a.l,.int .i64 a.o,.int .i64 a.m,.float .f64 a.g,.string a.x,vr,vk] 89 (0,0))∧y0.heap[w.heap.size+1]? = some (.cells #[.int .i64 0,.int .i64 0,.int .i64 0,.int .i64 0,.float .f64 0,.string ⟨#[]⟩,.slice none 0 0,.slice none 0 0] 59 (0,0))∧y0.heap[w.heap.size+1+1]? = some (.cells #[.int .i64 a.k,.int .i64 a.l,.int .i64 a.o,.int .i64 a.m,.float .f64 a.g,.string a.x,.slice p0 p l0,.slice none 0 0] 59 (0,0)))∧Kb 0 w y0∧Kb (w.heap.size+3) x0 y0∧y0.heap.size=x0.heap.size∧RowB w3.heap.size x0 (.slice p0 p l0) p (fun i=>.int .i64 (R i))∧w.heap.size+3≤w3.heap.size∧w3.heap.size≤x0.heap.size):=(⟨⟨c0,c1,c2⟩,ky0,qy0,zy0,r0,(by omega:w.heap.size+3≤w3.heap.size),zq0⟩:_∧_)
 have HW0:Hid (y0=x0.setCell ⟨w.heap.size+1+1,6,none⟩ (.slice p0 p l0)):=hy0
 clear b0x0 b1x0 b2x0 c0 c1 c2 ky0 qy0 zy0 r0 q0 zq0 hy0 zz0 z3 k3
 go_wp2_with fail
 rw [← (uh HW0)]
 clear HW0 o0 f0 n0
 obtain ⟨⟨b0,b1,b2⟩,ky0,qy0,zy0,r0,zu0,zv0⟩:=(uh HX0)
 clear HX0
 have zz1:w.heap.size+3≤y0.heap.size:=by omega
 have s0:=(r0.mono (show w.heap.size+3≤w3.heap.size from zu0)).keep qy0
 clear r0 qy0
 refine ((show ∀ W,Kb 0 w W→Calls Tryz.prog 78 #[vk] W fun e w'=>∃ v,e = .returned v∧RowB W.heap.size w' (v) q (fun i=>.int .i64 (K i))∧Kb 0 W w' from G1) y0 ky0).mono ?_
 rintro e x1 ⟨v1,rfl,r1,q1⟩
 clear G1
 have zq1:=q1.size
 have b0x1:x1.heap[w.heap.size]? = some (.cells #[.int .i64 a.k,.int .i64 a.l,.int .i64 a.o,.int .i64 a.m,.float .f64 a.g,.string a.x,vr,vk] 89 (0,0)):=(q1.block _ zq (by omega)).trans b0
 have b1x1:x1.heap[w.heap.size+1]? = some (.cells #[.int .i64 0,.int .i64 0,.int .i64 0,.int .i64 0,.float .f64 0,.string ⟨#[]⟩,.slice none 0 0,.slice none 0 0] 59 (0,0)):=(q1.block _ zq (by omega)).trans b1
 have b2x1:x1.heap[w.heap.size+1+1]? = some (.cells #[.int .i64 a.k,.int .i64 a.l,.int .i64 a.o,.int .i64 a.m,.float .f64 a.g,.string a.x,.slice p0 p l0,.slice none 0 0] 59 (0,0)):=(q1.block _ zq (by omega)).trans b2
 clear b0 b1 b2
 obtain ⟨p1,l1,rfl,_⟩:=id r1
 replace s0:=s0.keep (q1.mono zq)
 have s1:=r1.mono (show w.heap.size+3≤y0.heap.size by omega)
 have KW:=ky0.trans q1
 have e0:x1.cell? ⟨w.heap.size+1+1,0,none⟩=some (.int .i64 a.k):=cell_of b2x1 rfl
 have e1:x1.cell? ⟨w.heap.size+1+1,1,none⟩=some (.int .i64 a.l):=cell_of b2x1 rfl
 have e2:x1.cell? ⟨w.heap.size+1+1,2,none⟩=some (.int .i64 a.o):=cell_of b2x1 rfl
 have e3:x1.cell? ⟨w.heap.size+1+1,3,none⟩=some (.int .i64 a.m):=cell_of b2x1 rfl
 have e4:x1.cell? ⟨w.heap.size+1+1,4,none⟩=some (.float .f64 a.g):=cell_of b2x1 rfl
 have e5:x1.cell? ⟨w.heap.size+1+1,5,none⟩=some (.string a.x):=cell_of b2x1 rfl
 have e6:x1.cell? ⟨w.heap.size+1+1,6,none⟩=some (.slice p0 p l0):=cell_of b2x1 rfl
 have e7:x1.cell? ⟨w.heap.size+1+1,7,none⟩=some (.slice none 0 0):=cell_of b2x1 rfl
 have fz:x1.frozen? ⟨w.heap.size+1+1,7,none⟩=false:=frozen_of b2x1
 have a0:x1.cell? ⟨w.heap.size+1,0,none⟩=some (.int .i64 0):=cell_of b1x1 rfl
 have a1:x1.cell? ⟨w.heap.size+1,1,none⟩=some (.int .i64 0):=cell_of b1x1 rfl
 have a2:x1.cell? ⟨w.heap.size+1,2,none⟩=some (.int .i64 0):=cell_of b1x1 rfl
 have a3:x1.cell? ⟨w.heap.size+1,3,none⟩=some (.int .i64 0):=cell_of b1x1 rfl
 have a4:x1.cell? ⟨w.heap.size+1,4,none⟩=some (.float .f64 0):=cell_of b1x1 rfl
 have a5:x1.cell? ⟨w.heap.size+1,5,none⟩=some (.string ⟨#[]⟩):=cell_of b1x1 rfl
 have a6:x1.cell? ⟨w.heap.size+1,6,none⟩=some (.slice none 0 0):=cell_of b1x1 rfl
 have a7:x1.cell? ⟨w.heap.size+1,7,none⟩=some (.slice none 0 0):=cell_of b1x1 rfl
 have fy:∀ j,x1.frozen? ⟨w.heap.size+1,j,none⟩=false:=fun j=>frozen_of b1x1
 have HE:Hid (Kb 0 w x1∧RowB (w.heap.size+3) x1 (.slice p0 p l0) p (fun i=>.int .i64 (R i))∧RowB (w.heap.size+3) x1 (.slice p1 q l1) q (fun i=>.int .i64 (K i))):=(⟨KW,s0,s1⟩:_∧_)
 clear KW s0 s1 b0x1 b1x1 b2x1 r1 q1 zq1 zz1 ky0 zu0 zv0 zy0
 go_wp2_with fail
 refine bodyPost_ret (by simp [results,Tryz.results58,go_sem,a0,a1,a2,a3,a4,a5,a6,a7];rfl) rfl ?_
 obtain ⟨KW,s0,s1⟩:=(uh HE)
 clear HE
 have hq:=(((((((((Kb.refl (w.heap.size+3) x1).setCell ⟨w.heap.size+1+1,7,none⟩ (Or.inl (show w.heap.size+1+1 < w.heap.size+3 by omega)) (.slice p1 q l1)).setCell ⟨w.heap.size+1,0,none⟩ (Or.inl (show w.heap.size+1 < w.heap.size+3 by omega)) (.int .i64 a.k)).setCell ⟨w.heap.size+1,1,none⟩ (Or.inl (show w.heap.size+1 < w.heap.size+3 by omega)) (.int .i64 a.l)).setCell ⟨w.heap.size+1,2,none⟩ (Or.inl (show w.heap.size+1 < w.heap.size+3 by omega)) (.int .i64 a.o)).setCell ⟨w.heap.size+1,3,none⟩ (Or.inl (show w.heap.size+1 < w.heap.size+3 by omega)) (.int .i64 a.m)).setCell ⟨w.heap.size+1,4,none⟩ (Or.inl (show w.heap.size+1 < w.heap.size+3 by omega)) (.float .f64 a.g)).setCell ⟨w.heap.size+1,5,none⟩ (Or.inl (show w.heap.size+1 < w.heap.size+3 by omega)) (.string a.x)).setCell ⟨w.heap.size+1,6,none⟩ (Or.inl (show w.heap.size+1 < w.heap.size+3 by omega)) (.slice p0 p l0)).setCell ⟨w.heap.size+1,7,none⟩ (Or.inl (show w.heap.size+1 < w.heap.size+3 by omega)) (.slice p1 q l1)
 have hk:=(((((((((KW).setCell ⟨w.heap.size+1+1,7,none⟩ (Or.inr (show w.heap.size≤w.heap.size+1+1 by omega)) (.slice p1 q l1)).setCell ⟨w.heap.size+1,0,none⟩ (Or.inr (show w.heap.size≤w.heap.size+1 by omega)) (.int .i64 a.k)).setCell ⟨w.heap.size+1,1,none⟩ (Or.inr (show w.heap.size≤w.heap.size+1 by omega)) (.int .i64 a.l)).setCell ⟨w.heap.size+1,2,none⟩ (Or.inr (show w.heap.size≤w.heap.size+1 by omega)) (.int .i64 a.o)).setCell ⟨w.heap.size+1,3,none⟩ (Or.inr (show w.heap.size≤w.heap.size+1 by omega)) (.int .i64 a.m)).setCell ⟨w.heap.size+1,4,none⟩ (Or.inr (show w.heap.size≤w.heap.size+1 by omega)) (.float .f64 a.g)).setCell ⟨w.heap.size+1,5,none⟩ (Or.inr (show w.heap.size≤w.heap.size+1 by omega)) (.string a.x)).setCell ⟨w.heap.size+1,6,none⟩ (Or.inr (show w.heap.size≤w.heap.size+1 by omega)) (.slice p0 p l0)).setCell ⟨w.heap.size+1,7,none⟩ (Or.inr (show w.heap.size≤w.heap.size+1 by omega)) (.slice p1 q l1)
 exact ⟨_,_,rfl,(s0.keep hq).mono (by omega),(s1.keep hq).mono (by omega),hk⟩
theorem to_fn {f : Fd} {vv vu vn : Value} {p u n : Nat} {V : Nat → ByteArray} {U : Nat → Bool × Int} {N : Nat → Nd} (w : World)
  (g0:∀ W,Kb 0 w W→Calls Tryz.prog 43 #[vv] W fun e w'=>∃ v,e = .returned v∧RowB W.heap.size w' (v) p (fun i=>.string (V i))∧Kb 0 W w')
  (g1:∀ W,Kb 0 w W→Calls Tryz.prog 44 #[vu] W fun e w'=>∃ v,e = .returned v∧RowU W.heap.size w' (v) u U∧Kb 0 W w')
  (g2:∀ W,Kb 0 w W→Calls Tryz.prog 45 #[vn] W fun e w'=>∃ v,e = .returned v∧RowN W.heap.size w' (v) n N∧Kb 0 W w') :
  Calls Tryz.prog 25 #[fnv f vv vu vn] w fun e w'=>∃ v0 v1 v2,e = .returned (fnv f v0 v1 v2)∧RowB w.heap.size w' (v0) p (fun i=>.string (V i))∧RowU w.heap.size w' (v1) u U∧RowN w.heap.size w' (v2) n N∧Kb 0 w w':=by
 have G0:Hid (∀ W,Kb 0 w W→Calls Tryz.prog 43 #[vv] W fun e w'=>∃ v,e = .returned v∧RowB W.heap.size w' (v) p (fun i=>.string (V i))∧Kb 0 W w'):=g0
 have G1:Hid (∀ W,Kb 0 w W→Calls Tryz.prog 44 #[vu] W fun e w'=>∃ v,e = .returned v∧RowU W.heap.size w' (v) u U∧Kb 0 W w'):=g1
 have G2:Hid (∀ W,Kb 0 w W→Calls Tryz.prog 45 #[vn] W fun e w'=>∃ v,e = .returned v∧RowN W.heap.size w' (v) n N∧Kb 0 W w'):=g2
 clear g0 g1 g2
 unfold fnv
 go_enter Tryz.func25,Tryz.ntmps25
 go_wp2_with fail
 obtain ⟨w3,hw3⟩:∃ w3,w3=((w.alloc (.cells #[.string f.x,.int .i64 f.l,.int .i64 f.m,.bool f.r,vv,vu,vn] 55)).alloc (.cells #[.string ⟨#[]⟩,.int .i64 0,.int .i64 0,.bool false,.slice none 0 0,.slice none 0 0,.slice none 0 0] 48)).alloc (.cells #[.string f.x,.int .i64 f.l,.int .i64 f.m,.bool f.r,.slice none 0 0,.slice none 0 0,.slice none 0 0] 48):=⟨_,rfl⟩
 rw [← hw3]
 obtain ⟨b0,b1,b2,z3,k3⟩:=three_new w _ _ _ _ _ _ w3 hw3
 clear hw3
 refine ((show ∀ W,Kb 0 w W→Calls Tryz.prog 43 #[vv] W fun e w'=>∃ v,e = .returned v∧RowB W.heap.size w' (v) p (fun i=>.string (V i))∧Kb 0 W w' from G0) w3 k3).mono ?_
 rintro e x0 ⟨v0,rfl,r0,q0⟩
 clear G0
 have zq0:=q0.size
 have zz0:w.heap.size+3≤w3.heap.size:=by omega
 have b0x0:x0.heap[w.heap.size]? = some (.cells #[.string f.x,.int .i64 f.l,.int .i64 f.m,.bool f.r,vv,vu,vn] 55 (0,0)):=(q0.block _ zq (by omega)).trans b0
 have b1x0:x0.heap[w.heap.size+1]? = some (.cells #[.string ⟨#[]⟩,.int .i64 0,.int .i64 0,.bool false,.slice none 0 0,.slice none 0 0,.slice none 0 0] 48 (0,0)):=(q0.block _ zq (by omega)).trans b1
 have b2x0:x0.heap[w.heap.size+1+1]? = some (.cells #[.string f.x,.int .i64 f.l,.int .i64 f.m,.bool f.r,.slice none 0 0,.slice none 0 0,.slice none 0 0] 48 (0,0)):=(q0.block _ zq (by omega)).trans b2
 clear b0 b1 b2
 obtain ⟨p0,l0,rfl,_⟩:=id r0
 have o0:x0.cell? ⟨w.heap.size+1+1,4,none⟩=some (.slice none 0 0):=cell_of b2x0 rfl
 have f0:x0.frozen? ⟨w.heap.size+1+1,4,none⟩=false:=frozen_of b2x0
 have n0:x0.cell? ⟨w.heap.size,5,none⟩=some (vu):=cell_of b0x0 rfl
 obtain ⟨y0,hy0⟩:∃ W,W=x0.setCell ⟨w.heap.size+1+1,4,none⟩ (.slice p0 p l0):=⟨_,rfl⟩
 have c0:y0.heap[w.heap.size]? = some (.cells #[.string f.x,.int .i64 f.l,.int .i64 f.m,.bool f.r,vv,vu,vn] 55 (0,0)):=by rw [hy0,Below.heap_setCell _ _ _ _ (show w.heap.size ≠ w.heap.size+1+1 by omega)];exact b0x0
 have c1:y0.heap[w.heap.size+1]? = some (.cells #[.string ⟨#[]⟩,.int .i64 0,.int .i64 0,.bool false,.slice none 0 0,.slice none 0 0,.slice none 0 0] 48 (0,0)):=by rw [hy0,Below.heap_setCell _ _ _ _ (show w.heap.size+1 ≠ w.heap.size+1+1 by omega)];exact b1x0
 have c2:y0.heap[w.heap.size+1+1]? = some (.cells #[.string f.x,.int .i64 f.l,.int .i64 f.m,.bool f.r,.slice p0 p l0,.slice none 0 0,.slice none 0 0] 48 (0,0)):=by rw [hy0];exact set_known _ b2x0
 have ky0:Kb 0 w y0:=by rw [hy0];exact (k3.trans q0).setCell _ (Or.inr (by show w.heap.size≤w.heap.size+1+1;omega)) _
 have qy0:Kb (w.heap.size+3) x0 y0:=by rw [hy0];exact (Kb.refl _ _).setCell _ (Or.inl (by show w.heap.size+1+1 < w.heap.size+3;omega)) _
 have zy0:y0.heap.size=x0.heap.size:=by rw [hy0];simp
 have HX0:Hid ((y0.heap[w.heap.size]? = some (.cells #[.string f.x,.int .i64 f.l,.int .i64 f.m,.bool f.r,vv,vu,vn] 55 (0,0))∧y0.heap[w.heap.size+1]? = some (.cells #[.string ⟨#[]⟩,.int .i64 0,.int .i64 0,.bool false,.slice none 0 0,.slice none 0 0,.slice none 0 0] 48 (0,0))∧y0.heap[w.heap.size+1+1]? = some (.cells #[.string f.x,.int .i64 f.l,.int .i64 f.m,.bool f.r,.slice p0 p l0,.slice none 0 0,.slice none 0 0] 48 (0,0)))∧Kb 0 w y0∧Kb (w.heap.size+3) x0 y0∧y0.heap.size=x0.heap.size∧RowB w3.heap.size x0 (.slice p0 p l0) p (fun i=>.string (V i))∧w.heap.size+3≤w3.heap.size∧w3.heap.size≤x0.heap.size):=(⟨⟨c0,c1,c2⟩,ky0,qy0,zy0,r0,(by omega:w.heap.size+3≤w3.heap.size),zq0⟩:_∧_)
 have HW0:Hid (y0=x0.setCell ⟨w.heap.size+1+1,4,none⟩ (.slice p0 p l0)):=hy0
 clear b0x0 b1x0 b2x0 c0 c1 c2 ky0 qy0 zy0 r0 q0 zq0 hy0 zz0 z3 k3
 go_wp2_with fail
 rw [← (uh HW0)]
 clear HW0 o0 f0 n0
 obtain ⟨⟨b0,b1,b2⟩,ky0,qy0,zy0,r0,zu0,zv0⟩:=(uh HX0)
 clear HX0
 have zz1:w.heap.size+3≤y0.heap.size:=by omega
 have s0:=(r0.mono (show w.heap.size+3≤w3.heap.size from zu0)).keep qy0
 clear r0 qy0
 refine ((show ∀ W,Kb 0 w W→Calls Tryz.prog 44 #[vu] W fun e w'=>∃ v,e = .returned v∧RowU W.heap.size w' (v) u U∧Kb 0 W w' from G1) y0 ky0).mono ?_
 rintro e x1 ⟨v1,rfl,r1,q1⟩
 clear G1
 have zq1:=q1.size
 have b0x1:x1.heap[w.heap.size]? = some (.cells #[.string f.x,.int .i64 f.l,.int .i64 f.m,.bool f.r,vv,vu,vn] 55 (0,0)):=(q1.block _ zq (by omega)).trans b0
 have b1x1:x1.heap[w.heap.size+1]? = some (.cells #[.string ⟨#[]⟩,.int .i64 0,.int .i64 0,.bool false,.slice none 0 0,.slice none 0 0,.slice none 0 0] 48 (0,0)):=(q1.block _ zq (by omega)).trans b1
 have b2x1:x1.heap[w.heap.size+1+1]? = some (.cells #[.string f.x,.int .i64 f.l,.int .i64 f.m,.bool f.r,.slice p0 p l0,.slice none 0 0,.slice none 0 0] 48 (0,0)):=(q1.block _ zq (by omega)).trans b2
 clear b0 b1 b2
 obtain ⟨p1,l1,rfl,_⟩:=id r1
 replace s0:=s0.keep (q1.mono zq)
 have o1:x1.cell? ⟨w.heap.size+1+1,5,none⟩=some (.slice none 0 0):=cell_of b2x1 rfl
 have f1:x1.frozen? ⟨w.heap.size+1+1,5,none⟩=false:=frozen_of b2x1
 have n1:x1.cell? ⟨w.heap.size,6,none⟩=some (vn):=cell_of b0x1 rfl
 obtain ⟨y1,hy1⟩:∃ W,W=x1.setCell ⟨w.heap.size+1+1,5,none⟩ (.slice p1 u l1):=⟨_,rfl⟩
 have c0:y1.heap[w.heap.size]? = some (.cells #[.string f.x,.int .i64 f.l,.int .i64 f.m,.bool f.r,vv,vu,vn] 55 (0,0)):=by rw [hy1,Below.heap_setCell _ _ _ _ (show w.heap.size ≠ w.heap.size+1+1 by omega)];exact b0x1
 have c1:y1.heap[w.heap.size+1]? = some (.cells #[.string ⟨#[]⟩,.int .i64 0,.int .i64 0,.bool false,.slice none 0 0,.slice none 0 0,.slice none 0 0] 48 (0,0)):=by rw [hy1,Below.heap_setCell _ _ _ _ (show w.heap.size+1 ≠ w.heap.size+1+1 by omega)];exact b1x1
 have c2:y1.heap[w.heap.size+1+1]? = some (.cells #[.string f.x,.int .i64 f.l,.int .i64 f.m,.bool f.r,.slice p0 p l0,.slice p1 u l1,.slice none 0 0] 48 (0,0)):=by rw [hy1];exact set_known _ b2x1
 have ky1:Kb 0 w y1:=by rw [hy1];exact (ky0.trans q1).setCell _ (Or.inr (by show w.heap.size≤w.heap.size+1+1;omega)) _
 have qy1:Kb (w.heap.size+3) x1 y1:=by rw [hy1];exact (Kb.refl _ _).setCell _ (Or.inl (by show w.heap.size+1+1 < w.heap.size+3;omega)) _
 have zy1:y1.heap.size=x1.heap.size:=by rw [hy1];simp
 have HX1:Hid ((y1.heap[w.heap.size]? = some (.cells #[.string f.x,.int .i64 f.l,.int .i64 f.m,.bool f.r,vv,vu,vn] 55 (0,0))∧y1.heap[w.heap.size+1]? = some (.cells #[.string ⟨#[]⟩,.int .i64 0,.int .i64 0,.bool false,.slice none 0 0,.slice none 0 0,.slice none 0 0] 48 (0,0))∧y1.heap[w.heap.size+1+1]? = some (.cells #[.string f.x,.int .i64 f.l,.int .i64 f.m,.bool f.r,.slice p0 p l0,.slice p1 u l1,.slice none 0 0] 48 (0,0)))∧Kb 0 w y1∧Kb (w.heap.size+3) x1 y1∧y1.heap.size=x1.heap.size∧RowU y0.heap.size x1 (.slice p1 u l1) u U∧w.heap.size+3≤y0.heap.size∧y0.heap.size≤x1.heap.size):=(⟨⟨c0,c1,c2⟩,ky1,qy1,zy1,r1,(by omega:w.heap.size+3≤y0.heap.size),zq1⟩:_∧_)
 have HW1:Hid (y1=x1.setCell ⟨w.heap.size+1+1,5,none⟩ (.slice p1 u l1)):=hy1
 clear b0x1 b1x1 b2x1 c0 c1 c2 ky1 qy1 zy1 r1 q1 zq1 hy1 zz1
 go_wp2_with fail
 rw [← (uh HW1)]
 clear HW1 o1 f1 n1
 obtain ⟨⟨b0,b1,b2⟩,ky1,qy1,zy1,r1,zu1,zv1⟩:=(uh HX1)
 clear HX1
 have zz2:w.heap.size+3≤y1.heap.size:=by omega
 replace s0:=s0.keep qy1
 have s1:=(r1.mono (show w.heap.size+3≤y0.heap.size from zu1)).keep qy1
 clear r1 qy1
 refine ((show ∀ W,Kb 0 w W→Calls Tryz.prog 45 #[vn] W fun e w'=>∃ v,e = .returned v∧RowN W.heap.size w' (v) n N∧Kb 0 W w' from G2) y1 ky1).mono ?_
 rintro e x2 ⟨v2,rfl,r2,q2⟩
 clear G2
 have zq2:=q2.size
 have b0x2:x2.heap[w.heap.size]? = some (.cells #[.string f.x,.int .i64 f.l,.int .i64 f.m,.bool f.r,vv,vu,vn] 55 (0,0)):=(q2.block _ zq (by omega)).trans b0
 have b1x2:x2.heap[w.heap.size+1]? = some (.cells #[.string ⟨#[]⟩,.int .i64 0,.int .i64 0,.bool false,.slice none 0 0,.slice none 0 0,.slice none 0 0] 48 (0,0)):=(q2.block _ zq (by omega)).trans b1
 have b2x2:x2.heap[w.heap.size+1+1]? = some (.cells #[.string f.x,.int .i64 f.l,.int .i64 f.m,.bool f.r,.slice p0 p l0,.slice p1 u l1,.slice none 0 0] 48 (0,0)):=(q2.block _ zq (by omega)).trans b2
 clear b0 b1 b2
 obtain ⟨p2,l2,rfl,_⟩:=id r2
 replace s0:=s0.keep (q2.mono zq)
 replace s1:=s1.keep (q2.mono zq)
 have s2:=r2.mono (show w.heap.size+3≤y1.heap.size by omega)
 have KW:=ky1.trans q2
 have e0:x2.cell? ⟨w.heap.size+1+1,0,none⟩=some (.string f.x):=cell_of b2x2 rfl
 have e1:x2.cell? ⟨w.heap.size+1+1,1,none⟩=some (.int .i64 f.l):=cell_of b2x2 rfl
 have e2:x2.cell? ⟨w.heap.size+1+1,2,none⟩=some (.int .i64 f.m):=cell_of b2x2 rfl
 have e3:x2.cell? ⟨w.heap.size+1+1,3,none⟩=some (.bool f.r):=cell_of b2x2 rfl
 have e4:x2.cell? ⟨w.heap.size+1+1,4,none⟩=some (.slice p0 p l0):=cell_of b2x2 rfl
 have e5:x2.cell? ⟨w.heap.size+1+1,5,none⟩=some (.slice p1 u l1):=cell_of b2x2 rfl
 have e6:x2.cell? ⟨w.heap.size+1+1,6,none⟩=some (.slice none 0 0):=cell_of b2x2 rfl
 have fz:x2.frozen? ⟨w.heap.size+1+1,6,none⟩=false:=frozen_of b2x2
 have a0:x2.cell? ⟨w.heap.size+1,0,none⟩=some (.string ⟨#[]⟩):=cell_of b1x2 rfl
 have a1:x2.cell? ⟨w.heap.size+1,1,none⟩=some (.int .i64 0):=cell_of b1x2 rfl
 have a2:x2.cell? ⟨w.heap.size+1,2,none⟩=some (.int .i64 0):=cell_of b1x2 rfl
 have a3:x2.cell? ⟨w.heap.size+1,3,none⟩=some (.bool false):=cell_of b1x2 rfl
 have a4:x2.cell? ⟨w.heap.size+1,4,none⟩=some (.slice none 0 0):=cell_of b1x2 rfl
 have a5:x2.cell? ⟨w.heap.size+1,5,none⟩=some (.slice none 0 0):=cell_of b1x2 rfl
 have a6:x2.cell? ⟨w.heap.size+1,6,none⟩=some (.slice none 0 0):=cell_of b1x2 rfl
 have fy:∀ j,x2.frozen? ⟨w.heap.size+1,j,none⟩=false:=fun j=>frozen_of b1x2
 have HE:Hid (Kb 0 w x2∧RowB (w.heap.size+3) x2 (.slice p0 p l0) p (fun i=>.string (V i))∧RowU (w.heap.size+3) x2 (.slice p1 u l1) u U∧RowN (w.heap.size+3) x2 (.slice p2 n l2) n N):=(⟨KW,s0,s1,s2⟩:_∧_)
 clear KW s0 s1 s2 b0x2 b1x2 b2x2 r2 q2 zq2 zz2 ky1 zu0 zv0 zy0 zu1 zv1 zy1
 go_wp2_with fail
 refine bodyPost_ret (by simp [results,Tryz.results25,go_sem,a0,a1,a2,a3,a4,a5,a6];rfl) rfl ?_
 obtain ⟨KW,s0,s1,s2⟩:=(uh HE)
 clear HE
 have hq:=((((((((Kb.refl (w.heap.size+3) x2).setCell ⟨w.heap.size+1+1,6,none⟩ (Or.inl (show w.heap.size+1+1 < w.heap.size+3 by omega)) (.slice p2 n l2)).setCell ⟨w.heap.size+1,0,none⟩ (Or.inl (show w.heap.size+1 < w.heap.size+3 by omega)) (.string f.x)).setCell ⟨w.heap.size+1,1,none⟩ (Or.inl (show w.heap.size+1 < w.heap.size+3 by omega)) (.int .i64 f.l)).setCell ⟨w.heap.size+1,2,none⟩ (Or.inl (show w.heap.size+1 < w.heap.size+3 by omega)) (.int .i64 f.m)).setCell ⟨w.heap.size+1,3,none⟩ (Or.inl (show w.heap.size+1 < w.heap.size+3 by omega)) (.bool f.r)).setCell ⟨w.heap.size+1,4,none⟩ (Or.inl (show w.heap.size+1 < w.heap.size+3 by omega)) (.slice p0 p l0)).setCell ⟨w.heap.size+1,5,none⟩ (Or.inl (show w.heap.size+1 < w.heap.size+3 by omega)) (.slice p1 u l1)).setCell ⟨w.heap.size+1,6,none⟩ (Or.inl (show w.heap.size+1 < w.heap.size+3 by omega)) (.slice p2 n l2)
 have hk:=((((((((KW).setCell ⟨w.heap.size+1+1,6,none⟩ (Or.inr (show w.heap.size≤w.heap.size+1+1 by omega)) (.slice p2 n l2)).setCell ⟨w.heap.size+1,0,none⟩ (Or.inr (show w.heap.size≤w.heap.size+1 by omega)) (.string f.x)).setCell ⟨w.heap.size+1,1,none⟩ (Or.inr (show w.heap.size≤w.heap.size+1 by omega)) (.int .i64 f.l)).setCell ⟨w.heap.size+1,2,none⟩ (Or.inr (show w.heap.size≤w.heap.size+1 by omega)) (.int .i64 f.m)).setCell ⟨w.heap.size+1,3,none⟩ (Or.inr (show w.heap.size≤w.heap.size+1 by omega)) (.bool f.r)).setCell ⟨w.heap.size+1,4,none⟩ (Or.inr (show w.heap.size≤w.heap.size+1 by omega)) (.slice p0 p l0)).setCell ⟨w.heap.size+1,5,none⟩ (Or.inr (show w.heap.size≤w.heap.size+1 by omega)) (.slice p1 u l1)).setCell ⟨w.heap.size+1,6,none⟩ (Or.inr (show w.heap.size≤w.heap.size+1 by omega)) (.slice p2 n l2)
 exact ⟨_,_,_,rfl,(s0.keep hq).mono (by omega),(s1.keep hq).mono (by omega),(s2.keep hq).mono (by omega),hk⟩
end Go.Proofs.YtfpidccjcemcjaaGreat.Fo
