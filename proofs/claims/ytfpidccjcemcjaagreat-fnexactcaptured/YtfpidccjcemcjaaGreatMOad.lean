import Derived.Test.YtfpidccjcemcjaaGreatMZsq
import Derived.Test.YtfpidccjcemcjaaGreatMOaa
import Derived.Test.YtfpidccjcemcjaaGreatMNjb
import Derived.Test.YtfpidccjcemcjaaGreatMBab
set_option maxHeartbeats 8000000
namespace Go.Proofs.YtfpidccjcemcjaaGreat.Fo
open Go.ChangeShapes Go.WideShapes Go.ChangeAt Go.RowKit
set_option linter.unusedVariables false
set_option maxRecDepth 100000
theorem to_fnT {f : Fd} {vv vu vn : Value} {p u n : Nat} {V : Nat → ByteArray} {U : Nat → Bool × Int} {N : Nat → Nd} (w : World)
  (g0:∀ W,Kb 0 w W→Calls Tryz.prog 43 #[vv] W fun e w'=>∃ v,e = .returned v∧RowBT 9 W.heap.size w' (v) p (fun i=>.string (V i))∧Kb 0 W w')
  (g1:∀ W,Kb 0 w W→Calls Tryz.prog 44 #[vu] W fun e w'=>∃ v,e = .returned v∧RowUT W.heap.size w' (v) u U∧Kb 0 W w')
  (g2:∀ W,Kb 0 w W→Calls Tryz.prog 45 #[vn] W fun e w'=>∃ v,e = .returned v∧RowNT W.heap.size w' (v) n N∧Kb 0 W w') :
  Calls Tryz.prog 25 #[fnv f vv vu vn] w fun e w'=>∃ v0 v1 v2,e = .returned (fnv f v0 v1 v2)∧RowBT 9 w.heap.size w' (v0) p (fun i=>.string (V i))∧RowUT w.heap.size w' (v1) u U∧RowNT w.heap.size w' (v2) n N∧Kb 0 w w':=by
 have G0:Hid (∀ W,Kb 0 w W→Calls Tryz.prog 43 #[vv] W fun e w'=>∃ v,e = .returned v∧RowBT 9 W.heap.size w' (v) p (fun i=>.string (V i))∧Kb 0 W w'):=g0
 have G1:Hid (∀ W,Kb 0 w W→Calls Tryz.prog 44 #[vu] W fun e w'=>∃ v,e = .returned v∧RowUT W.heap.size w' (v) u U∧Kb 0 W w'):=g1
 have G2:Hid (∀ W,Kb 0 w W→Calls Tryz.prog 45 #[vn] W fun e w'=>∃ v,e = .returned v∧RowNT W.heap.size w' (v) n N∧Kb 0 W w'):=g2
 clear g0 g1 g2
 unfold fnv
 go_enter Tryz.func25,Tryz.ntmps25
 go_wp2_with fail
 obtain ⟨w3,hw3⟩:∃ w3,w3=((w.alloc (.cells #[.string f.x,.int .i64 f.l,.int .i64 f.m,.bool f.r,vv,vu,vn] 55)).alloc (.cells #[.string ⟨#[]⟩,.int .i64 0,.int .i64 0,.bool false,.slice none 0 0,.slice none 0 0,.slice none 0 0] 48)).alloc (.cells #[.string f.x,.int .i64 f.l,.int .i64 f.m,.bool f.r,.slice none 0 0,.slice none 0 0,.slice none 0 0] 48):=⟨_,rfl⟩
 rw [← hw3]
 obtain ⟨b0,b1,b2,z3,k3⟩:=three_new w _ _ _ _ _ _ w3 hw3
 clear hw3
 refine ((show ∀ W,Kb 0 w W→Calls Tryz.prog 43 #[vv] W fun e w'=>∃ v,e = .returned v∧RowBT 9 W.heap.size w' (v) p (fun i=>.string (V i))∧Kb 0 W w' from G0) w3 k3).mono ?_
 rintro e x0 ⟨v0,rfl,r0,q0⟩
 clear G0
 have zq0:=q0.size
 have zz0:w.heap.size+3≤w3.heap.size:=by omega
 have b0x0:x0.heap[w.heap.size]? = some (.cells #[.string f.x,.int .i64 f.l,.int .i64 f.m,.bool f.r,vv,vu,vn] 55 (0,0)):=(q0.block _ zq (by omega)).trans b0
 have b1x0:x0.heap[w.heap.size+1]? = some (.cells #[.string ⟨#[]⟩,.int .i64 0,.int .i64 0,.bool false,.slice none 0 0,.slice none 0 0,.slice none 0 0] 48 (0,0)):=(q0.block _ zq (by omega)).trans b1
 have b2x0:x0.heap[w.heap.size+1+1]? = some (.cells #[.string f.x,.int .i64 f.l,.int .i64 f.m,.bool f.r,.slice none 0 0,.slice none 0 0,.slice none 0 0] 48 (0,0)):=(q0.block _ zq (by omega)).trans b2
 clear b0 b1 b2
 obtain ⟨p0,l0,rfl,_⟩:=id r0
 have o0:x0.cell? ⟨w.heap.size+1+1,4,none⟩=some (.slice none 0 0):=cell_of b2x0 rfl
 have f0:x0.frozen? ⟨w.heap.size+1+1,4,none⟩=false:=frozen_of b2x0
 have n0:x0.cell? ⟨w.heap.size,5,none⟩=some (vu):=cell_of b0x0 rfl
 obtain ⟨y0,hy0⟩:∃ W,W=x0.setCell ⟨w.heap.size+1+1,4,none⟩ (.slice p0 p l0):=⟨_,rfl⟩
 have c0:y0.heap[w.heap.size]? = some (.cells #[.string f.x,.int .i64 f.l,.int .i64 f.m,.bool f.r,vv,vu,vn] 55 (0,0)):=by rw [hy0,Below.heap_setCell _ _ _ _ (show w.heap.size ≠ w.heap.size+1+1 by omega)];exact b0x0
 have c1:y0.heap[w.heap.size+1]? = some (.cells #[.string ⟨#[]⟩,.int .i64 0,.int .i64 0,.bool false,.slice none 0 0,.slice none 0 0,.slice none 0 0] 48 (0,0)):=by rw [hy0,Below.heap_setCell _ _ _ _ (show w.heap.size+1 ≠ w.heap.size+1+1 by omega)];exact b1x0
 have c2:y0.heap[w.heap.size+1+1]? = some (.cells #[.string f.x,.int .i64 f.l,.int .i64 f.m,.bool f.r,.slice p0 p l0,.slice none 0 0,.slice none 0 0] 48 (0,0)):=by rw [hy0];exact set_known _ b2x0
 have ky0:Kb 0 w y0:=by rw [hy0];exact (k3.trans q0).setCell _ (Or.inr (by show w.heap.size≤w.heap.size+1+1;omega)) _
 have qy0:Kb (w.heap.size+3) x0 y0:=by rw [hy0];exact (Kb.refl _ _).setCell _ (Or.inl (by show w.heap.size+1+1 < w.heap.size+3;omega)) _
 have zy0:y0.heap.size=x0.heap.size:=by rw [hy0];simp
 have HX0:Hid ((y0.heap[w.heap.size]? = some (.cells #[.string f.x,.int .i64 f.l,.int .i64 f.m,.bool f.r,vv,vu,vn] 55 (0,0))∧y0.heap[w.heap.size+1]? = some (.cells #[.string ⟨#[]⟩,.int .i64 0,.int .i64 0,.bool false,.slice none 0 0,.slice none 0 0,.slice none 0 0] 48 (0,0))∧y0.heap[w.heap.size+1+1]? = some (.cells #[.string f.x,.int .i64 f.l,.int .i64 f.m,.bool f.r,.slice p0 p l0,.slice none 0 0,.slice none 0 0] 48 (0,0)))∧Kb 0 w y0∧Kb (w.heap.size+3) x0 y0∧y0.heap.size=x0.heap.size∧RowBT 9 w3.heap.size x0 (.slice p0 p l0) p (fun i=>.string (V i))∧w.heap.size+3≤w3.heap.size∧w3.heap.size≤x0.heap.size):=(⟨⟨c0,c1,c2⟩,ky0,qy0,zy0,r0,(by omega:w.heap.size+3≤w3.heap.size),zq0⟩:_∧_)
 have HW0:Hid (y0=x0.setCell ⟨w.heap.size+1+1,4,none⟩ (.slice p0 p l0)):=hy0
 clear b0x0 b1x0 b2x0 c0 c1 c2 ky0 qy0 zy0 r0 q0 zq0 hy0 zz0 z3 k3
 go_wp2_with fail
 rw [← (uh HW0)]
 clear HW0 o0 f0 n0
 obtain ⟨⟨b0,b1,b2⟩,ky0,qy0,zy0,r0,zu0,zv0⟩:=(uh HX0)
 clear HX0
 have zz1:w.heap.size+3≤y0.heap.size:=by omega
 have s0:=(r0.mono (show w.heap.size+3≤w3.heap.size from zu0)).keep qy0
 clear r0 qy0
 refine ((show ∀ W,Kb 0 w W→Calls Tryz.prog 44 #[vu] W fun e w'=>∃ v,e = .returned v∧RowUT W.heap.size w' (v) u U∧Kb 0 W w' from G1) y0 ky0).mono ?_
 rintro e x1 ⟨v1,rfl,r1,q1⟩
 clear G1
 have zq1:=q1.size
 have b0x1:x1.heap[w.heap.size]? = some (.cells #[.string f.x,.int .i64 f.l,.int .i64 f.m,.bool f.r,vv,vu,vn] 55 (0,0)):=(q1.block _ zq (by omega)).trans b0
 have b1x1:x1.heap[w.heap.size+1]? = some (.cells #[.string ⟨#[]⟩,.int .i64 0,.int .i64 0,.bool false,.slice none 0 0,.slice none 0 0,.slice none 0 0] 48 (0,0)):=(q1.block _ zq (by omega)).trans b1
 have b2x1:x1.heap[w.heap.size+1+1]? = some (.cells #[.string f.x,.int .i64 f.l,.int .i64 f.m,.bool f.r,.slice p0 p l0,.slice none 0 0,.slice none 0 0] 48 (0,0)):=(q1.block _ zq (by omega)).trans b2
 clear b0 b1 b2
 obtain ⟨p1,l1,rfl,_⟩:=id r1
 replace s0:=s0.keep (q1.mono zq)
 have o1:x1.cell? ⟨w.heap.size+1+1,5,none⟩=some (.slice none 0 0):=cell_of b2x1 rfl
 have f1:x1.frozen? ⟨w.heap.size+1+1,5,none⟩=false:=frozen_of b2x1
 have n1:x1.cell? ⟨w.heap.size,6,none⟩=some (vn):=cell_of b0x1 rfl
 obtain ⟨y1,hy1⟩:∃ W,W=x1.setCell ⟨w.heap.size+1+1,5,none⟩ (.slice p1 u l1):=⟨_,rfl⟩
 have c0:y1.heap[w.heap.size]? = some (.cells #[.string f.x,.int .i64 f.l,.int .i64 f.m,.bool f.r,vv,vu,vn] 55 (0,0)):=by rw [hy1,Below.heap_setCell _ _ _ _ (show w.heap.size ≠ w.heap.size+1+1 by omega)];exact b0x1
 have c1:y1.heap[w.heap.size+1]? = some (.cells #[.string ⟨#[]⟩,.int .i64 0,.int .i64 0,.bool false,.slice none 0 0,.slice none 0 0,.slice none 0 0] 48 (0,0)):=by rw [hy1,Below.heap_setCell _ _ _ _ (show w.heap.size+1 ≠ w.heap.size+1+1 by omega)];exact b1x1
 have c2:y1.heap[w.heap.size+1+1]? = some (.cells #[.string f.x,.int .i64 f.l,.int .i64 f.m,.bool f.r,.slice p0 p l0,.slice p1 u l1,.slice none 0 0] 48 (0,0)):=by rw [hy1];exact set_known _ b2x1
 have ky1:Kb 0 w y1:=by rw [hy1];exact (ky0.trans q1).setCell _ (Or.inr (by show w.heap.size≤w.heap.size+1+1;omega)) _
 have qy1:Kb (w.heap.size+3) x1 y1:=by rw [hy1];exact (Kb.refl _ _).setCell _ (Or.inl (by show w.heap.size+1+1 < w.heap.size+3;omega)) _
 have zy1:y1.heap.size=x1.heap.size:=by rw [hy1];simp
 have HX1:Hid ((y1.heap[w.heap.size]? = some (.cells #[.string f.x,.int .i64 f.l,.int .i64 f.m,.bool f.r,vv,vu,vn] 55 (0,0))∧y1.heap[w.heap.size+1]? = some (.cells #[.string ⟨#[]⟩,.int .i64 0,.int .i64 0,.bool false,.slice none 0 0,.slice none 0 0,.slice none 0 0] 48 (0,0))∧y1.heap[w.heap.size+1+1]? = some (.cells #[.string f.x,.int .i64 f.l,.int .i64 f.m,.bool f.r,.slice p0 p l0,.slice p1 u l1,.slice none 0 0] 48 (0,0)))∧Kb 0 w y1∧Kb (w.heap.size+3) x1 y1∧y1.heap.size=x1.heap.size∧RowUT y0.heap.size x1 (.slice p1 u l1) u U∧w.heap.size+3≤y0.heap.size∧y0.heap.size≤x1.heap.size):=(⟨⟨c0,c1,c2⟩,ky1,qy1,zy1,r1,(by omega:w.heap.size+3≤y0.heap.size),zq1⟩:_∧_)
 have HW1:Hid (y1=x1.setCell ⟨w.heap.size+1+1,5,none⟩ (.slice p1 u l1)):=hy1
 clear b0x1 b1x1 b2x1 c0 c1 c2 ky1 qy1 zy1 r1 q1 zq1 hy1 zz1
 go_wp2_with fail
 rw [← (uh HW1)]
 clear HW1 o1 f1 n1
 obtain ⟨⟨b0,b1,b2⟩,ky1,qy1,zy1,r1,zu1,zv1⟩:=(uh HX1)
 clear HX1
 have zz2:w.heap.size+3≤y1.heap.size:=by omega
 replace s0:=s0.keep qy1
 have s1:=(r1.mono (show w.heap.size+3≤y0.heap.size from zu1)).keep qy1
 clear r1 qy1
 refine ((show ∀ W,Kb 0 w W→Calls Tryz.prog 45 #[vn] W fun e w'=>∃ v,e = .returned v∧RowNT W.heap.size w' (v) n N∧Kb 0 W w' from G2) y1 ky1).mono ?_
 rintro e x2 ⟨v2,rfl,r2,q2⟩
 clear G2
 have zq2:=q2.size
 have b0x2:x2.heap[w.heap.size]? = some (.cells #[.string f.x,.int .i64 f.l,.int .i64 f.m,.bool f.r,vv,vu,vn] 55 (0,0)):=(q2.block _ zq (by omega)).trans b0
 have b1x2:x2.heap[w.heap.size+1]? = some (.cells #[.string ⟨#[]⟩,.int .i64 0,.int .i64 0,.bool false,.slice none 0 0,.slice none 0 0,.slice none 0 0] 48 (0,0)):=(q2.block _ zq (by omega)).trans b1
 have b2x2:x2.heap[w.heap.size+1+1]? = some (.cells #[.string f.x,.int .i64 f.l,.int .i64 f.m,.bool f.r,.slice p0 p l0,.slice p1 u l1,.slice none 0 0] 48 (0,0)):=(q2.block _ zq (by omega)).trans b2
 clear b0 b1 b2
 obtain ⟨p2,l2,rfl,_⟩:=id r2
 replace s0:=s0.keep (q2.mono zq)
 replace s1:=s1.keep (q2.mono zq)
 have s2:=r2.mono (show w.heap.size+3≤y1.heap.size by omega)
 have KW:=ky1.trans q2
 have e0:x2.cell? ⟨w.heap.size+1+1,0,none⟩=some (.string f.x):=cell_of b2x2 rfl
 have e1:x2.cell? ⟨w.heap.size+1+1,1,none⟩=some (.int .i64 f.l):=cell_of b2x2 rfl
 have e2:x2.cell? ⟨w.heap.size+1+1,2,none⟩=some (.int .i64 f.m):=cell_of b2x2 rfl
 have e3:x2.cell? ⟨w.heap.size+1+1,3,none⟩=some (.bool f.r):=cell_of b2x2 rfl
 have e4:x2.cell? ⟨w.heap.size+1+1,4,none⟩=some (.slice p0 p l0):=cell_of b2x2 rfl
 have e5:x2.cell? ⟨w.heap.size+1+1,5,none⟩=some (.slice p1 u l1):=cell_of b2x2 rfl
 have e6:x2.cell? ⟨w.heap.size+1+1,6,none⟩=some (.slice none 0 0):=cell_of b2x2 rfl
 have fz:x2.frozen? ⟨w.heap.size+1+1,6,none⟩=false:=frozen_of b2x2
 have a0:x2.cell? ⟨w.heap.size+1,0,none⟩=some (.string ⟨#[]⟩):=cell_of b1x2 rfl
 have a1:x2.cell? ⟨w.heap.size+1,1,none⟩=some (.int .i64 0):=cell_of b1x2 rfl
 have a2:x2.cell? ⟨w.heap.size+1,2,none⟩=some (.int .i64 0):=cell_of b1x2 rfl
 have a3:x2.cell? ⟨w.heap.size+1,3,none⟩=some (.bool false):=cell_of b1x2 rfl
 have a4:x2.cell? ⟨w.heap.size+1,4,none⟩=some (.slice none 0 0):=cell_of b1x2 rfl
 have a5:x2.cell? ⟨w.heap.size+1,5,none⟩=some (.slice none 0 0):=cell_of b1x2 rfl
 have a6:x2.cell? ⟨w.heap.size+1,6,none⟩=some (.slice none 0 0):=cell_of b1x2 rfl
 have fy:∀ j,x2.frozen? ⟨w.heap.size+1,j,none⟩=false:=fun j=>frozen_of b1x2
 have HE:Hid (Kb 0 w x2∧RowBT 9 (w.heap.size+3) x2 (.slice p0 p l0) p (fun i=>.string (V i))∧RowUT (w.heap.size+3) x2 (.slice p1 u l1) u U∧RowNT (w.heap.size+3) x2 (.slice p2 n l2) n N):=(⟨KW,s0,s1,s2⟩:_∧_)
 clear KW s0 s1 s2 b0x2 b1x2 b2x2 r2 q2 zq2 zz2 ky1 zu0 zv0 zy0 zu1 zv1 zy1
 go_wp2_with fail
 refine bodyPost_ret (by simp [results,Tryz.results25,go_sem,a0,a1,a2,a3,a4,a5,a6];rfl) rfl ?_
 obtain ⟨KW,s0,s1,s2⟩:=(uh HE)
 clear HE
 have hq:=((((((((Kb.refl (w.heap.size+3) x2).setCell ⟨w.heap.size+1+1,6,none⟩ (Or.inl (show w.heap.size+1+1 < w.heap.size+3 by omega)) (.slice p2 n l2)).setCell ⟨w.heap.size+1,0,none⟩ (Or.inl (show w.heap.size+1 < w.heap.size+3 by omega)) (.string f.x)).setCell ⟨w.heap.size+1,1,none⟩ (Or.inl (show w.heap.size+1 < w.heap.size+3 by omega)) (.int .i64 f.l)).setCell ⟨w.heap.size+1,2,none⟩ (Or.inl (show w.heap.size+1 < w.heap.size+3 by omega)) (.int .i64 f.m)).setCell ⟨w.heap.size+1,3,none⟩ (Or.inl (show w.heap.size+1 < w.heap.size+3 by omega)) (.bool f.r)).setCell ⟨w.heap.size+1,4,none⟩ (Or.inl (show w.heap.size+1 < w.heap.size+3 by omega)) (.slice p0 p l0)).setCell ⟨w.heap.size+1,5,none⟩ (Or.inl (show w.heap.size+1 < w.heap.size+3 by omega)) (.slice p1 u l1)).setCell ⟨w.heap.size+1,6,none⟩ (Or.inl (show w.heap.size+1 < w.heap.size+3 by omega)) (.slice p2 n l2)
 have hk:=((((((((KW).setCell ⟨w.heap.size+1+1,6,none⟩ (Or.inr (show w.heap.size≤w.heap.size+1+1 by omega)) (.slice p2 n l2)).setCell ⟨w.heap.size+1,0,none⟩ (Or.inr (show w.heap.size≤w.heap.size+1 by omega)) (.string f.x)).setCell ⟨w.heap.size+1,1,none⟩ (Or.inr (show w.heap.size≤w.heap.size+1 by omega)) (.int .i64 f.l)).setCell ⟨w.heap.size+1,2,none⟩ (Or.inr (show w.heap.size≤w.heap.size+1 by omega)) (.int .i64 f.m)).setCell ⟨w.heap.size+1,3,none⟩ (Or.inr (show w.heap.size≤w.heap.size+1 by omega)) (.bool f.r)).setCell ⟨w.heap.size+1,4,none⟩ (Or.inr (show w.heap.size≤w.heap.size+1 by omega)) (.slice p0 p l0)).setCell ⟨w.heap.size+1,5,none⟩ (Or.inr (show w.heap.size≤w.heap.size+1 by omega)) (.slice p1 u l1)).setCell ⟨w.heap.size+1,6,none⟩ (Or.inr (show w.heap.size≤w.heap.size+1 by omega)) (.slice p2 n l2)
 exact ⟨_,_,_,rfl,(s0.keep hq).mono (by omega),(s1.keep hq).mono (by omega),(s2.keep hq).mono (by omega),hk⟩
theorem to_fnsT {va : Value} {n : Nat} {F : Nat → Fd} (w : World) (ha : RowF 0 w va n F) (hn : n ≤ 1048576) (hF : ∀ i, i < n → (F i).p ≤ 1048576 ∧ (F i).u ≤ 1048576 ∧ (F i).n ≤ 1048576 ∧ ∀ j, j < (F i).n → ((F i).N j).p ≤ 1048576 ∧ ((F i).N j).q ≤ 1048576) :
  Calls Tryz.prog 16 #[va] w fun e w'=>∃ v,e = .returned v∧RowFT w.heap.size w' v n F∧Kb 0 w w':=by
 obtain ⟨pa,ca,rfl,ha2⟩:=ha
 have hnI:(n:Int)≤1048576:=by omega
 have hmk:=run_make (P:=Tryz.prog) w 28 48 Tryz.t48 (.agg #[.string ⟨#[]⟩,.int .i64 0,.int .i64 0,.bool false,.slice none 0 0,.slice none 0 0,.slice none 0 0]) Tryz.underlying28 (by kernel_rfl) (by kernel_rfl) .i64 .i64 (n:Int) (n:Int) (by omega) (Int.le_refl _) (by show (112:Int)*(n:Int)≤_;omega) (by omega)
 rw [Int.toNat_natCast] at hmk
 obtain ⟨w1,hw1⟩:∃ w1,w1=w.alloc (.cells (madeCells (.agg #[.string ⟨#[]⟩,.int .i64 0,.int .i64 0,.bool false,.slice none 0 0,.slice none 0 0,.slice none 0 0]:Value).cells (n*7)) 48):=⟨_,rfl⟩
 have hmk2:=hmk
 rw [show n*Tryz.t48.size=n*7 from rfl,← hw1] at hmk2
 clear hmk
 have hk1:Kb 0 w w1:=by rw [hw1];exact kb_alloc _ _ _
 obtain ⟨G,hG⟩:∃ G,G=w.heap.size:=⟨_,rfl⟩
 have HI0:Hid (∃ E:Nat→List Value,Mk 7 w1 G n E 0 w1∧∀ j,j < 0→∃ vv vu vn,E j = [.string (F j).x,.int .i64 (F j).l,.int .i64 (F j).m,.bool (F j).r,vv,vu,vn]∧RowBT 9 (G+1) w1 vv (F j).p (fun t=>.string ((F j).V t))∧RowUT (G+1) w1 vu (F j).u (F j).U∧RowNT (G+1) w1 vn (F j).n (F j).N):=by
  refine ⟨fun _=>[],?_,fun j hj=>by omega⟩
  rw [hG,hw1]
  exact mk_zero w _ 7 _ n _ rfl
 have HB1:Hid (Blk w1 G 48 (n*7)):=by
  rw [hG,hw1]
  exact blk_made _ _ _ _ (by rw [size_madeCells];exact Nat.le_refl _)
 have HA:Hid ((0 < n→∃ a:Addr,pa=some a∧n≤ca∧0≤a.block∧∀ i,i < n→FnC 0 w (a.add (i*7)) (F i))∧Kb 0 w w1∧G=w.heap.size∧(∀ i,i < n→(F i).p≤1048576∧(F i).u≤1048576∧(F i).n≤1048576∧∀ j,j < (F i).n→((F i).N j).p≤1048576∧((F i).N j).q≤1048576)):=(⟨ha2,hk1,hG,hF⟩:_∧_)
 rw [← hG] at hmk2
 clear ha2 hk1 hw1 hn hG hF
 go_enter Tryz.func16,Tryz.ntmps16
 go_wp2_with fail
 go_loopw [4] (fun s4 wr=>∃ i:Nat,s4 = .int .i64 (i:Int)∧i≤n∧Hid (∃ E:Nat→List Value,Mk 7 w1 G n E i wr∧∀ j,j < i→∃ vv vu vn,E j = [.string (F j).x,.int .i64 (F j).l,.int .i64 (F j).m,.bool (F j).r,vv,vu,vn]∧RowBT 9 (G+1) wr vv (F j).p (fun t=>.string ((F j).V t))∧RowUT (G+1) wr vu (F j).u (F j).U∧RowNT (G+1) wr vn (F j).n (F j).N)) (fun s4 _=>n - (intOf s4).toNat)
 case atStart=>exact ⟨0,rfl,Nat.zero_le _,HI0⟩
 case round =>
  clear HI0 hmk2
  obtain ⟨i,rfl,hin,HI⟩:=hrel
  obtain ⟨E,hM,hR⟩:=(uh HI)
  have hA:=(uh HA)
  have hBW:Kb 0 w wr:=by
   have hG:=hA.2.2.1
   have hA2:=hA.2.1
   exact ⟨hM.os.trans hA2.os,hM.output.trans hA2.output,Nat.le_trans hA2.size hM.size,fun b _ hb=>(hM.block b (Nat.lt_of_lt_of_le hb hA2.size) (by omega)).trans (hA2.block b zq hb)⟩
  rcases Nat.lt_or_ge i n with hi | hi
  ·have hiI:(i:Int) < (n:Int):=by omega
   obtain ⟨a,rfl,hca,_,hra⟩:=hA.1 (by omega)
   obtain ⟨vv,vu,vn,hcel,hvv,hvu,hvn⟩:=(hra i hi).keep zq hBW
   obtain ⟨y1,y2,y3,y4⟩:=hA.2.2.2 i hi
   obtain ⟨d0,d1,d2,d3,d4,d5,d6⟩:=hcel
   have HT:Hid (Calls Tryz.prog 25 #[fnv (F i) vv vu vn] wr fun e w'=>∃ v0 v1 v2,e = .returned (fnv (F i) v0 v1 v2)∧RowBT 9 wr.heap.size w' v0 (F i).p (fun t=>.string ((F i).V t))∧RowUT wr.heap.size w' v1 (F i).u (F i).U∧RowNT wr.heap.size w' v2 (F i).n (F i).N∧Kb 0 wr w'):=to_fnT wr (fun W k=>to_strsT W (hvv.keep k).row y1) (fun W k=>to_upsT W (hvu.keep k) y2) (fun W k=>to_nodesT W (hvn.keep k) y3 y4)
   have HS:Hid (∀ w6 (v0 v1 v2:Value),Kb 0 wr w6→RowBT 9 wr.heap.size w6 v0 (F i).p (fun t=>.string ((F i).V t))→RowUT wr.heap.size w6 v1 (F i).u (F i).U→RowNT wr.heap.size w6 v2 (F i).n (F i).N→(∀ t,t < 7→∃ u,w6.cell? ⟨G,i*7+t,none⟩=some u)∧(∀ j,w6.frozen? ⟨G,j,none⟩=false)∧∃ E:Nat→List Value,Mk 7 w1 G n E (i+1) (setL w6 G (i*7) [.string (F i).x,.int .i64 (F i).l,.int .i64 (F i).m,.bool (F i).r,v0,v1,v2])∧∀ j,j < i+1→∃ vv vu vn,E j = [.string (F j).x,.int .i64 (F j).l,.int .i64 (F j).m,.bool (F j).r,vv,vu,vn]∧RowBT 9 (G+1) (setL w6 G (i*7) [.string (F i).x,.int .i64 (F i).l,.int .i64 (F i).m,.bool (F i).r,v0,v1,v2]) vv (F j).p (fun t=>.string ((F j).V t))∧RowUT (G+1) (setL w6 G (i*7) [.string (F i).x,.int .i64 (F i).l,.int .i64 (F i).m,.bool (F i).r,v0,v1,v2]) vu (F j).u (F j).U∧RowNT (G+1) (setL w6 G (i*7) [.string (F i).x,.int .i64 (F i).l,.int .i64 (F i).m,.bool (F i).r,v0,v1,v2]) vn (F j).n (F j).N):=by
    show ∀ w6 (v0 v1 v2:Value),_
    intro w6 v0 v1 v2 k6 r0 r1 r2
    have h6:=hM.kb k6
    have hgl:=Nat.lt_of_lt_of_le hM.gl hM.size
    have kl:Kb (G+1) w6 (setL w6 G (i*7) [.string (F i).x,.int .i64 (F i).l,.int .i64 (F i).m,.bool (F i).r,v0,v1,v2]):=⟨(setL_os _ _ _ _).1,(setL_os _ _ _ _).2,by rw [setL_size];exact Nat.le_refl _,fun k h1 _=>setL_block _ _ (by omega) _ _ _⟩
    refine ⟨h6.rest i (Nat.le_refl _) hi,h6.fz,_,h6.step hi rfl,fun j hj=>?_⟩
    by_cases e:j=i
    ·subst e
     rw [if_pos rfl]
     exact ⟨v0,v1,v2,rfl,(r0.mono (by omega)).keep kl,(r1.mono (by omega)).keep kl,(r2.mono (by omega)).keep kl⟩
    ·rw [if_neg e]
     obtain ⟨uv,uu,un,q1,q2,q3,q4⟩:=hR j (by omega)
     exact ⟨uv,uu,un,q1,(q2.keep (k6.mono zq)).keep kl,(q3.keep (k6.mono zq)).keep kl,(q4.keep (k6.mono zq)).keep kl⟩
   clear hA HA hM hR HI hra hin hBW hvv hvu hvn y1 y2 y3 y4
   go_wp2_with fail
   refine (uh HT).mono ?_
   rintro e w6 ⟨v0,v1,v2,rfl,r0,r1,r2,k6⟩
   obtain ⟨hc,hf,hT⟩:=(uh HS) w6 v0 v1 v2 k6 r0 r1 r2
   have HTT:Hid (∃ E:Nat→List Value,Mk 7 w1 G n E (i+1) (setL w6 G (i*7) [.string (F i).x,.int .i64 (F i).l,.int .i64 (F i).m,.bool (F i).r,v0,v1,v2])∧∀ j,j < i+1→∃ vv vu vn,E j = [.string (F j).x,.int .i64 (F j).l,.int .i64 (F j).m,.bool (F j).r,vv,vu,vn]∧RowBT 9 (G+1) (setL w6 G (i*7) [.string (F i).x,.int .i64 (F i).l,.int .i64 (F i).m,.bool (F i).r,v0,v1,v2]) vv (F j).p (fun t=>.string ((F j).V t))∧RowUT (G+1) (setL w6 G (i*7) [.string (F i).x,.int .i64 (F i).l,.int .i64 (F i).m,.bool (F i).r,v0,v1,v2]) vu (F j).u (F j).U∧RowNT (G+1) (setL w6 G (i*7) [.string (F i).x,.int .i64 (F i).l,.int .i64 (F i).m,.bool (F i).r,v0,v1,v2]) vn (F j).n (F j).N):=hT
   obtain ⟨u0,h0⟩:=hc 0 (by omega)
   obtain ⟨u1,h1⟩:=hc 1 (by omega)
   obtain ⟨u2,h2⟩:=hc 2 (by omega)
   obtain ⟨u3,h3⟩:=hc 3 (by omega)
   obtain ⟨u4,h4⟩:=hc 4 (by omega)
   obtain ⟨u5,h5⟩:=hc 5 (by omega)
   obtain ⟨u6,h6⟩:=hc 6 (by omega)
   rw [Nat.add_zero] at h0
   have e0:=hf (i*7)
   have e1:=hf (i*7+1)
   have e2:=hf (i*7+2)
   have e3:=hf (i*7+3)
   have e4:=hf (i*7+4)
   have e5:=hf (i*7+5)
   have e6:=hf (i*7+6)
   clear hc hf hT HS HT
   obtain ⟨p0,l0,rfl,_⟩:=id r0
   obtain ⟨p1,l1,rfl,_⟩:=id r1
   obtain ⟨p2,l2,rfl,_⟩:=id r2
   clear k6 r0 r1 r2 d0 d1 d2 d3 d4 d5 d6
   unfold fnv
   go_wp2_with fail
   go_roundw
   case rel=>exact ⟨i+1,by go_num,by omega,HTT⟩
   case measure=>simp [intOf];omega
  ·obtain rfl:i=n:=by omega
   have HE:Hid (Mk 7 w1 G i E i wr∧(∀ j,j < i→∃ vv vu vn,E j = [.string (F j).x,.int .i64 (F j).l,.int .i64 (F j).m,.bool (F j).r,vv,vu,vn]∧RowBT 9 (G+1) wr vv (F j).p (fun t=>.string ((F j).V t))∧RowUT (G+1) wr vu (F j).u (F j).U∧RowNT (G+1) wr vn (F j).n (F j).N)∧Kb 0 w wr∧G=w.heap.size):=(⟨hM,hR,hBW,hA.2.2.1⟩:_∧_∧_∧_)
   clear HI hM hR hA HA hBW
   go_wp2_with fail
   go_ret
   obtain ⟨hM,hR,hB,hG⟩:=(uh HE)
   refine ⟨_,rfl,⟨_,_,rfl,G,rfl,rfl,(by omega),hM.bt _ _ HB1,fun j hj=>?_⟩,hB⟩
   have hce:=hM.ce j hj
   obtain ⟨uv,uu,un,q1,q2,q3,q4⟩:=hR j hj
   rw [q1] at hce
   exact ⟨uv,uu,un,CelF.of hce,q2.mono (by omega),q3.mono (by omega),q4.mono (by omega)⟩
theorem to_unit0T {va : Value} {nf : Nat} {F : Nat → Fd} (w : World)
  (g0:∀ W,Kb 0 w W→Calls Tryz.prog 16 #[va] W fun e w'=>∃ v,e = .returned v∧RowFT W.heap.size w' (v) nf F∧Kb 0 W w') :
  Calls Tryz.prog 6 #[.agg #[va]] w fun e w'=>∃ v0,e = .returned (.agg #[v0])∧RowFT w.heap.size w' (v0) nf F∧Kb 0 w w':=by
 have G0:Hid (∀ W,Kb 0 w W→Calls Tryz.prog 16 #[va] W fun e w'=>∃ v,e = .returned v∧RowFT W.heap.size w' (v) nf F∧Kb 0 W w'):=g0
 clear g0
 go_enter Tryz.func6,Tryz.ntmps6
 go_wp2_with fail
 obtain ⟨w3,hw3⟩:∃ w3,w3=((w.alloc (.cells #[va] 24)).alloc (.cells #[.slice none 0 0] 30)).alloc (.cells #[.slice none 0 0] 30):=⟨_,rfl⟩
 rw [← hw3]
 obtain ⟨b0,b1,b2,z3,k3⟩:=three_new w _ _ _ _ _ _ w3 hw3
 clear hw3
 refine ((show ∀ W,Kb 0 w W→Calls Tryz.prog 16 #[va] W fun e w'=>∃ v,e = .returned v∧RowFT W.heap.size w' (v) nf F∧Kb 0 W w' from G0) w3 k3).mono ?_
 rintro e x0 ⟨v0,rfl,r0,q0⟩
 clear G0
 have zq0:=q0.size
 have zz0:w.heap.size+3≤w3.heap.size:=by omega
 have b0x0:x0.heap[w.heap.size]? = some (.cells #[va] 24 (0,0)):=(q0.block _ zq (by omega)).trans b0
 have b1x0:x0.heap[w.heap.size+1]? = some (.cells #[.slice none 0 0] 30 (0,0)):=(q0.block _ zq (by omega)).trans b1
 have b2x0:x0.heap[w.heap.size+1+1]? = some (.cells #[.slice none 0 0] 30 (0,0)):=(q0.block _ zq (by omega)).trans b2
 clear b0 b1 b2
 obtain ⟨p0,l0,rfl,_⟩:=id r0
 have s0:=r0.mono (show w.heap.size+3≤w3.heap.size by omega)
 have KW:=k3.trans q0
 have e0:x0.cell? ⟨w.heap.size+1+1,0,none⟩=some (.slice none 0 0):=cell_of b2x0 rfl
 have fz:x0.frozen? ⟨w.heap.size+1+1,0,none⟩=false:=frozen_of b2x0
 have a0:x0.cell? ⟨w.heap.size+1,0,none⟩=some (.slice none 0 0):=cell_of b1x0 rfl
 have fy:∀ j,x0.frozen? ⟨w.heap.size+1,j,none⟩=false:=fun j=>frozen_of b1x0
 have HE:Hid (Kb 0 w x0∧RowFT (w.heap.size+3) x0 (.slice p0 nf l0) nf F):=(⟨KW,s0⟩:_∧_)
 clear KW s0 b0x0 b1x0 b2x0 r0 q0 zq0 zz0 k3 z3
 go_wp2_with fail
 refine bodyPost_ret (by simp [results,Tryz.results6,go_sem,a0];rfl) rfl ?_
 obtain ⟨KW,s0⟩:=(uh HE)
 clear HE
 have hq:=((Kb.refl (w.heap.size+3) x0).setCell ⟨w.heap.size+1+1,0,none⟩ (Or.inl (show w.heap.size+1+1 < w.heap.size+3 by omega)) (.slice p0 nf l0)).setCell ⟨w.heap.size+1,0,none⟩ (Or.inl (show w.heap.size+1 < w.heap.size+3 by omega)) (.slice p0 nf l0)
 have hk:=((KW).setCell ⟨w.heap.size+1+1,0,none⟩ (Or.inr (show w.heap.size≤w.heap.size+1+1 by omega)) (.slice p0 nf l0)).setCell ⟨w.heap.size+1,0,none⟩ (Or.inr (show w.heap.size≤w.heap.size+1 by omega)) (.slice p0 nf l0)
 exact ⟨_,rfl,(s0.keep hq).mono (by omega),hk⟩
theorem to_unitT {va:Value} {nf:Nat} {F:Nat→Fd} (w:World) (ha:RowF 0 w va nf F) (hb:Bd nf F):Calls Tryz.prog 6 #[.agg #[va]] w fun e w'=>∃ v,e = .returned (.agg #[v])∧RowFT w.heap.size w' v nf F∧Kb 0 w w' :=
 to_unit0T w (fun W k=>to_fnsT W (ha.keep k) hb.hnf (fun i hi=>⟨hb.hp i hi,hb.hu i hi,hb.hn i hi,fun j hj=>⟨(hb.hN i hi j hj).1,(hb.hN i hi j hj).2.1⟩⟩))
structure K1 (g:Nat) (W w':World):Prop where
 os:w'.os=W.os
 output:w'.output=W.output
 size:W.heap.size≤w'.heap.size
 block:∀ b,b < W.heap.size→b ≠ g→w'.heap[b]? = W.heap[b]?
 cell:∀ j,(∃ u,W.cell? ⟨g,j,none⟩=some u)→∃ u,w'.cell? ⟨g,j,none⟩=some u
 fz:∀ j,g < W.heap.size→w'.frozen? ⟨g,j,none⟩=W.frozen? ⟨g,j,none⟩
theorem K1.refl (g:Nat) (W:World):K1 g W W:=⟨rfl,rfl,Nat.le_refl _,fun _ _ _=>rfl,fun _ h=>h,fun _ _=>rfl⟩
theorem K1.trans {g:Nat} {a b c:World} (h:K1 g a b) (k:K1 g b c):K1 g a c :=
 ⟨k.os.trans h.os,k.output.trans h.output,Nat.le_trans h.size k.size,fun i hi hg=>(k.block i (Nat.lt_of_lt_of_le hi h.size) hg).trans (h.block i hi hg),fun j hj=>k.cell j (h.cell j hj),fun j hg=>(k.fz j (Nat.lt_of_lt_of_le hg h.size)).trans (h.fz j hg)⟩
theorem K1.of_kb {g:Nat} {W w':World} (k:Kb 0 W w'):K1 g W w' :=
 ⟨k.os,k.output,k.size,fun b hb _=>k.block b zq hb,fun j ⟨u,hu⟩=>⟨u,k.cell hu⟩,fun j hg=>k.frozen zq hg⟩
theorem K1.set1 (g:Nat) (W:World) (j:Nat) (v:Value):K1 g W (W.setCell ⟨g,j,none⟩ v):=by
 refine ⟨rfl,rfl,by simp [World.setCell],fun b _ hb=>Below.heap_setCell _ _ _ _ hb,fun i ⟨u,hu⟩=>?_,fun i _=>?_⟩
 ·by_cases e:i=j
  ·subst e
   exact ⟨v,set_eq _ _ _ _ _ hu⟩
  ·exact ⟨u,by rw [set_ne _ _ _ _ _ (by omega)];exact hu⟩
 ·exact set_fz _ _ _ _ _
theorem mark_ups {W : World} {g n : Nat} (k : Int) (h1 : 1 ≤ k) (h2 : k ≤ 500000000) (hn : n ≤ 1048576) (hc : ∀ j, j < n * 2 → ∃ u, W.cell? ⟨g, j, none⟩ = some u) (hf : ∀ j, W.frozen? ⟨g, j, none⟩ = false) (hg : g < W.heap.size) :
  Calls Tryz.prog 31 #[.slice (some ⟨g,0,none⟩) n n,.int .i64 k] W fun e w'=>e = .returned (.int .i64 (k+2*(n:Int)))∧K1 g W w':=by
 have hst:=hst0
 have HH:Hid ((∀ j,j < n*2→∃ u,W.cell? ⟨g,j,none⟩=some u)∧(∀ j,W.frozen? ⟨g,j,none⟩=false)∧g < W.heap.size):=(⟨hc,hf,hg⟩:_∧_)
 have hnI:(n:Int)≤1048576:=by omega
 clear hc hf hg hn
 go_enter Tryz.func31,Tryz.ntmps31
 go_wp2_with fail
 go_loopw [1,5] (fun s1 s5 wr=>∃ i:Nat,i≤n∧s5 = .int .i64 (i:Int)∧s1 = .int .i64 (k+2*(i:Int))∧Hid (K1 g W wr)) (fun _ s5 _=>n - (intOf s5).toNat)
 case atStart=>exact ⟨0,by omega,rfl,by simp,K1.refl _ _⟩
 case round =>
  obtain ⟨i,hi,rfl,rfl,HK⟩:=hrel
  obtain ⟨hc,hf,hg⟩:=(uh HH)
  by_cases hin:i < n
  ·have hI:(i:Int) < (n:Int):=by omega
   have hb:i*2+2≤n*2:=by have:=Nat.mul_le_mul_right 2 (show i+1≤n from hin);rw [Nat.succ_mul] at this;exact this
   obtain ⟨K,hK⟩:∃ K:Int,K=k+2*(i:Int):=⟨_,rfl⟩
   have hK1 : 1≤K:=by omega
   have hK2:K≤600000000:=by omega
   have HKK:Hid (K=k+2*(i:Int)∧i*2+2≤n*2):=(⟨hK,hb⟩:_∧_)
   rw [← hK]
   clear hc hf hg hK hb
   obtain ⟨u0,cu0⟩:=(uh HK).cell (i*2+0) ((uh HH).1 _ (by have:=(uh HKK).2;omega))
   have cf0:wr.frozen? ⟨g,i*2+0,none⟩=false:=((uh HK).fz _ (uh HH).2.2).trans ((uh HH).2.1 _)
   rw [Nat.add_zero] at cu0 cf0
   go_upto_region 5 with fail
   generalize hy:World.setCell wr _ _=y0
   have HK0:Hid (K1 g W y0):=by rw [← hy];exact (uh HK).trans (K1.set1 _ _ _ _)
   clear hy cu0 cf0 u0 HK
   obtain ⟨u1,cu1⟩:=(uh HK0).cell (i*2+1) ((uh HH).1 _ (by have:=(uh HKK).2;omega))
   have cf1:y0.frozen? ⟨g,i*2+1,none⟩=false:=((uh HK0).fz _ (uh HH).2.2).trans ((uh HH).2.1 _)
   go_upto_region 7 with fail
   generalize hy:World.setCell y0 _ _=y1
   have HK1:Hid (K1 g W y1):=by rw [← hy];exact (uh HK0).trans (K1.set1 _ _ _ _)
   clear hy cu1 cf1 u1 HK0
   go_wp2_with fail
   go_roundw
   case rel=>exact ⟨i+1,by omega,by go_num,by rw [(uh HKK).1];congr 1;omega,HK1⟩
   case measure=>simp [intOf];omega
  ·obtain rfl:i=n:=by omega
   have hI:¬ (i:Int) < (i:Int):=by omega
   clear hc hf hg HH
   go_wp2_with fail
   go_ret
   exact ⟨rfl,HK⟩
theorem mark_ints1 {W : World} {g n : Nat} (k : Int) (h1 : 1 ≤ k) (h2 : k ≤ 500000000) (hn : n ≤ 1048576) (hc : ∀ j, j < n → ∃ u, W.cell? ⟨g, j, none⟩ = some u) (hf : ∀ j, W.frozen? ⟨g, j, none⟩ = false) (hg : g < W.heap.size) :
  Calls Tryz.prog 50 #[.slice (some ⟨g,0,none⟩) n n,.int .i64 k] W fun e w'=>e = .returned (.int .i64 (k+(n:Int)))∧K1 g W w':=by
 have HH:Hid ((∀ j,j < n→∃ u,W.cell? ⟨g,j,none⟩=some u)∧(∀ j,W.frozen? ⟨g,j,none⟩=false)∧g < W.heap.size):=(⟨hc,hf,hg⟩:_∧_)
 have hnI:(n:Int)≤1048576:=by omega
 clear hc hf hg hn
 go_enter Tryz.func50,Tryz.ntmps50
 go_wp2_with fail
 go_loopw [1,5] (fun s1 s5 wr=>∃ i:Nat,i≤n∧s5 = .int .i64 (i:Int)∧s1 = .int .i64 (k+(i:Int))∧Hid (K1 g W wr)) (fun _ s5 _=>n - (intOf s5).toNat)
 case atStart=>exact ⟨0,by omega,rfl,by simp,K1.refl _ _⟩
 case round =>
  obtain ⟨i,hi,rfl,rfl,HK⟩:=hrel
  by_cases hin:i < n
  ·have hI:(i:Int) < (n:Int):=by omega
   obtain ⟨K,hK⟩:∃ K:Int,K=k+(i:Int):=⟨_,rfl⟩
   have hK1 : 1≤K:=by omega
   have hK2:K≤600000000:=by omega
   have HKK:Hid (K=k+(i:Int)):=hK
   rw [← hK]
   clear hK
   obtain ⟨u0,cu0⟩:=(uh HK).cell i ((uh HH).1 _ hin)
   have cf0:wr.frozen? ⟨g,i,none⟩=false:=((uh HK).fz _ (uh HH).2.2).trans ((uh HH).2.1 _)
   go_upto_region 5 with fail
   generalize hy:World.setCell wr _ _=y0
   have HK0:Hid (K1 g W y0):=by rw [← hy];exact (uh HK).trans (K1.set1 _ _ _ _)
   clear hy cu0 cf0 u0 HK
   go_wp2_with fail
   go_roundw
   case rel=>exact ⟨i+1,by omega,by go_num,by rw [show K=k+(i:Int) from HKK];congr 1;omega,HK0⟩
   case measure=>simp [intOf];omega
  ·obtain rfl:i=n:=by omega
   have hI:¬ (i:Int) < (i:Int):=by omega
   clear HH
   go_wp2_with fail
   go_ret
   exact ⟨rfl,HK⟩
theorem mark_strs1 {W : World} {g n : Nat} (k : Int) (h1 : 1 ≤ k) (h2 : k ≤ 500000000) (hn : n ≤ 1048576) (hc : ∀ j, j < n → ∃ u, W.cell? ⟨g, j, none⟩ = some u) (hf : ∀ j, W.frozen? ⟨g, j, none⟩ = false) (hg : g < W.heap.size) :
  Calls Tryz.prog 30 #[.slice (some ⟨g,0,none⟩) n n,.int .i64 k] W fun e w'=>e = .returned (.int .i64 (k+(n:Int)))∧K1 g W w':=by
 have HH:Hid ((∀ j,j < n→∃ u,W.cell? ⟨g,j,none⟩=some u)∧(∀ j,W.frozen? ⟨g,j,none⟩=false)∧g < W.heap.size):=(⟨hc,hf,hg⟩:_∧_)
 have hnI:(n:Int)≤1048576:=by omega
 clear hc hf hg hn
 go_enter Tryz.func30,Tryz.ntmps30
 go_wp2_with fail
 go_loopw [1,5] (fun s1 s5 wr=>∃ i:Nat,i≤n∧s5 = .int .i64 (i:Int)∧s1 = .int .i64 (k+(i:Int))∧Hid (K1 g W wr)) (fun _ s5 _=>n - (intOf s5).toNat)
 case atStart=>exact ⟨0,by omega,rfl,by simp,K1.refl _ _⟩
 case round =>
  obtain ⟨i,hi,rfl,rfl,HK⟩:=hrel
  by_cases hin:i < n
  ·have hI:(i:Int) < (n:Int):=by omega
   obtain ⟨K,hK⟩:∃ K:Int,K=k+(i:Int):=⟨_,rfl⟩
   have hK1 : 1≤K:=by omega
   have hK2:K≤600000000:=by omega
   have HKK:Hid (K=k+(i:Int)):=hK
   rw [← hK]
   clear hK
   obtain ⟨u0,cu0⟩:=(uh HK).cell i ((uh HH).1 _ hin)
   have cf0:wr.frozen? ⟨g,i,none⟩=false:=((uh HK).fz _ (uh HH).2.2).trans ((uh HH).2.1 _)
   have HT:=mark_text (K).toNat (by omega) (by omega) wr
   rw [Int.toNat_of_nonneg (by omega)] at HT
   generalize (⟨#[109]⟩ ++ mtl (K).toNat ⟨#[]⟩:ByteArray)=tx0 at HT
   have HCU:Hid (∀ W',Below wr.heap.size wr W'→W'.cell? ⟨g,i,none⟩=some u0∧W'.frozen? ⟨g,i,none⟩=false∧K1 g W W'):=(fun W' b=>⟨(Kb.of_below b 0).cell cu0,((Kb.of_below b 0).frozen zq (World.block_lt_of_cell? _ _ cu0)).trans cf0,(uh HK).trans (K1.of_kb (Kb.of_below b 0))⟩:∀ W',_)
   clear cu0 cf0
   go_upto_region 5 with (go_at_call 29;refine HT.mono ?_;rintro e z0 ⟨rfl,bz⟩;obtain ⟨cu0,cf0,kz⟩:=(uh HCU) z0 bz)
   have HKZ:Hid (K1 g W z0):=kz
   clear HT bz HCU kz HK
   generalize hy:World.setCell z0 _ _=y0
   have HK0:Hid (K1 g W y0):=by rw [← hy];exact (uh HKZ).trans (K1.set1 _ _ _ _)
   clear hy cu0 cf0 u0 HKZ
   go_wp2_with fail
   go_roundw
   case rel=>exact ⟨i+1,by omega,by go_num,by rw [show K=k+(i:Int) from HKK];congr 1;omega,HK0⟩
   case measure=>simp [intOf];omega
  ·obtain rfl:i=n:=by omega
   have hI:¬ (i:Int) < (i:Int):=by omega
   clear HH
   go_wp2_with fail
   go_ret
   exact ⟨rfl,HK⟩
structure Km (S:Nat→Prop) (g B E:Nat) (W w':World):Prop where
 os:w'.os=W.os
 output:w'.output=W.output
 size:W.heap.size≤w'.heap.size
 block:∀ b,b < W.heap.size→b < B∨E≤b→w'.heap[b]? = W.heap[b]?
 ex:∀ b j,(∃ u,W.cell? ⟨b,j,none⟩=some u)→∃ u,w'.cell? ⟨b,j,none⟩=some u
 fz:∀ b j,b < W.heap.size→w'.frozen? ⟨b,j,none⟩=W.frozen? ⟨b,j,none⟩
 sg:g < W.heap.size→∀ j,4≤j % 7→w'.cell? ⟨g,j,none⟩=W.cell? ⟨g,j,none⟩
 sS:∀ G,S G→G < W.heap.size→∀ j,6≤j % 8→w'.cell? ⟨G,j,none⟩=W.cell? ⟨G,j,none⟩
theorem Km.refl (S:Nat→Prop) (g B E:Nat) (W:World):Km S g B E W W:=⟨rfl,rfl,Nat.le_refl _,fun _ _ _=>rfl,fun _ _ h=>h,fun _ _ _=>rfl,fun _ _ _=>rfl,fun _ _ _ _ _=>rfl⟩
theorem Km.trans {S:Nat→Prop} {g B E:Nat} {a b c:World} (h:Km S g B E a b) (k:Km S g B E b c):Km S g B E a c :=
 ⟨k.os.trans h.os,k.output.trans h.output,Nat.le_trans h.size k.size,fun i hi hb=>(k.block i (Nat.lt_of_lt_of_le hi h.size) hb).trans (h.block i hi hb),fun b j hj=>k.ex b j (h.ex b j hj),fun b j hb=>(k.fz b j (Nat.lt_of_lt_of_le hb h.size)).trans (h.fz b j hb),fun hg j hj=>(k.sg (Nat.lt_of_lt_of_le hg h.size) j hj).trans (h.sg hg j hj),fun G hG hl j hj=>(k.sS G hG (Nat.lt_of_lt_of_le hl h.size) j hj).trans (h.sS G hG hl j hj)⟩
theorem Km.of_kb {S:Nat→Prop} {g B E:Nat} {a c:World} (k:Kb 0 a c):Km S g B E a c :=
 ⟨k.os,k.output,k.size,fun b hb _=>k.block b zq hb,fun b j ⟨u,hu⟩=>⟨u,k.cell hu⟩,fun b j hb=>k.frozen zq hb,fun hg j _=>World.cell?_of_block (k.block g zq hg),fun G _ hl j _=>World.cell?_of_block (k.block G zq hl)⟩
theorem Km.of_k1 {S:Nat→Prop} {g B E b:Nat} {a c:World} (hb:B≤b∧b < E) (hg:b ≠ g) (hS:¬ S b) (k:K1 b a c):Km S g B E a c:=by
 refine ⟨k.os,k.output,k.size,fun i hi h=>k.block i hi (by omega),fun i j hj=>?_,fun i j hi=>?_,fun hl j _=>World.cell?_of_block (k.block g hl (fun e=>hg e.symm)),fun G hG hl j _=>World.cell?_of_block (k.block G hl (fun e=>hS (e ▸ hG)))⟩
 ·by_cases e:i=b
  ·subst e;exact k.cell j hj
  ·obtain ⟨u,hu⟩:=hj
   exact ⟨u,(World.cell?_of_block (k.block i (lt_of_cell hu) e)).trans hu⟩
 ·by_cases e:i=b
  ·subst e;exact k.fz j hi
  ·exact World.frozen?_of_block (k.block i hi e)
theorem Km.of_set {S:Nat→Prop} {g B E b:Nat} {a:World} {o:Nat} {v:Value} (hb:B≤b∧b < E) (hg:b=g→o % 7 < 4) (hS:S b→o % 8 < 6):Km S g B E a (a.setCell ⟨b,o,none⟩ v):=by
 have k:=K1.set1 b a o v
 refine ⟨k.os,k.output,k.size,fun i hi h=>k.block i hi (by omega),fun i j hj=>?_,fun i j hi=>?_,fun hl j hj=>?_,fun G hG hl j hj=>?_⟩
 ·by_cases e:i=b
  ·subst e;exact k.cell j hj
  ·obtain ⟨u,hu⟩:=hj
   exact ⟨u,(World.cell?_of_block (k.block i (lt_of_cell hu) e)).trans hu⟩
 ·by_cases e:i=b
  ·subst e;exact k.fz j hi
  ·exact World.frozen?_of_block (k.block i hi e)
 ·by_cases e:g=b
  ·subst e
   exact set_ne _ _ _ _ _ (fun e'=>by have:=hg rfl;rw [e'] at hj;omega)
  ·exact World.cell?_of_block (k.block g hl e)
 ·by_cases e:G=b
  ·subst e
   exact set_ne _ _ _ _ _ (fun e'=>by have:=hS hG;rw [e'] at hj;omega)
  ·exact World.cell?_of_block (k.block G hl e)
def Lf (S:Nat→Prop) (g B E:Nat) (W:World) (v:Value) (n m:Nat):Prop:=∃ b,v = .slice (some ⟨b,0,none⟩) n n∧B≤b∧b < E∧b ≠ g∧¬ S b∧(∀ j,j < m→∃ u,W.cell? ⟨b,j,none⟩=some u)∧∀ j,W.frozen? ⟨b,j,none⟩=false
theorem Lf.km {S:Nat→Prop} {g B E:Nat} {W W':World} {v:Value} {n m:Nat} (h:Lf S g B E W v n m) (hE:E≤W.heap.size) (k:Km S g B E W W'):Lf S g B E W' v n m:=by
 obtain ⟨b,h1,h2,h3,h4,h5,h6,h7⟩:=h
 exact ⟨b,h1,h2,h3,h4,h5,fun j hj=>k.ex b j (h6 j hj),fun j=>(k.fz b j (by omega)).trans (h7 j)⟩
structure Nds (S:Nat→Prop) (g B E:Nat) (W:World) (G n:Nat) (N:Nat→Nd):Prop where
 inS:S G
 lo:B≤G
 hi:G < E
 ng:G ≠ g
 ce:∀ j,j < n*8→∃ u,W.cell? ⟨G,j,none⟩=some u
 fz:∀ j,W.frozen? ⟨G,j,none⟩=false
 rw:∀ j,j < n→∃ vr vk,W.cell? ⟨G,j*8+6,none⟩=some vr∧W.cell? ⟨G,j*8+7,none⟩=some vk∧Lf S g B E W vr (N j).p (N j).p∧Lf S g B E W vk (N j).q (N j).q
theorem Nds.km {S:Nat→Prop} {g B E:Nat} {W W':World} {G n:Nat} {N:Nat→Nd} (h:Nds S g B E W G n N) (hE:E≤W.heap.size) (k:Km S g B E W W'):Nds S g B E W' G n N:=by
 have hl:G < W.heap.size:=Nat.lt_of_lt_of_le h.hi hE
 refine ⟨h.inS,h.lo,h.hi,h.ng,fun j hj=>k.ex G j (h.ce j hj),fun j=>(k.fz G j hl).trans (h.fz j),fun j hj=>?_⟩
 obtain ⟨vr,vk,c1,c2,r1,r2⟩:=h.rw j hj
 exact ⟨vr,vk,(k.sS G h.inS hl _ (by omega)).trans c1,(k.sS G h.inS hl _ (by omega)).trans c2,r1.km hE k,r2.km hE k⟩
structure Ust (S:Nat→Prop) (g B E nf:Nat) (F:Nat→Fd) (W:World):Prop where
 gB:B≤g
 gE:g < E
 Es:E≤W.heap.size
 ns:¬ S g
 fz:∀ j,W.frozen? ⟨g,j,none⟩=false
 ce:∀ j,j < nf*7→∃ u,W.cell? ⟨g,j,none⟩=some u
 rw:∀ i,i < nf→∃ vv vu G,(W.cell? ⟨g,i*7+4,none⟩=some vv∧W.cell? ⟨g,i*7+5,none⟩=some vu∧W.cell? ⟨g,i*7+6,none⟩=some (.slice (some ⟨G,0,none⟩) (F i).n (F i).n))∧Lf S g B E W vv (F i).p (F i).p∧Lf S g B E W vu (F i).u ((F i).u*2)∧Nds S g B E W G (F i).n (F i).N
theorem Ust.km {S:Nat→Prop} {g B E nf:Nat} {F:Nat→Fd} {W W':World} (h:Ust S g B E nf F W) (k:Km S g B E W W'):Ust S g B E nf F W':=by
 have hl:g < W.heap.size:=Nat.lt_of_lt_of_le h.gE h.Es
 refine ⟨h.gB,h.gE,Nat.le_trans h.Es k.size,h.ns,fun j=>(k.fz g j hl).trans (h.fz j),fun j hj=>k.ex g j (h.ce j hj),fun i hi=>?_⟩
 obtain ⟨vv,vu,G,⟨c1,c2,c3⟩,r1,r2,r3⟩:=h.rw i hi
 exact ⟨vv,vu,G,⟨(k.sg hl _ (by omega)).trans c1,(k.sg hl _ (by omega)).trans c2,(k.sg hl _ (by omega)).trans c3⟩,r1.km h.Es k,r2.km h.Es k,r3.km h.Es k⟩
theorem ust_of {B n:Nat} {W:World} {v:Value} {F:Nat→Fd} (h:RowFT B W v n F):∃ S g,v = .slice (some ⟨g,0,none⟩) n n∧Ust S g B W.heap.size n F W:=by
 obtain ⟨pa,cap,rfl,g,rfl,rfl,h5,h6,h7⟩:=h
 refine ⟨fun b=>Blk W b 59 0,g,rfl,h5,h6.lt,Nat.le_refl _,fun q=>h6.ne q (by decide) rfl,h6.fz,fun j hj=>h6.ex hj,fun i hi=>?_⟩
 have lf:∀ {t:TypeId} {v:Value} {n m:Nat} {b:Nat},t ≠ 48→t ≠ 59→B≤b→Blk W b t m→Lf (fun b=>Blk W b 59 0) g B W.heap.size W (.slice (some ⟨b,0,none⟩) n n) n m:=fun {t v n m b} t1 t2 hb hk=>⟨b,rfl,hb,hk.lt,fun e=>hk.ne (e ▸ h6) t1 rfl,fun q=>hk.ne q t2 rfl,fun j hj=>hk.ex hj,hk.fz⟩
 obtain ⟨vv,vu,vn,⟨d0,d1,d2,d3,d4,d5,d6⟩,⟨pv,cv,rfl,rv,gv,rfl,rfl,a1,a2⟩,⟨pu,cu,rfl,ru,gu,rfl,rfl,b1,b2⟩,⟨pn,cn,rfl,G,rfl,rfl,e1,e2,e3⟩⟩:=h7 i hi
 refine ⟨_,_,G,⟨d4,d5,d6⟩,lf (v:=.slice none 0 0) (by decide) (by decide) a1 a2,lf (v:=.slice none 0 0) (by decide) (by decide) b1 b2,?_⟩
 have hN:Blk W G 59 0:=by
  obtain ⟨c,q1,_⟩:=e2
  exact ⟨c,q1,Nat.zero_le _⟩
 refine ⟨hN,e1,e2.lt,fun e=>e2.ne (e ▸ h6) (by decide) rfl,fun j hj=>e2.ex hj,e2.fz,fun j hj=>?_⟩
 obtain ⟨vr,vk,⟨f0,f1,f2,f3,f4,f5,f6,f7⟩,⟨pr,cr,rfl,rr,gr,rfl,rfl,x1,x2⟩,⟨pk,ck,rfl,rk,gk,rfl,rfl,y1,y2⟩⟩:=e3 j hj
 exact ⟨_,_,f6,f7,lf (v:=.slice none 0 0) (by decide) (by decide) x1 x2,lf (v:=.slice none 0 0) (by decide) (by decide) y1 y2⟩
end Go.Proofs.YtfpidccjcemcjaaGreat.Fo
