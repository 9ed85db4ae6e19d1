import Derived.Test.YtnmeemjoodoalaaGreatDoorMEfb
set_option maxHeartbeats 8000000
namespace Go.Proofs.YtnmeemjoodoalaaGreatDoor.Fo
open Go.ChangeShapes Go.WideShapes Go.ChangeAt Go.RowKit
set_option linter.unusedVariables false
set_option maxRecDepth 100000
theorem to_proF {f : Pd} {vu vc vn vd : Value} {u c n d : Nat} {U : Nat → Bool × Int} {C : Nat → Vv} {N : Nat → Iv} {D : Nat → Mv} (w : World)
    (g0 : ∀ W,Kb 0 w W → Calls Tryz.prog 101 #[vu] W fun e w'=>∃ v,e = .returned v ∧ RowUF W.heap.size w' (v) u U ∧ Kb 0 W w')
    (g1 : ∀ W,Kb 0 w W → Calls Tryz.prog 102 #[vc] W fun e w'=>∃ v,e = .returned v ∧ RowWF W.heap.size w' (v) c C ∧ Kb 0 W w')
    (g2 : ∀ W,Kb 0 w W → Calls Tryz.prog 103 #[vn] W fun e w'=>∃ v,e = .returned v ∧ RowIF W.heap.size w' (v) n N ∧ Kb 0 W w')
    (g3 : ∀ W,Kb 0 w W → Calls Tryz.prog 104 #[vd] W fun e w'=>∃ v,e = .returned v ∧ RowMF W.heap.size w' (v) d D ∧ Kb 0 W w') :
    Calls Tryz.prog 44 #[prov f vu vc vn vd] w fun e w'=>∃ v0 v1 v2 v3,e = .returned (prov f v0 v1 v2 v3) ∧ RowUF w.heap.size w' (v0) u U ∧ RowWF w.heap.size w' (v1) c C ∧ RowIF w.heap.size w' (v2) n N ∧ RowMF w.heap.size w' (v3) d D ∧ Kb 0 w w':=by
  have G0 : Hid (∀ W,Kb 0 w W → Calls Tryz.prog 101 #[vu] W fun e w'=>∃ v,e = .returned v ∧ RowUF W.heap.size w' (v) u U ∧ Kb 0 W w'):=g0
  have G1 : Hid (∀ W,Kb 0 w W → Calls Tryz.prog 102 #[vc] W fun e w'=>∃ v,e = .returned v ∧ RowWF W.heap.size w' (v) c C ∧ Kb 0 W w'):=g1
  have G2 : Hid (∀ W,Kb 0 w W → Calls Tryz.prog 103 #[vn] W fun e w'=>∃ v,e = .returned v ∧ RowIF W.heap.size w' (v) n N ∧ Kb 0 W w'):=g2
  have G3 : Hid (∀ W,Kb 0 w W → Calls Tryz.prog 104 #[vd] W fun e w'=>∃ v,e = .returned v ∧ RowMF W.heap.size w' (v) d D ∧ Kb 0 W w'):=g3
  clear g0 g1 g2 g3
  unfold prov
  go_enter Tryz.func44,Tryz.ntmps44
  go_wp2_with fail
  obtain ⟨w3,hw3⟩ : ∃ w3,w3 = ((w.alloc (.cells #[.string f.x,.int .i64 f.l,.int .i64 f.m,.bool f.r,.int .i64 f.g,vu,vc,vn,vd] 78)).alloc (.cells #[.string ⟨#[]⟩,.int .i64 0,.int .i64 0,.bool false,.int .i64 0,.slice none 0 0,.slice none 0 0,.slice none 0 0,.slice none 0 0] 50)).alloc (.cells #[.string f.x,.int .i64 f.l,.int .i64 f.m,.bool f.r,.int .i64 f.g,.slice none 0 0,.slice none 0 0,.slice none 0 0,.slice none 0 0] 50):=⟨_,rfl⟩
  rw [← hw3]
  obtain ⟨b0,b1,b2,z3,k3⟩:=three_new w _ _ _ _ _ _ w3 hw3
  clear hw3
  refine ((show ∀ W,Kb 0 w W → Calls Tryz.prog 101 #[vu] W fun e w'=>∃ v,e = .returned v ∧ RowUF W.heap.size w' (v) u U ∧ Kb 0 W w' from G0) w3 k3).mono ?_
  rintro e x0 ⟨v0,rfl,r0,q0⟩
  clear G0
  have zq0:=q0.size
  have zz0 : w.heap.size + 3 ≤ w3.heap.size:=by omega
  have b0x0 : x0.heap[w.heap.size]? = some (.cells #[.string f.x,.int .i64 f.l,.int .i64 f.m,.bool f.r,.int .i64 f.g,vu,vc,vn,vd] 78 (0,0)):=(q0.block _ (Nat.zero_le _) (by omega)).trans b0
  have b1x0 : x0.heap[w.heap.size + 1]? = some (.cells #[.string ⟨#[]⟩,.int .i64 0,.int .i64 0,.bool false,.int .i64 0,.slice none 0 0,.slice none 0 0,.slice none 0 0,.slice none 0 0] 50 (0,0)):=(q0.block _ (Nat.zero_le _) (by omega)).trans b1
  have b2x0 : x0.heap[w.heap.size + 1 + 1]? = some (.cells #[.string f.x,.int .i64 f.l,.int .i64 f.m,.bool f.r,.int .i64 f.g,.slice none 0 0,.slice none 0 0,.slice none 0 0,.slice none 0 0] 50 (0,0)):=(q0.block _ (Nat.zero_le _) (by omega)).trans b2
  clear b0 b1 b2
  obtain ⟨p0,l0,rfl,_⟩:=id r0
  have o0 : x0.cell? ⟨w.heap.size + 1 + 1,5,none⟩ = some (.slice none 0 0):=cell_of b2x0 rfl
  have f0 : x0.frozen? ⟨w.heap.size + 1 + 1,5,none⟩ = false:=frozen_of b2x0
  have n0 : x0.cell? ⟨w.heap.size,6,none⟩ = some (vc):=cell_of b0x0 rfl
  obtain ⟨y0,hy0⟩ : ∃ W,W = x0.setCell ⟨w.heap.size + 1 + 1,5,none⟩ (.slice p0 u l0):=⟨_,rfl⟩
  have c0 : y0.heap[w.heap.size]? = some (.cells #[.string f.x,.int .i64 f.l,.int .i64 f.m,.bool f.r,.int .i64 f.g,vu,vc,vn,vd] 78 (0,0)):=by rw [hy0,Below.heap_setCell _ _ _ _ (show w.heap.size ≠ w.heap.size + 1 + 1 by omega)];exact b0x0
  have c1 : y0.heap[w.heap.size + 1]? = some (.cells #[.string ⟨#[]⟩,.int .i64 0,.int .i64 0,.bool false,.int .i64 0,.slice none 0 0,.slice none 0 0,.slice none 0 0,.slice none 0 0] 50 (0,0)):=by rw [hy0,Below.heap_setCell _ _ _ _ (show w.heap.size + 1 ≠ w.heap.size + 1 + 1 by omega)];exact b1x0
  have c2 : y0.heap[w.heap.size + 1 + 1]? = some (.cells #[.string f.x,.int .i64 f.l,.int .i64 f.m,.bool f.r,.int .i64 f.g,.slice p0 u l0,.slice none 0 0,.slice none 0 0,.slice none 0 0] 50 (0,0)):=by rw [hy0];exact set_known _ b2x0
  have ky0 : Kb 0 w y0:=by rw [hy0];exact (k3.trans q0).setCell _ (Or.inr (by show w.heap.size ≤ w.heap.size + 1 + 1;omega)) _
  have qy0 : Kb (w.heap.size + 3) x0 y0:=by rw [hy0];exact (Kb.refl _ _).setCell _ (Or.inl (by show w.heap.size + 1 + 1 < w.heap.size + 3;omega)) _
  have zy0 : y0.heap.size = x0.heap.size:=by rw [hy0];simp
  have HX0 : Hid ((y0.heap[w.heap.size]? = some (.cells #[.string f.x,.int .i64 f.l,.int .i64 f.m,.bool f.r,.int .i64 f.g,vu,vc,vn,vd] 78 (0,0)) ∧ y0.heap[w.heap.size + 1]? = some (.cells #[.string ⟨#[]⟩,.int .i64 0,.int .i64 0,.bool false,.int .i64 0,.slice none 0 0,.slice none 0 0,.slice none 0 0,.slice none 0 0] 50 (0,0)) ∧ y0.heap[w.heap.size + 1 + 1]? = some (.cells #[.string f.x,.int .i64 f.l,.int .i64 f.m,.bool f.r,.int .i64 f.g,.slice p0 u l0,.slice none 0 0,.slice none 0 0,.slice none 0 0] 50 (0,0))) ∧ Kb 0 w y0 ∧ Kb (w.heap.size + 3) x0 y0 ∧ y0.heap.size = x0.heap.size ∧ RowUF w3.heap.size x0 (.slice p0 u l0) u U ∧ w.heap.size + 3 ≤ w3.heap.size ∧ w3.heap.size ≤ x0.heap.size):=(⟨⟨c0,c1,c2⟩,ky0,qy0,zy0,r0,(by omega : w.heap.size + 3 ≤ w3.heap.size),zq0⟩ : _ ∧ _)
  have HW0 : Hid (y0 = x0.setCell ⟨w.heap.size + 1 + 1,5,none⟩ (.slice p0 u l0)):=hy0
  clear b0x0 b1x0 b2x0 c0 c1 c2 ky0 qy0 zy0 r0 q0 zq0 hy0 zz0 z3 k3
  go_wp2_with fail
  rw [← (show y0 = x0.setCell ⟨w.heap.size + 1 + 1,5,none⟩ (.slice p0 u l0) from HW0)]
  clear HW0 o0 f0 n0
  obtain ⟨⟨b0,b1,b2⟩,ky0,qy0,zy0,r0,zu0,zv0⟩:=(show (y0.heap[w.heap.size]? = some (.cells #[.string f.x,.int .i64 f.l,.int .i64 f.m,.bool f.r,.int .i64 f.g,vu,vc,vn,vd] 78 (0,0)) ∧ y0.heap[w.heap.size + 1]? = some (.cells #[.string ⟨#[]⟩,.int .i64 0,.int .i64 0,.bool false,.int .i64 0,.slice none 0 0,.slice none 0 0,.slice none 0 0,.slice none 0 0] 50 (0,0)) ∧ y0.heap[w.heap.size + 1 + 1]? = some (.cells #[.string f.x,.int .i64 f.l,.int .i64 f.m,.bool f.r,.int .i64 f.g,.slice p0 u l0,.slice none 0 0,.slice none 0 0,.slice none 0 0] 50 (0,0))) ∧ Kb 0 w y0 ∧ Kb (w.heap.size + 3) x0 y0 ∧ y0.heap.size = x0.heap.size ∧ RowUF w3.heap.size x0 (.slice p0 u l0) u U ∧ w.heap.size + 3 ≤ w3.heap.size ∧ w3.heap.size ≤ x0.heap.size from HX0)
  clear HX0
  have zz1 : w.heap.size + 3 ≤ y0.heap.size:=by omega
  have s0:=(r0.mono (show w.heap.size + 3 ≤ w3.heap.size from zu0)).keep qy0
  clear r0 qy0
  refine ((show ∀ W,Kb 0 w W → Calls Tryz.prog 102 #[vc] W fun e w'=>∃ v,e = .returned v ∧ RowWF W.heap.size w' (v) c C ∧ Kb 0 W w' from G1) y0 ky0).mono ?_
  rintro e x1 ⟨v1,rfl,r1,q1⟩
  clear G1
  have zq1:=q1.size
  have b0x1 : x1.heap[w.heap.size]? = some (.cells #[.string f.x,.int .i64 f.l,.int .i64 f.m,.bool f.r,.int .i64 f.g,vu,vc,vn,vd] 78 (0,0)):=(q1.block _ (Nat.zero_le _) (by omega)).trans b0
  have b1x1 : x1.heap[w.heap.size + 1]? = some (.cells #[.string ⟨#[]⟩,.int .i64 0,.int .i64 0,.bool false,.int .i64 0,.slice none 0 0,.slice none 0 0,.slice none 0 0,.slice none 0 0] 50 (0,0)):=(q1.block _ (Nat.zero_le _) (by omega)).trans b1
  have b2x1 : x1.heap[w.heap.size + 1 + 1]? = some (.cells #[.string f.x,.int .i64 f.l,.int .i64 f.m,.bool f.r,.int .i64 f.g,.slice p0 u l0,.slice none 0 0,.slice none 0 0,.slice none 0 0] 50 (0,0)):=(q1.block _ (Nat.zero_le _) (by omega)).trans b2
  clear b0 b1 b2
  obtain ⟨p1,l1,rfl,_⟩:=id r1
  replace s0:=s0.keep (q1.mono (Nat.zero_le _))
  have o1 : x1.cell? ⟨w.heap.size + 1 + 1,6,none⟩ = some (.slice none 0 0):=cell_of b2x1 rfl
  have f1 : x1.frozen? ⟨w.heap.size + 1 + 1,6,none⟩ = false:=frozen_of b2x1
  have n1 : x1.cell? ⟨w.heap.size,7,none⟩ = some (vn):=cell_of b0x1 rfl
  obtain ⟨y1,hy1⟩ : ∃ W,W = x1.setCell ⟨w.heap.size + 1 + 1,6,none⟩ (.slice p1 c l1):=⟨_,rfl⟩
  have c0 : y1.heap[w.heap.size]? = some (.cells #[.string f.x,.int .i64 f.l,.int .i64 f.m,.bool f.r,.int .i64 f.g,vu,vc,vn,vd] 78 (0,0)):=by rw [hy1,Below.heap_setCell _ _ _ _ (show w.heap.size ≠ w.heap.size + 1 + 1 by omega)];exact b0x1
  have c1 : y1.heap[w.heap.size + 1]? = some (.cells #[.string ⟨#[]⟩,.int .i64 0,.int .i64 0,.bool false,.int .i64 0,.slice none 0 0,.slice none 0 0,.slice none 0 0,.slice none 0 0] 50 (0,0)):=by rw [hy1,Below.heap_setCell _ _ _ _ (show w.heap.size + 1 ≠ w.heap.size + 1 + 1 by omega)];exact b1x1
  have c2 : y1.heap[w.heap.size + 1 + 1]? = some (.cells #[.string f.x,.int .i64 f.l,.int .i64 f.m,.bool f.r,.int .i64 f.g,.slice p0 u l0,.slice p1 c l1,.slice none 0 0,.slice none 0 0] 50 (0,0)):=by rw [hy1];exact set_known _ b2x1
  have ky1 : Kb 0 w y1:=by rw [hy1];exact (ky0.trans q1).setCell _ (Or.inr (by show w.heap.size ≤ w.heap.size + 1 + 1;omega)) _
  have qy1 : Kb (w.heap.size + 3) x1 y1:=by rw [hy1];exact (Kb.refl _ _).setCell _ (Or.inl (by show w.heap.size + 1 + 1 < w.heap.size + 3;omega)) _
  have zy1 : y1.heap.size = x1.heap.size:=by rw [hy1];simp
  have HX1 : Hid ((y1.heap[w.heap.size]? = some (.cells #[.string f.x,.int .i64 f.l,.int .i64 f.m,.bool f.r,.int .i64 f.g,vu,vc,vn,vd] 78 (0,0)) ∧ y1.heap[w.heap.size + 1]? = some (.cells #[.string ⟨#[]⟩,.int .i64 0,.int .i64 0,.bool false,.int .i64 0,.slice none 0 0,.slice none 0 0,.slice none 0 0,.slice none 0 0] 50 (0,0)) ∧ y1.heap[w.heap.size + 1 + 1]? = some (.cells #[.string f.x,.int .i64 f.l,.int .i64 f.m,.bool f.r,.int .i64 f.g,.slice p0 u l0,.slice p1 c l1,.slice none 0 0,.slice none 0 0] 50 (0,0))) ∧ Kb 0 w y1 ∧ Kb (w.heap.size + 3) x1 y1 ∧ y1.heap.size = x1.heap.size ∧ RowWF y0.heap.size x1 (.slice p1 c l1) c C ∧ w.heap.size + 3 ≤ y0.heap.size ∧ y0.heap.size ≤ x1.heap.size):=(⟨⟨c0,c1,c2⟩,ky1,qy1,zy1,r1,(by omega : w.heap.size + 3 ≤ y0.heap.size),zq1⟩ : _ ∧ _)
  have HW1 : Hid (y1 = x1.setCell ⟨w.heap.size + 1 + 1,6,none⟩ (.slice p1 c l1)):=hy1
  clear b0x1 b1x1 b2x1 c0 c1 c2 ky1 qy1 zy1 r1 q1 zq1 hy1 zz1
  go_wp2_with fail
  rw [← (show y1 = x1.setCell ⟨w.heap.size + 1 + 1,6,none⟩ (.slice p1 c l1) from HW1)]
  clear HW1 o1 f1 n1
  obtain ⟨⟨b0,b1,b2⟩,ky1,qy1,zy1,r1,zu1,zv1⟩:=(show (y1.heap[w.heap.size]? = some (.cells #[.string f.x,.int .i64 f.l,.int .i64 f.m,.bool f.r,.int .i64 f.g,vu,vc,vn,vd] 78 (0,0)) ∧ y1.heap[w.heap.size + 1]? = some (.cells #[.string ⟨#[]⟩,.int .i64 0,.int .i64 0,.bool false,.int .i64 0,.slice none 0 0,.slice none 0 0,.slice none 0 0,.slice none 0 0] 50 (0,0)) ∧ y1.heap[w.heap.size + 1 + 1]? = some (.cells #[.string f.x,.int .i64 f.l,.int .i64 f.m,.bool f.r,.int .i64 f.g,.slice p0 u l0,.slice p1 c l1,.slice none 0 0,.slice none 0 0] 50 (0,0))) ∧ Kb 0 w y1 ∧ Kb (w.heap.size + 3) x1 y1 ∧ y1.heap.size = x1.heap.size ∧ RowWF y0.heap.size x1 (.slice p1 c l1) c C ∧ w.heap.size + 3 ≤ y0.heap.size ∧ y0.heap.size ≤ x1.heap.size from HX1)
  clear HX1
  have zz2 : w.heap.size + 3 ≤ y1.heap.size:=by omega
  replace s0:=s0.keep qy1
  have s1:=(r1.mono (show w.heap.size + 3 ≤ y0.heap.size from zu1)).keep qy1
  clear r1 qy1
  refine ((show ∀ W,Kb 0 w W → Calls Tryz.prog 103 #[vn] W fun e w'=>∃ v,e = .returned v ∧ RowIF W.heap.size w' (v) n N ∧ Kb 0 W w' from G2) y1 ky1).mono ?_
  rintro e x2 ⟨v2,rfl,r2,q2⟩
  clear G2
  have zq2:=q2.size
  have b0x2 : x2.heap[w.heap.size]? = some (.cells #[.string f.x,.int .i64 f.l,.int .i64 f.m,.bool f.r,.int .i64 f.g,vu,vc,vn,vd] 78 (0,0)):=(q2.block _ (Nat.zero_le _) (by omega)).trans b0
  have b1x2 : x2.heap[w.heap.size + 1]? = some (.cells #[.string ⟨#[]⟩,.int .i64 0,.int .i64 0,.bool false,.int .i64 0,.slice none 0 0,.slice none 0 0,.slice none 0 0,.slice none 0 0] 50 (0,0)):=(q2.block _ (Nat.zero_le _) (by omega)).trans b1
  have b2x2 : x2.heap[w.heap.size + 1 + 1]? = some (.cells #[.string f.x,.int .i64 f.l,.int .i64 f.m,.bool f.r,.int .i64 f.g,.slice p0 u l0,.slice p1 c l1,.slice none 0 0,.slice none 0 0] 50 (0,0)):=(q2.block _ (Nat.zero_le _) (by omega)).trans b2
  clear b0 b1 b2
  obtain ⟨p2,l2,rfl,_⟩:=id r2
  replace s0:=s0.keep (q2.mono (Nat.zero_le _))
  replace s1:=s1.keep (q2.mono (Nat.zero_le _))
  have o2 : x2.cell? ⟨w.heap.size + 1 + 1,7,none⟩ = some (.slice none 0 0):=cell_of b2x2 rfl
  have f2 : x2.frozen? ⟨w.heap.size + 1 + 1,7,none⟩ = false:=frozen_of b2x2
  have n2 : x2.cell? ⟨w.heap.size,8,none⟩ = some (vd):=cell_of b0x2 rfl
  obtain ⟨y2,hy2⟩ : ∃ W,W = x2.setCell ⟨w.heap.size + 1 + 1,7,none⟩ (.slice p2 n l2):=⟨_,rfl⟩
  have c0 : y2.heap[w.heap.size]? = some (.cells #[.string f.x,.int .i64 f.l,.int .i64 f.m,.bool f.r,.int .i64 f.g,vu,vc,vn,vd] 78 (0,0)):=by rw [hy2,Below.heap_setCell _ _ _ _ (show w.heap.size ≠ w.heap.size + 1 + 1 by omega)];exact b0x2
  have c1 : y2.heap[w.heap.size + 1]? = some (.cells #[.string ⟨#[]⟩,.int .i64 0,.int .i64 0,.bool false,.int .i64 0,.slice none 0 0,.slice none 0 0,.slice none 0 0,.slice none 0 0] 50 (0,0)):=by rw [hy2,Below.heap_setCell _ _ _ _ (show w.heap.size + 1 ≠ w.heap.size + 1 + 1 by omega)];exact b1x2
  have c2 : y2.heap[w.heap.size + 1 + 1]? = some (.cells #[.string f.x,.int .i64 f.l,.int .i64 f.m,.bool f.r,.int .i64 f.g,.slice p0 u l0,.slice p1 c l1,.slice p2 n l2,.slice none 0 0] 50 (0,0)):=by rw [hy2];exact set_known _ b2x2
  have ky2 : Kb 0 w y2:=by rw [hy2];exact (ky1.trans q2).setCell _ (Or.inr (by show w.heap.size ≤ w.heap.size + 1 + 1;omega)) _
  have qy2 : Kb (w.heap.size + 3) x2 y2:=by rw [hy2];exact (Kb.refl _ _).setCell _ (Or.inl (by show w.heap.size + 1 + 1 < w.heap.size + 3;omega)) _
  have zy2 : y2.heap.size = x2.heap.size:=by rw [hy2];simp
  have HX2 : Hid ((y2.heap[w.heap.size]? = some (.cells #[.string f.x,.int .i64 f.l,.int .i64 f.m,.bool f.r,.int .i64 f.g,vu,vc,vn,vd] 78 (0,0)) ∧ y2.heap[w.heap.size + 1]? = some (.cells #[.string ⟨#[]⟩,.int .i64 0,.int .i64 0,.bool false,.int .i64 0,.slice none 0 0,.slice none 0 0,.slice none 0 0,.slice none 0 0] 50 (0,0)) ∧ y2.heap[w.heap.size + 1 + 1]? = some (.cells #[.string f.x,.int .i64 f.l,.int .i64 f.m,.bool f.r,.int .i64 f.g,.slice p0 u l0,.slice p1 c l1,.slice p2 n l2,.slice none 0 0] 50 (0,0))) ∧ Kb 0 w y2 ∧ Kb (w.heap.size + 3) x2 y2 ∧ y2.heap.size = x2.heap.size ∧ RowIF y1.heap.size x2 (.slice p2 n l2) n N ∧ w.heap.size + 3 ≤ y1.heap.size ∧ y1.heap.size ≤ x2.heap.size):=(⟨⟨c0,c1,c2⟩,ky2,qy2,zy2,r2,(by omega : w.heap.size + 3 ≤ y1.heap.size),zq2⟩ : _ ∧ _)
  have HW2 : Hid (y2 = x2.setCell ⟨w.heap.size + 1 + 1,7,none⟩ (.slice p2 n l2)):=hy2
  clear b0x2 b1x2 b2x2 c0 c1 c2 ky2 qy2 zy2 r2 q2 zq2 hy2 zz2
  go_wp2_with fail
  rw [← (show y2 = x2.setCell ⟨w.heap.size + 1 + 1,7,none⟩ (.slice p2 n l2) from HW2)]
  clear HW2 o2 f2 n2
  obtain ⟨⟨b0,b1,b2⟩,ky2,qy2,zy2,r2,zu2,zv2⟩:=(show (y2.heap[w.heap.size]? = some (.cells #[.string f.x,.int .i64 f.l,.int .i64 f.m,.bool f.r,.int .i64 f.g,vu,vc,vn,vd] 78 (0,0)) ∧ y2.heap[w.heap.size + 1]? = some (.cells #[.string ⟨#[]⟩,.int .i64 0,.int .i64 0,.bool false,.int .i64 0,.slice none 0 0,.slice none 0 0,.slice none 0 0,.slice none 0 0] 50 (0,0)) ∧ y2.heap[w.heap.size + 1 + 1]? = some (.cells #[.string f.x,.int .i64 f.l,.int .i64 f.m,.bool f.r,.int .i64 f.g,.slice p0 u l0,.slice p1 c l1,.slice p2 n l2,.slice none 0 0] 50 (0,0))) ∧ Kb 0 w y2 ∧ Kb (w.heap.size + 3) x2 y2 ∧ y2.heap.size = x2.heap.size ∧ RowIF y1.heap.size x2 (.slice p2 n l2) n N ∧ w.heap.size + 3 ≤ y1.heap.size ∧ y1.heap.size ≤ x2.heap.size from HX2)
  clear HX2
  have zz3 : w.heap.size + 3 ≤ y2.heap.size:=by omega
  replace s0:=s0.keep qy2
  replace s1:=s1.keep qy2
  have s2:=(r2.mono (show w.heap.size + 3 ≤ y1.heap.size from zu2)).keep qy2
  clear r2 qy2
  refine ((show ∀ W,Kb 0 w W → Calls Tryz.prog 104 #[vd] W fun e w'=>∃ v,e = .returned v ∧ RowMF W.heap.size w' (v) d D ∧ Kb 0 W w' from G3) y2 ky2).mono ?_
  rintro e x3 ⟨v3,rfl,r3,q3⟩
  clear G3
  have zq3:=q3.size
  have b0x3 : x3.heap[w.heap.size]? = some (.cells #[.string f.x,.int .i64 f.l,.int .i64 f.m,.bool f.r,.int .i64 f.g,vu,vc,vn,vd] 78 (0,0)):=(q3.block _ (Nat.zero_le _) (by omega)).trans b0
  have b1x3 : x3.heap[w.heap.size + 1]? = some (.cells #[.string ⟨#[]⟩,.int .i64 0,.int .i64 0,.bool false,.int .i64 0,.slice none 0 0,.slice none 0 0,.slice none 0 0,.slice none 0 0] 50 (0,0)):=(q3.block _ (Nat.zero_le _) (by omega)).trans b1
  have b2x3 : x3.heap[w.heap.size + 1 + 1]? = some (.cells #[.string f.x,.int .i64 f.l,.int .i64 f.m,.bool f.r,.int .i64 f.g,.slice p0 u l0,.slice p1 c l1,.slice p2 n l2,.slice none 0 0] 50 (0,0)):=(q3.block _ (Nat.zero_le _) (by omega)).trans b2
  clear b0 b1 b2
  obtain ⟨p3,l3,rfl,_⟩:=id r3
  replace s0:=s0.keep (q3.mono (Nat.zero_le _))
  replace s1:=s1.keep (q3.mono (Nat.zero_le _))
  replace s2:=s2.keep (q3.mono (Nat.zero_le _))
  have s3:=r3.mono (show w.heap.size + 3 ≤ y2.heap.size by omega)
  have KW:=ky2.trans q3
  have e0 : x3.cell? ⟨w.heap.size + 1 + 1,0,none⟩ = some (.string f.x):=cell_of b2x3 rfl
  have e1 : x3.cell? ⟨w.heap.size + 1 + 1,1,none⟩ = some (.int .i64 f.l):=cell_of b2x3 rfl
  have e2 : x3.cell? ⟨w.heap.size + 1 + 1,2,none⟩ = some (.int .i64 f.m):=cell_of b2x3 rfl
  have e3 : x3.cell? ⟨w.heap.size + 1 + 1,3,none⟩ = some (.bool f.r):=cell_of b2x3 rfl
  have e4 : x3.cell? ⟨w.heap.size + 1 + 1,4,none⟩ = some (.int .i64 f.g):=cell_of b2x3 rfl
  have e5 : x3.cell? ⟨w.heap.size + 1 + 1,5,none⟩ = some (.slice p0 u l0):=cell_of b2x3 rfl
  have e6 : x3.cell? ⟨w.heap.size + 1 + 1,6,none⟩ = some (.slice p1 c l1):=cell_of b2x3 rfl
  have e7 : x3.cell? ⟨w.heap.size + 1 + 1,7,none⟩ = some (.slice p2 n l2):=cell_of b2x3 rfl
  have e8 : x3.cell? ⟨w.heap.size + 1 + 1,8,none⟩ = some (.slice none 0 0):=cell_of b2x3 rfl
  have fz : x3.frozen? ⟨w.heap.size + 1 + 1,8,none⟩ = false:=frozen_of b2x3
  have a0 : x3.cell? ⟨w.heap.size + 1,0,none⟩ = some (.string ⟨#[]⟩):=cell_of b1x3 rfl
  have a1 : x3.cell? ⟨w.heap.size + 1,1,none⟩ = some (.int .i64 0):=cell_of b1x3 rfl
  have a2 : x3.cell? ⟨w.heap.size + 1,2,none⟩ = some (.int .i64 0):=cell_of b1x3 rfl
  have a3 : x3.cell? ⟨w.heap.size + 1,3,none⟩ = some (.bool false):=cell_of b1x3 rfl
  have a4 : x3.cell? ⟨w.heap.size + 1,4,none⟩ = some (.int .i64 0):=cell_of b1x3 rfl
  have a5 : x3.cell? ⟨w.heap.size + 1,5,none⟩ = some (.slice none 0 0):=cell_of b1x3 rfl
  have a6 : x3.cell? ⟨w.heap.size + 1,6,none⟩ = some (.slice none 0 0):=cell_of b1x3 rfl
  have a7 : x3.cell? ⟨w.heap.size + 1,7,none⟩ = some (.slice none 0 0):=cell_of b1x3 rfl
  have a8 : x3.cell? ⟨w.heap.size + 1,8,none⟩ = some (.slice none 0 0):=cell_of b1x3 rfl
  have fy : ∀ j,x3.frozen? ⟨w.heap.size + 1,j,none⟩ = false:=fun j=>frozen_of b1x3
  have HE : Hid (Kb 0 w x3 ∧ RowUF (w.heap.size + 3) x3 (.slice p0 u l0) u U ∧ RowWF (w.heap.size + 3) x3 (.slice p1 c l1) c C ∧ RowIF (w.heap.size + 3) x3 (.slice p2 n l2) n N ∧ RowMF (w.heap.size + 3) x3 (.slice p3 d l3) d D):=(⟨KW,s0,s1,s2,s3⟩ : _ ∧ _)
  clear KW s0 s1 s2 s3 b0x3 b1x3 b2x3 r3 q3 zq3 zz3 ky2 zu0 zv0 zy0 zu1 zv1 zy1 zu2 zv2 zy2
  go_wp2_with fail
  refine bodyPost_ret (by simp [results,Tryz.results44,go_sem,a0,a1,a2,a3,a4,a5,a6,a7,a8];rfl) rfl ?_
  obtain ⟨KW,s0,s1,s2,s3⟩:=(show Kb 0 w x3 ∧ RowUF (w.heap.size + 3) x3 (.slice p0 u l0) u U ∧ RowWF (w.heap.size + 3) x3 (.slice p1 c l1) c C ∧ RowIF (w.heap.size + 3) x3 (.slice p2 n l2) n N ∧ RowMF (w.heap.size + 3) x3 (.slice p3 d l3) d D from HE)
  clear HE
  have hq:=((((((((((Kb.refl (w.heap.size + 3) x3).setCell ⟨w.heap.size + 1 + 1,8,none⟩ (Or.inl (show w.heap.size + 1 + 1 < w.heap.size + 3 by omega)) (.slice p3 d l3)).setCell ⟨w.heap.size + 1,0,none⟩ (Or.inl (show w.heap.size + 1 < w.heap.size + 3 by omega)) (.string f.x)).setCell ⟨w.heap.size + 1,1,none⟩ (Or.inl (show w.heap.size + 1 < w.heap.size + 3 by omega)) (.int .i64 f.l)).setCell ⟨w.heap.size + 1,2,none⟩ (Or.inl (show w.heap.size + 1 < w.heap.size + 3 by omega)) (.int .i64 f.m)).setCell ⟨w.heap.size + 1,3,none⟩ (Or.inl (show w.heap.size + 1 < w.heap.size + 3 by omega)) (.bool f.r)).setCell ⟨w.heap.size + 1,4,none⟩ (Or.inl (show w.heap.size + 1 < w.heap.size + 3 by omega)) (.int .i64 f.g)).setCell ⟨w.heap.size + 1,5,none⟩ (Or.inl (show w.heap.size + 1 < w.heap.size + 3 by omega)) (.slice p0 u l0)).setCell ⟨w.heap.size + 1,6,none⟩ (Or.inl (show w.heap.size + 1 < w.heap.size + 3 by omega)) (.slice p1 c l1)).setCell ⟨w.heap.size + 1,7,none⟩ (Or.inl (show w.heap.size + 1 < w.heap.size + 3 by omega)) (.slice p2 n l2)).setCell ⟨w.heap.size + 1,8,none⟩ (Or.inl (show w.heap.size + 1 < w.heap.size + 3 by omega)) (.slice p3 d l3)
  have hk:=((((((((((KW).setCell ⟨w.heap.size + 1 + 1,8,none⟩ (Or.inr (show w.heap.size ≤ w.heap.size + 1 + 1 by omega)) (.slice p3 d l3)).setCell ⟨w.heap.size + 1,0,none⟩ (Or.inr (show w.heap.size ≤ w.heap.size + 1 by omega)) (.string f.x)).setCell ⟨w.heap.size + 1,1,none⟩ (Or.inr (show w.heap.size ≤ w.heap.size + 1 by omega)) (.int .i64 f.l)).setCell ⟨w.heap.size + 1,2,none⟩ (Or.inr (show w.heap.size ≤ w.heap.size + 1 by omega)) (.int .i64 f.m)).setCell ⟨w.heap.size + 1,3,none⟩ (Or.inr (show w.heap.size ≤ w.heap.size + 1 by omega)) (.bool f.r)).setCell ⟨w.heap.size + 1,4,none⟩ (Or.inr (show w.heap.size ≤ w.heap.size + 1 by omega)) (.int .i64 f.g)).setCell ⟨w.heap.size + 1,5,none⟩ (Or.inr (show w.heap.size ≤ w.heap.size + 1 by omega)) (.slice p0 u l0)).setCell ⟨w.heap.size + 1,6,none⟩ (Or.inr (show w.heap.size ≤ w.heap.size + 1 by omega)) (.slice p1 c l1)).setCell ⟨w.heap.size + 1,7,none⟩ (Or.inr (show w.heap.size ≤ w.heap.size + 1 by omega)) (.slice p2 n l2)).setCell ⟨w.heap.size + 1,8,none⟩ (Or.inr (show w.heap.size ≤ w.heap.size + 1 by omega)) (.slice p3 d l3)
  exact ⟨_,_,_,_,rfl,(s0.keep hq).mono (by omega),(s1.keep hq).mono (by omega),(s2.keep hq).mono (by omega),(s3.keep hq).mono (by omega),hk⟩
end Go.Proofs.YtnmeemjoodoalaaGreatDoor.Fo
