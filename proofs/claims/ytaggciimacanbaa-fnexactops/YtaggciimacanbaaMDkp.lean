import Derived.Test.YtaggciimacanbaaMDkn
namespace Go.Proofs.Ytaggciimacanbaa.Fo
open Go.ChangeShapes Go.WideShapes Go.ChangeAt Go.RowKit Go.Shelf
set_option linter.unusedVariables false
set_option maxRecDepth 100000
set_option linter.unusedSimpArgs false
theorem four_newO (w : World) (A B C D : Array Value) (tA tB tC tD : TypeId) (W : World) (h : W = (((w.alloc (.cells A tA)).alloc (.cells B tB)).alloc (.cells C tC)).alloc (.cells D tD)) :
    W.heap[w.heap.size]? = some (.cells A tA (0, 0)) ∧ W.heap[w.heap.size + 1]? = some (.cells B tB (0, 0)) ∧ W.heap[w.heap.size + 1 + 1]? = some (.cells C tC (0, 0)) ∧ W.heap[w.heap.size + 1 + 1 + 1]? = some (.cells D tD (0, 0)) ∧ Kb 0 w W := by
  subst h
  have e1 : (w.alloc (.cells A tA)).heap.size = w.heap.size + 1 := World.size_alloc _ _
  have e2 : ((w.alloc (.cells A tA)).alloc (.cells B tB)).heap.size = w.heap.size + 1 + 1 := by rw [World.size_alloc, e1]
  have e3 : (((w.alloc (.cells A tA)).alloc (.cells B tB)).alloc (.cells C tC)).heap.size = w.heap.size + 1 + 1 + 1 := by rw [World.size_alloc, e2]
  refine ⟨?_, ?_, ?_, ?_, (((kb_alloc _ _ _).trans (kb_alloc _ _ _)).trans (kb_alloc _ _ _)).trans (kb_alloc _ _ _)⟩
  · rw [(kb_alloc 0 _ _).block _ (Nat.zero_le _) (by omega), (kb_alloc 0 _ _).block _ (Nat.zero_le _) (by omega), (kb_alloc 0 _ _).block _ (Nat.zero_le _) (by omega)]
    exact alloc_new _ _ _
  · rw [(kb_alloc 0 _ _).block _ (Nat.zero_le _) (by omega), (kb_alloc 0 _ _).block _ (Nat.zero_le _) (by omega), ← e1]
    exact alloc_new _ _ _
  · rw [(kb_alloc 0 _ _).block _ (Nat.zero_le _) (by omega), ← e2]
    exact alloc_new _ _ _
  · rw [← e3]
    exact alloc_new _ _ _
attribute [local go_sem] Oper.semAt_some
/-- a function that holds a range over a function has come to its end -/
def bpm (P : Program) (fn : Func) (R : Ending → World → Prop) : Exit → Act → World → Prop
  | .normal, a, w | .ret, a, w => LeavesInM Fence.wide 3 P fn a.tmps R a.defers .returning w
  | _, _, _ => False
theorem calls_of_wp_marks {P : Program} {f : FuncId} {fn : Func} {c : Code} {args : Array Value} {w : World} {R : Ending → World → Prop} (hf : P.funcs[f]? = some fn) (hb : fn.body = some c)
    (h : c.wp P (bpm P fn R) { tmps := args ++ Array.replicate (fn.ntmps - args.size) undef, defers := [] } w) : Calls P f args w R :=
  (callsIn_wide (n := 3)).1 (callsIn_of_wp_marks hf hb trivial (wpIn_mono (wpIn_wide.2 h) (fun e a w q => by cases e <;> first | exact q | exact q.elim)) rfl)
set_option maxHeartbeats 8000000 in
theorem im_ops_y1 {v1 v2 : Value} {D : Dd} {a : Addr} {n ca : Nat} {A : Nat → Int} {xg : Int} {xn : Nat} {xA : Nat → Int} (w : World) (ha : RowD 0 w v1 v2 D) (hd : BdD D) (hok : Dok D) (hm : D.m = 0) (hn0 : 0 < n) (hn : n ≤ 8192) (hca : n ≤ ca) (hg0 : 0 ≤ xg) (hg1 : xg < 1000000000000) (hr : ∀ i, i < n → w.cell? (a.add i) = some (.int .u8 (A i))) (hA : ∀ i, i < n → 0 ≤ A i ∧ A i ≤ 255) (hN : ∀ x1 x2 W, RowD 0 W x1 x2 D → Calls Try.prog 28 #[.agg #[x1, x2]] W (KiP true xg 0 xn xA W)) :
    Calls Try.prog 33 #[.agg #[v1, v2], .slice (some a) n ca] w fun e w' => ∃ v V G, e = .returned v ∧ BE 3 w.heap.size 96 w' v (opn n + 3) (opF A n 1 (2 + 1 * 128) xg) V G ∧ Kb 0 w w' := by
  obtain ⟨⟨p1, c1, rfl, -⟩, ⟨p2, c2, rfl, -⟩⟩ := id ha
  obtain ⟨w1, hw1⟩ : ∃ w1, w1 = w.alloc (.cells #[.slice p1 D.n c1, .slice p2 D.m c2] 30) := ⟨_, rfl⟩
  have k1 : Kb 0 w w1 := by rw [hw1]; exact kb_alloc _ _ _
  have b1 : w1.heap[w.heap.size]? = some (.cells #[.slice p1 D.n c1, .slice p2 D.m c2] 30 (0, 0)) := by rw [hw1]; exact alloc_new _ _ _
  have u0 : w1.cell? ⟨w.heap.size, 0, none⟩ = some (.slice p1 D.n c1) := cell_of b1 rfl
  have u1 : w1.cell? ⟨w.heap.size, 1, none⟩ = some (.slice p2 D.m c2) := cell_of b1 rfl
  have HW1 : Hid (w1 = w.alloc (.cells #[.slice p1 D.n c1, .slice p2 D.m c2] 30)) := hw1
  have HK1 : Hid (Kb 0 w w1) := k1
  have HI : Calls Try.prog 66 #[.agg #[.slice p1 D.n c1, .slice p2 D.m c2]] w1 fun e w' => e = .returned (.bool true) ∧ Kb 0 w1 w' := by
    have := im_dok w1 (ha.keep k1) hd
    rw [dc_t hok] at this
    exact this
  have HCA : Hid (∀ W, Kb 0 w1 W → Calls Try.prog 28 #[.agg #[.slice p1 D.n c1, .slice p2 D.m c2]] W (KiP true xg 0 xn xA W)) := (fun W k => hN _ _ W (ha.keep (k1.trans k)) : ∀ W, _)
  have HRA : Hid ((∀ i, i < n → w.cell? (a.add i) = some (.int .u8 (A i))) ∧ (∀ i, i < n → 0 ≤ A i ∧ A i ≤ 255)) := (⟨hr, hA⟩ : _ ∧ _)
  have hmI : (D.m : Int) = 0 := by omega
  have hn1 : ¬ (n : Int) = 0 := by omega
  have hn2 : ¬ (8192 : Int) < (n : Int) := by omega
  have hx1 : ((n : Int) == 0) = false := by simp; omega
  have hgx : ¬ xg = 1000000000000 := by omega
  have HMM : Hid (0 < n ∧ n ≤ 8192 ∧ n ≤ ca) := (⟨hn0, hn, hca⟩ : _ ∧ _ ∧ _)
  clear hw1 k1 b1 ha hd hok hN hm hca hr hA
  refine calls_of_wp_marks Try.func33 rfl ?_
  simp only [Try.ntmps33, List.size_toArray, List.length_cons, List.length_nil, Nat.reduceAdd, Nat.reduceSub, Array.replicate_succ, Array.replicate_zero, List.push_toArray, List.append_toArray, List.nil_append, List.cons_append]
  go_upto_region 1 with fail
  rw [← (show w1 = _ from HW1)]
  clear HW1
  go_wp2_with fail
  refine HI.mono ?_
  rintro e w3 ⟨rfl, k3⟩
  have u30 := k3.cell u0
  have u31 := k3.cell u1
  have HC := (show ∀ W, Kb 0 w1 W → _ from HCA) w3 k3
  have HK3 : Hid (Kb 0 w w3) := (show Kb 0 w w1 from HK1).trans k3
  clear HI u0 u1 k3 HK1 HCA
  go_wp2_with fail
  refine HC.mono ?_
  rintro e wA ⟨vb', gb, rfl, ob, hgb, kA⟩
  obtain ⟨pb, cb, rfl, -⟩ := ob.sl
  obtain ⟨P5, hP5⟩ : ∃ P5, P5 = wA.heap.size := ⟨_, rfl⟩
  obtain ⟨w4, hw4⟩ : ∃ w4, w4 = wA.alloc (.cells #[.bool true, .int .i64 xg, .int .i64 0, .slice pb xn cb] 51) := ⟨_, rfl⟩
  have b5 : w4.heap[P5]? = some (.cells #[.bool true, .int .i64 xg, .int .i64 0, .slice pb xn cb] 51 (0, 0)) := by rw [hw4, hP5]; exact alloc_new _ _ _
  have hP4 : P5 < w4.heap.size := by rw [hw4, World.size_alloc, ← hP5]; omega
  have e0 : w4.cell? ⟨P5, 0, none⟩ = some (.bool true) := cell_of b5 rfl
  have e1 : w4.cell? ⟨P5, 1, none⟩ = some (.int .i64 xg) := cell_of b5 rfl
  have e2 : w4.cell? ⟨P5, 2, none⟩ = some (.int .i64 0) := cell_of b5 rfl
  have HF : Hid (Kb 0 w w4) := ((show Kb 0 w w3 from HK3).trans kA).trans (by rw [hw4]; exact kb_alloc _ _ _)
  have HW4 : Hid (w4 = wA.alloc (.cells #[.bool true, .int .i64 xg, .int .i64 0, .slice pb xn cb] 51) ∧ P5 = wA.heap.size) := (⟨hw4, hP5⟩ : _ ∧ _)
  clear HC u30 u31 ob hgb kA hP5 hw4 HK3
  go_upto_region 4 with fail
  rw [← (show _ ∧ _ from HW4).1, ← (show _ ∧ _ from HW4).2]
  clear HW4
  have HCK := fun W => chk_make (some a) n ca W
  go_wp2_with fail
  refine (HCK _).mono ?_
  rintro e w7 ⟨rfl, hw7⟩
  simp only [World.size_alloc] at hw7 ⊢
  have HW7 : Hid (w7 = _) := hw7
  clear hw7 HCK
  go_wp2_with fail
  obtain ⟨g0, g1, g2, g3, k47⟩ := four_newO w4 _ _ _ _ _ _ _ _ w7 (show w7 = _ from HW7)
  have z7 : w7.heap.size = w4.heap.size + 4 := by rw [show w7 = _ from HW7]; simp [World.size_alloc]
  have s2 : w7.cell? ⟨w4.heap.size + 1 + 1, 0, none⟩ = some (.slice (some a) n ca) := cell_of g2 rfl
  have s3 : w7.cell? ⟨w4.heap.size + 1 + 1 + 1, 0, none⟩ = some (.int .i64 64) := cell_of g3 rfl
  have HO7 : OI w4 A n 1 1 130 xg [] w7 := ⟨fun _ => ⟨false, 0, 0, fun _ => 0⟩, _, fun _ => .slice none 0 0, fun _ => 0, g1, BE.nil _ _ _ _ _ _ _, g0, k47, by omega, fun _ i hi => absurd hi (Nat.not_lt_zero _)⟩
  obtain ⟨hm0, hm1, hm2⟩ := (show _ ∧ _ ∧ _ from HMM)
  have HP : Hid (w4.heap[P5]? = some (.cells #[.bool true, .int .i64 xg, .int .i64 0, .slice pb xn cb] 51 (0, 0)) ∧ P5 < w4.heap.size) := (⟨b5, hP4⟩ : _ ∧ _)
  clear g0 g1 g2 g3 k47 HW7 b5 hP4 e0 e1 e2
  refine (wpIn_wide (n := 3)).1 ?_
  refine wpIn_rangeFunc_ownF (α := {j : Nat // j < opn n}) (n := 3) rfl (by omega) (gf := 103) (lb := #[.pointer (some ⟨w4.heap.size + 1 + 1, 0, none⟩), .pointer (some ⟨w4.heap.size + 1 + 1 + 1, 0, none⟩)]) rfl trivial (enters_of Try.func103 (by kernel_rfl) rfl)
    (encs := fun x => #[pcv a n x.val]) (Kp := Kp3 w4.heap.size (w4.heap.size + 1 + 1) (w4.heap.size + 1 + 1 + 1)) (chk_stops 2 (by omega) (w4.heap.size + 1 + 1) (w4.heap.size + 1 + 1 + 1) w4 w7 hm0 hm1 hm2 s2 s3)
    (fun h k => Kp3.trans h k) (fun X l o o' hl _ _ _ => Kp3.put X l o' (by omega) (by omega) (by omega)) (Below.refl _ _) (fun _ => rfl)
    (OI w4 A n 1 1 130 xg) (fun _ _ _ => False) (by rw [z7]; exact own_oi) (fun c _ _ _ _ h => h.elim) HO7 ?a1 ?assign ?body ?done ?stop
  case assign =>
    intro l x X K hKK
    gi_wp2
    exact hKK
  case body =>
    intro l pre x X hI hpl
    obtain ⟨F, v, V, G, h1, h2, h3, h4, h5, h6⟩ := hI
    obtain ⟨pv, cv, rfl⟩ := be_slice h2
    obtain ⟨hm0, hm1, hm2⟩ := (show _ ∧ _ ∧ _ from HMM)
    have hL : (pre.length : Int) < 128 := by have := opn_le hm1; omega
    have hjn : x.val < opn n := x.property
    obtain ⟨B1, hB1⟩ : ∃ B1, B1 = w4.heap.size + 1 := ⟨_, rfl⟩
    have c7 : X.cell? ⟨w4.heap.size + 1, 0, none⟩ = some (.slice pv pre.length cv) := cell_of h1 rfl
    have c6 : X.cell? ⟨w4.heap.size, 0, none⟩ = some (.int .i64 1) := cell_of h3 rfl
    have HRW : Hid (∀ W, Kb 0 X W → RowV W (pcv a n x.val) (pcn n x.val) (fun i => .int .u8 (A (x.val * 64 + i)))) := (fun W k => row_pcv (fun i hi => (((show Kb 0 w w4 from HF).trans h4).trans k).cell ((show _ ∧ _ from HRA).1 i hi)) : ∀ W, _)
    have HNX : Hid (∀ W5 W6 : World, Kb 0 X W5 → W6 = W5.alloc (.cells (pgl (pcA A n x.val)).toArray 92) → _) := (fun W5 W6 k5 e6 => OI.next (x := x) h1 h2 h3 h4 h5 h6 k5 e6 (fun ho => by rw [ho.app.2] ; exact (opF_p hpl).symm) : ∀ W5 W6 : World, _)
    obtain ⟨pc, hpc⟩ : ∃ pc, pc = pcv a n x.val := ⟨_, rfl⟩
    rw [← hpc] at HRW ⊢
    have hLp : 0 ≤ (pre.length : Int) := by omega
    have hxl : Hid (w4.heap.size + 4 ≤ X.heap.size) := h5
    clear h1 h2 h3 h4 h5 h6 hB1 hpc
    refine wpIn_block ?_
    refine AnyL.regionIn (S := fun W' => W'.cell? ⟨w4.heap.size + 1, 0, none⟩ = some (.slice pv pre.length cv) ∧ W'.cell? ⟨w4.heap.size, 0, none⟩ = some (.int .i64 1)) (z := 12) (by kernel_rfl) (by kernel_rfl) (lets_no _) ?_
    have hS0 : (fun W' : World => W'.cell? ⟨w4.heap.size + 1, 0, none⟩ = some (.slice pv pre.length cv) ∧ W'.cell? ⟨w4.heap.size, 0, none⟩ = some (.int .i64 1)) X.drew := ⟨c7, c6⟩
    obtain ⟨W0, hW0⟩ : ∃ W0, W0 = X.drew := ⟨_, rfl⟩
    have HK0 : Hid (Kb 0 X W0) := (by rw [hW0]; exact Kb.drewN (Kb.refl _ _) 1 : Kb 0 X W0)
    rw [← hW0] at hS0 ⊢
    clear hW0 c7 c6
    refine AnyL.takeAt 0 (.slice pv pre.length cv) rfl (by kernel_rfl) (by kernel_rfl) (by kernel_rfl) (by kernel_rfl) (fun _ _ _ h => h) rfl hS0 (by intro W hW; first | go_simp | (obtain ⟨i0, i1⟩ := hW; go_simp)) ?_
    try simp only [Act.put, List.setIfInBounds_toArray, List.set_cons_zero, List.set_cons_succ]
    refine AnyL.takeAt 1 (.int .i64 1) rfl (by kernel_rfl) (by kernel_rfl) (by kernel_rfl) (by kernel_rfl) (fun _ _ _ h => h) rfl hS0 (by intro W hW; first | go_simp | (obtain ⟨i0, i1⟩ := hW; go_simp)) ?_
    try simp only [Act.put, List.setIfInBounds_toArray, List.set_cons_zero, List.set_cons_succ]
    refine AnyL.takeAt 3 (.slice pv pre.length cv) rfl (by kernel_rfl) (by kernel_rfl) (by kernel_rfl) (by kernel_rfl) (fun _ _ _ h => h) rfl hS0 (by intro W hW; first | go_simp | (obtain ⟨i0, i1⟩ := hW; go_simp)) ?_
    try simp only [Act.put, List.setIfInBounds_toArray, List.set_cons_zero, List.set_cons_succ]
    refine AnyL.takeAt 6 (pc) rfl (by kernel_rfl) (by kernel_rfl) (by kernel_rfl) (by kernel_rfl) (fun _ _ _ h => h) rfl hS0 (by intro W hW; first | go_simp | (obtain ⟨i0, i1⟩ := hW; go_simp)) ?_
    try simp only [Act.put, List.setIfInBounds_toArray, List.set_cons_zero, List.set_cons_succ]
    refine AnyL.takeAt 4 (.int .i64 (pre.length : Int)) rfl (by kernel_rfl) (by kernel_rfl) (by kernel_rfl) (by kernel_rfl) (fun _ _ _ h => h) rfl hS0 (by intro W hW; first | go_simp | (obtain ⟨i0, i1⟩ := hW; go_simp)) ?_
    try simp only [Act.put, List.setIfInBounds_toArray, List.set_cons_zero, List.set_cons_succ]
    refine AnyL.oneAt 2 rfl (by kernel_rfl) rfl ?_
    intro K hK
    go_simp
    refine (im_imgblk1 W0).mono ?_
    rintro e Wz ⟨rfl, hWz⟩
    rw [hWz]
    clear hWz Wz
    refine hK.out _ _ (fun _ => hS0) ?_
    clear hK K
    try simp only [Act.put, List.setIfInBounds_toArray, List.set_cons_zero, List.set_cons_succ]
    refine AnyL.takeAt 5 (.int .i64 (130 + (pre.length : Int))) rfl (by kernel_rfl) (by kernel_rfl) (by kernel_rfl) (by kernel_rfl) (fun _ _ _ h => h) rfl hS0 (by intro W hW; go_simp; rw [IntKind.wrap_i64]; omega) ?_
    try simp only [Act.put, List.setIfInBounds_toArray, List.set_cons_zero, List.set_cons_succ]
    refine AnyL.oneAt 7 rfl (by kernel_rfl) rfl ?_
    intro K hK
    go_simp
    refine (im_pageof W0 ((show ∀ W, Kb 0 X W → _ from HRW) W0 HK0) (pcn_le _ _)).mono ?_
    rintro e W5 ⟨rfl, k5⟩
    rw [pad_pcA]
    have HK5 : Hid (Kb 0 X W5) := (show Kb 0 X W0 from HK0).trans k5
    have hS5 : W5.cell? ⟨w4.heap.size + 1, 0, none⟩ = some (.slice pv pre.length cv) ∧ W5.cell? ⟨w4.heap.size, 0, none⟩ = some (.int .i64 1) := ⟨k5.cell hS0.1, k5.cell hS0.2⟩
    obtain ⟨PG, hPG⟩ : ∃ PG, PG = pgl (pcA A n x.val) := ⟨_, rfl⟩
    have HNY : Hid (∀ W6 : World, W6 = W5.alloc (.cells PG.toArray 92) → _) := (by rw [hPG]; exact fun W6 e6 => (show ∀ W5 W6 : World, _ from HNX) W5 W6 HK5 e6 : ∀ W6 : World, _)
    rw [← hPG]
    clear k5 hS0 HK0 HNX HRW hPG
    refine hK.out _ _ (fun _ => hS5) ?_
    clear hK K
    try simp only [Act.put, List.setIfInBounds_toArray, List.set_cons_zero, List.set_cons_succ]
    refine AnyL.oneAt 8 rfl (by kernel_rfl) rfl ?_
    intro K hK
    go_simp
    refine (im_bytes W5).mono ?_
    rintro e W6 ⟨rfl, hW6⟩
    obtain ⟨CL, ⟨hS6, hown6, h6z, hS6a⟩, H8⟩ := (show ∀ W6 : World, W6 = W5.alloc (.cells PG.toArray 92) → _ from HNY) W6 hW6
    have k56 : Kb 0 W5 W6 := by rw [hW6]; exact kb_alloc _ _ _
    have q6 := k56.cell hS5.2
    have HS8 : Hid (∀ (ob : Obj) (W8 : World) (g cap : Nat), _) := H8
    have hN5 : W5.heap.size < W6.heap.size := by rw [hW6, World.size_alloc]; omega
    clear HNY H8 hW6 k56
    refine hK.out _ _ (fun _ => ⟨hS6, q6⟩) ?_
    clear hK K
    try simp only [Act.put, List.setIfInBounds_toArray, List.set_cons_zero, List.set_cons_succ]
    refine AnyL.oneAt 9 rfl (by kernel_rfl) rfl ?_
    intro K hK
    go_simp
    refine hK.out _ _ (fun _ => ⟨hS6, q6⟩) ?_
    clear hK K
    try simp only [Act.put, List.setIfInBounds_toArray, List.set_cons_zero, List.set_cons_succ]
    refine AnyL.oneAt 10 rfl (by kernel_rfl) rfl ?_
    intro K hK
    go_simp
    refine hK.out _ _ (fun _ => ⟨hS6a _, (kb_alloc 0 W6 _).cell q6⟩) ?_
    clear hK K
    try simp only [Act.put, List.setIfInBounds_toArray, List.set_cons_zero, List.set_cons_succ]
    obtain ⟨i1, hi1, hz0, hz1, hz2⟩ := infoOp
    refine AnyL.oneAt 11 rfl (by kernel_rfl) rfl ?_
    intro K hK
    refine wp_append_lies _ (.tmp 42) (.tmp 52) 56 rfl (w4.heap.size + 4) 96 i1 (.agg #[.bool false, .int .i64 0, .slice none 0 0]) 3 40 Try.underlying56 hi1 hz0 hz1 hz2 rfl (by decide) (.slice pv pre.length cv) pre.length CL rfl (hown6.alloc _) ⟨W6.heap.size, 0, none⟩ 1 1 [.bool false, .int .i64 (130 + (pre.length : Int)), .slice (some ⟨W5.heap.size, 0, none⟩) 64 64] rfl rfl (qr_cells W6 #[.bool false, .int .i64 (130 + (pre.length : Int)), .slice (some ⟨W5.heap.size, 0, none⟩) 64 64] 96 [.bool false, .int .i64 (130 + (pre.length : Int)), .slice (some ⟨W5.heap.size, 0, none⟩) 64 64] rfl) (by intro y hy; simp only [List.mem_cons, List.not_mem_nil, or_false] at hy; rcases hy with rfl | rfl | rfl <;> rfl) (by decide) (by unfold maxLen; omega) (by omega) (by rw [World.size_alloc]; omega) (W6.heap.size + 1) (World.size_alloc _ _) ?_
    intro g cap w8 hown1 hgrow1 hat hlt
    rw [show (130 + (pre.length : Int) : Int) = ((130 + pre.length : Nat) : Int) from by push_cast; rfl] at hown1
    obtain ⟨⟨x1, x2⟩, hFIN⟩ := (show ∀ (ob : Obj) (W8 : World) (g cap : Nat), _ from HS8) _ w8 g cap hown1 hgrow1 hat
    have q8 : w8.cell? ⟨w4.heap.size, 0, none⟩ = some (.int .i64 1) := by
      have c := (kb_alloc 0 W6 (.cells #[.bool false, .int .i64 (130 + (pre.length : Int)), .slice (some ⟨W5.heap.size, 0, none⟩) 64 64] 96)).cell q6
      refine (World.cell?_of_block (hgrow1.block w4.heap.size (lt_of_cell' c) (fun e => ?_))).trans c
      have := (hown6.lt _ e.symm).1
      omega
    have HFIN : Hid (∀ W9 : World, _) := hFIN
    clear HS8 hown1 hgrow1 hat hlt hFIN hS6 hS6a hown6 q6 hi1 hz0 hz1 hz2
    refine hK.out _ _ (fun _ => ⟨x1, q8⟩) ?_
    clear hK K
    try simp only [Act.put, List.setIfInBounds_toArray, List.set_cons_zero, List.set_cons_succ]
    refine AnyL.oneAt 12 rfl (by kernel_rfl) rfl ?_
    intro K hK
    go_simp
    refine hK.out _ _ (fun h => absurd rfl h) ?_
    clear hK K x1 x2 q8
    try simp only [Act.put, List.setIfInBounds_toArray, List.set_cons_zero, List.set_cons_succ]
    refine AnyL.done (by kernel_rfl) ?_
    exact (show ∀ W9 : World, _ from HFIN) _ rfl
  case done =>
    intro Dm xs X hD hS hI hx
    obtain ⟨ho, hlen⟩ := hS
    obtain ⟨F, v, V, G, h1, h2, h3, h4, h5, h6⟩ := hI
    obtain ⟨hm0, hm1, hm2⟩ := (show _ ∧ _ ∧ _ from HMM)
    have hbe : BE 3 (w4.heap.size + 4) 96 X v (opn n) (opF A n 1 130 xg) V G := by
      rw [hlen] at h2
      exact h2.ext9 (fun j hj => h6 ho j (by omega))
    clear h2 h6 ho hlen
    obtain ⟨q0, hq0⟩ : ∃ q0, q0 = opn n := ⟨_, rfl⟩
    have hq1 : (q0 : Int) ≤ 128 := by have := opn_le hm1; omega
    obtain ⟨pv, cv, rfl⟩ := be_slice hbe
    have c7 : X.cell? ⟨w4.heap.size + 1, 0, none⟩ = some (.slice pv (opn n) cv) := cell_of h1 rfl
    have c6 : X.cell? ⟨w4.heap.size, 0, none⟩ = some (.int .i64 1) := cell_of h3 rfl
    have c5 : X.cell? ⟨P5, 1, none⟩ = some (.int .i64 xg) := h4.cell (cell_of (show _ ∧ _ from HP).1 rfl)
    have hok : Hok true (xg + 1) (n : Int) := ⟨rfl, by omega, by omega, by omega, by omega⟩
    have hsg : -9223372036854775808 ≤ sgz A n ∧ sgz A n ≤ 9223372036854775807 := w64_rg (smz A n)
    have HSUM : Hid (∀ W, Kb 0 X W → Calls Try.prog 72 #[.slice (some a) n ca] W fun e w' => e = .returned (.int .i64 (sgz A n)) ∧ Kb 0 W w') := (fun W k => im_sumof W ⟨some a, ca, rfl, fun _ => ⟨a, rfl, hm2, fun i hi => (((show Kb 0 w w4 from HF).trans h4).trans k).cell ((show _ ∧ _ from HRA).1 i hi)⟩⟩ (by omega) (show _ ∧ _ from HRA).2 : ∀ W, _)
    have HHD : Hid (∀ W, Calls Try.prog 71 #[.agg #[.bool true, .int .i64 (xg + 1), .int .i64 (n : Int), .int .i64 (sgz A n)]] W fun e w' => ∃ b, e = .returned (.slice (some ⟨b, 0, none⟩) 64 64) ∧ W.heap.size ≤ b ∧ b < w'.heap.size ∧ OwnR w' (.slice (some ⟨b, 0, none⟩) 64 64) b 64 (fun i => .int .u8 (hdb (xg + 1) (n : Int) (sgz A n) i)) ∧ Kb 0 W w') := (fun W => im_head_yes W hok hsg.1 hsg.2 : ∀ W, _)
    have HBE : Hid (BE 3 (w4.heap.size + 4) 96 X (.slice pv (opn n) cv) (opn n) (opF A n 1 130 xg) V G ∧ Kb 0 w X ∧ w4.heap.size + 4 ≤ X.heap.size ∧ X.heap[Dm]? = some (.deferred (some [])) ∧ w.heap.size ≤ Dm ∧ Dm < X.heap.size ∧ w.heap.size ≤ w4.heap.size) := (⟨hbe, (show Kb 0 w w4 from HF).trans h4, h5, hx, by have := (show Kb 0 w w4 from HF).size; omega, (Array.getElem?_eq_some_iff.1 hx).1, (show Kb 0 w w4 from HF).size⟩ : _ ∧ _)
    obtain ⟨sm, hsm⟩ : ∃ sm, sm = sgz A n := ⟨_, rfl⟩
    rw [← hsm] at HSUM HHD
    have HSM : Hid (sm = sgz A n) := hsm
    clear hsm
    have hgA : (-9223372036854775808 : Int) ≤ xg + 1 ∧ xg + 1 ≤ 9223372036854775807 := by omega
    clear hok hsg h1 h3 h4 h5 hx hbe hq0 hD
    dsimp only [Exit.inBlock, Exit.then]
    go_at_K
    go_upto_region 13 with fail
    refine AnyL.region (S := fun W' => W'.cell? ⟨P5, 1, none⟩ = some (.int .i64 xg)) (z := 9) (by kernel_rfl) ?_
    obtain ⟨W0, hW0⟩ : ∃ W0, W0 = X.drew := ⟨_, rfl⟩
    have HK0 : Hid (Kb 0 X W0) := (by rw [hW0]; exact Kb.drewN (Kb.refl _ _) 1 : Kb 0 X W0)
    have hS0 : (fun W' : World => W'.cell? ⟨P5, 1, none⟩ = some (.int .i64 xg)) W0 := (show Kb 0 X W0 from HK0).cell c5
    rw [← hW0]
    clear hW0
    refine AnyL.takeAt 0 (.pointer (some ⟨P5, 1, none⟩)) rfl (by kernel_rfl) (by kernel_rfl) (by kernel_rfl) (by kernel_rfl) (fun _ _ _ h => h) rfl hS0 (by intro W hW; first | go_simp | (have i0 := hW; go_simp)) ?_
    try simp only [Act.put, List.setIfInBounds_toArray, List.set_cons_zero, List.set_cons_succ]
    refine AnyL.takeAt 1 (.int .i64 xg) rfl (by kernel_rfl) (by kernel_rfl) (by kernel_rfl) (by kernel_rfl) (fun _ _ _ h => h) rfl hS0 (by intro W hW; first | go_simp | (have i0 := hW; go_simp)) ?_
    try simp only [Act.put, List.setIfInBounds_toArray, List.set_cons_zero, List.set_cons_succ]
    refine AnyL.takeAt 2 (.int .i64 (xg + 1)) rfl (by kernel_rfl) (by kernel_rfl) (by kernel_rfl) (by kernel_rfl) (fun _ _ _ h => h) rfl hS0 (by intro W hW; go_simp; rw [IntKind.wrap_i64]; omega) ?_
    try simp only [Act.put, List.setIfInBounds_toArray, List.set_cons_zero, List.set_cons_succ]
    refine AnyL.takeAt 3 (.slice (some a) n ca) rfl (by kernel_rfl) (by kernel_rfl) (by kernel_rfl) (by kernel_rfl) (fun _ _ _ h => h) rfl hS0 (by intro W hW; first | go_simp | (have i0 := hW; go_simp)) ?_
    try simp only [Act.put, List.setIfInBounds_toArray, List.set_cons_zero, List.set_cons_succ]
    refine AnyL.takeAt 4 (.int .i64 (n : Int)) rfl (by kernel_rfl) (by kernel_rfl) (by kernel_rfl) (by kernel_rfl) (fun _ _ _ h => h) rfl hS0 (by intro W hW; first | go_simp | (have i0 := hW; go_simp)) ?_
    try simp only [Act.put, List.setIfInBounds_toArray, List.set_cons_zero, List.set_cons_succ]
    refine AnyL.takeAt 5 (.slice (some a) n ca) rfl (by kernel_rfl) (by kernel_rfl) (by kernel_rfl) (by kernel_rfl) (fun _ _ _ h => h) rfl hS0 (by intro W hW; first | go_simp | (have i0 := hW; go_simp)) ?_
    try simp only [Act.put, List.setIfInBounds_toArray, List.set_cons_zero, List.set_cons_succ]
    refine AnyL.oneAt 6 rfl (by kernel_rfl) rfl ?_
    intro K hK
    go_simp
    refine ((show ∀ W, Kb 0 X W → _ from HSUM) W0 HK0).mono ?_
    rintro e W1 ⟨rfl, k1⟩
    have HK1 : Hid (Kb 0 X W1) := (show Kb 0 X W0 from HK0).trans k1
    have hS1 : W1.cell? ⟨P5, 1, none⟩ = some (.int .i64 xg) := k1.cell hS0
    clear k1 HSUM hS0 HK0
    refine hK.out _ _ (fun _ => hS1) ?_
    clear hK K
    try simp only [Act.put, List.setIfInBounds_toArray, List.set_cons_zero, List.set_cons_succ]
    refine AnyL.oneAt 7 rfl (by kernel_rfl) rfl ?_
    intro K hK
    go_simp
    refine hK.out _ _ (fun _ => hS1) ?_
    clear hK K
    try simp only [Act.put, List.setIfInBounds_toArray, List.set_cons_zero, List.set_cons_succ]
    refine AnyL.oneAt 8 rfl (by kernel_rfl) rfl ?_
    intro K hK
    go_simp
    refine ((show ∀ W, _ from HHD) W1).mono ?_
    rintro e W2 ⟨b, rfl, hb1, hb2, ob, k2⟩
    have HK2 : Hid (Kb 0 X W2) := (show Kb 0 X W1 from HK1).trans k2
    have HOB : Hid (X.heap.size ≤ b ∧ b < W2.heap.size ∧ OwnR W2 (.slice (some ⟨b, 0, none⟩) 64 64) b 64 (fun i => .int .u8 (hdb (xg + 1) (n : Int) sm i))) := (⟨Nat.le_trans (show Kb 0 X W1 from HK1).size hb1, hb2, ob⟩ : _ ∧ _)
    have hS2 : W2.cell? ⟨P5, 1, none⟩ = some (.int .i64 xg) := k2.cell hS1
    clear HHD hb1 hb2 ob k2 hS1 HK1
    refine hK.out _ _ (fun _ => hS2) ?_
    clear hK K
    try simp only [Act.put, List.setIfInBounds_toArray, List.set_cons_zero, List.set_cons_succ]
    refine AnyL.oneAt 9 rfl (by kernel_rfl) rfl ?_
    intro K hK
    go_simp
    refine hK.out _ _ (fun h => absurd rfl h) ?_
    clear hK K
    try simp only [Act.put, List.setIfInBounds_toArray, List.set_cons_zero, List.set_cons_succ]
    refine AnyL.done (by kernel_rfl) ?_
    try dsimp only [Exit.inBlock, Exit.then]
    go_at_K
    obtain ⟨hbe, kwX, zX, hxD, hD1, hD2, hz4⟩ := (show _ ∧ _ ∧ _ ∧ _ ∧ _ ∧ _ ∧ _ from HBE)
    have k2 := (show Kb 0 X W2 from HK2)
    have c70 := k2.cell c7
    have c60 := k2.cell c6
    have HOW : Hid (W2.ownsRow (w4.heap.size + 4) 96 3 (.slice pv (opn n) cv) (opn n) (cel 3 (opF A n 1 130 xg) V (opn n)) ∧ w4.heap.size + 4 ≤ W2.heap.size) := (⟨own_keep hbe.ro (fun g hg => k2.block g (Nat.zero_le _) (hbe.ro.lt g hg).2), Nat.le_trans zX k2.size⟩ : _ ∧ _)
    obtain ⟨CL, hCL⟩ : ∃ CL, CL = cel 3 (opF A n 1 130 xg) V (opn n) := ⟨_, rfl⟩
    rw [← hCL] at HOW
    have HFN : Hid (∀ (ob : Obj) (W8 : World) (g cap : Nat), W8.ownsRow (w4.heap.size + 4) 96 3 (.slice (some ⟨g, 0, none⟩) (opn n + 3) cap) (opn n + 3) (CL ++ [.bool true, .int .i64 0, .slice none 0 0, .bool false, .int .i64 1, .slice (some ⟨b, 0, none⟩) 64 64, .bool true, .int .i64 0, .slice none 0 0]) → (W2.alloc ob).grownBy W8 (Value.slice pv (opn n) cv).ownBlock → ((Value.slice pv (opn n) cv).ownBlock = some g ∨ g = W2.heap.size + 1) →
        W8.heap[Dm]? = some (.deferred (some [])) ∧ ∀ o' : Obj, ∃ V' G', BE 3 w.heap.size 96 (W8.putObj Dm o') (.slice (some ⟨g, 0, none⟩) (opn n + 3) cap) (opn n + 3) (opF A n 1 130 xg) V' G' ∧ Kb 0 w (W8.putObj Dm o')) := (fun ob W8 g cap h8 g8 ha => by
      obtain ⟨ob1, ob2, ob3⟩ := (show _ ∧ _ ∧ _ from HOB)
      have f0 : opF A n 1 130 xg (opn n) = ⟨true, 0, 0, fun _ => 0⟩ := opF_s (by omega) (by omega)
      have f1 : opF A n 1 130 xg (opn n + 1) = ⟨false, ((1 : Nat) : Int), 64, hdb (xg + 1) (n : Int) (sgz A n)⟩ := opF_h
      have f2 : opF A n 1 130 xg (opn n + 2) = ⟨true, 0, 0, fun _ => 0⟩ := opF_s (by omega) (by omega)
      have st := BE.step3 hbe zX k2.size (fun q _ hq => k2.block q (Nat.zero_le _) hq) (by rw [f0]) (by rw [f2]) (vx := .slice (some ⟨b, 0, none⟩) 64 64) (gx := b) (by rw [f1, ← (show sm = _ from HSM)]; exact ob3) (fun _ => ⟨ob1, ob2⟩) (by rw [f0, f1, f2, ← hCL]; exact h8) g8 ha
      have z8 : W2.heap.size + 1 ≤ W8.heap.size := by have := g8.size; rw [World.size_alloc] at this; exact this
      have b8 : ∀ q, q < X.heap.size → some q ≠ (Value.slice pv (opn n) cv).ownBlock → W8.heap[q]? = X.heap[q]? := fun q hq hn => ((g8.block q (by rw [World.size_alloc]; have := k2.size; omega) hn).trans ((kb_alloc 0 W2 ob).block q (Nat.zero_le _) (by have := k2.size; omega))).trans (k2.block q (Nat.zero_le _) hq)
      have hn2 : some Dm ≠ (Value.slice pv (opn n) cv).ownBlock := fun e => by
        rcases hbe.ro.2 with ⟨e1, _⟩ | ⟨g', cap', cur, e1, _, e3, _⟩
        · rw [e1] at e; cases e
        · rw [e1] at e
          have e' : Dm = g' := by simpa [Value.ownBlock] using e
          rw [e', e3] at hxD
          cases hxD
      have hD8 : W8.heap[Dm]? = some (.deferred (some [])) := (b8 Dm hD2 hn2).trans hxD
      refine ⟨hD8, fun o' => ⟨_, _, (st.mono9 (show w.heap.size ≤ w4.heap.size + 4 by omega)).keepC (by simp [World.putObj]) (fun q o hq hc => World.putObj_heap_other (fun e => ?_)), ?_⟩⟩
      · rw [e, hD8] at hq
        cases hq
        cases hc
      · refine ⟨(g8.os.trans k2.os).trans kwX.os, (g8.output.trans k2.output).trans kwX.output, by have := kwX.size; have := k2.size; simp [World.putObj]; omega, fun q h1 h2 => ?_⟩
        rw [World.putObj_heap_other (fun e => by omega)]
        exact (b8 q (by have := kwX.size; omega) (fun e => by have := (hbe.ro.lt q e.symm).1; omega)).trans (kwX.block q h1 h2) : ∀ (ob : Obj) (W8 : World) (g cap : Nat), _)
    have hq2 : ((opn n : Nat) : Int) ≤ 128 := by have := opn_le hm1; omega
    obtain ⟨i1, hi1, hz0, hz1, hz2⟩ := infoOp
    have HI1 : Hid (Try.prog.info? 96 = some i1) := hi1
    clear hi1 hbe kwX zX hxD hD1 hD2 hz4 HBE HOB HK2 HSM hCL k2 hS2 c5 c6 c7
    go_wp2_with (refine wpList_append_lies _ (by rfl) (.tmp 63) (.tmp 69) 56 (by rfl) (w4.heap.size + 4) 96 i1 (.agg #[.bool false, .int .i64 0, .slice none 0 0]) 3 40 Try.underlying56 HI1 hz0 hz1 hz2 rfl (by decide) (.slice pv (opn n) cv) (opn n) CL (by rfl) ((show _ ∧ _ from HOW).1.alloc _) ⟨W2.heap.size, 0, none⟩ 3 3 [.bool true, .int .i64 0, .slice none 0 0, .bool false, .int .i64 1, .slice (some ⟨b, 0, none⟩) 64 64, .bool true, .int .i64 0, .slice none 0 0] (by rfl) rfl (qr_cells W2 #[.bool true, .int .i64 0, .slice none 0 0, .bool false, .int .i64 1, .slice (some ⟨b, 0, none⟩) 64 64, .bool true, .int .i64 0, .slice none 0 0] 96 [.bool true, .int .i64 0, .slice none 0 0, .bool false, .int .i64 1, .slice (some ⟨b, 0, none⟩) 64 64, .bool true, .int .i64 0, .slice none 0 0] rfl) (by intro y hy; simp only [List.mem_cons, List.not_mem_nil, or_false] at hy; rcases hy with rfl | rfl | rfl | rfl | rfl | rfl | rfl | rfl | rfl <;> rfl) (by decide) (by unfold maxLen; omega) (by omega) (by rw [World.size_alloc]; have := (show _ ∧ _ from HOW).2; omega) (W2.heap.size + 1) (World.size_alloc _ _) ?_; intro g cap w8 hown1 hgrow1 hat hlt; have HN : Hid (w8.heap[Dm]? = some (.deferred (some [])) ∧ ∀ o' : Obj, ∃ V' G', BE 3 w.heap.size 96 (w8.putObj Dm o') (.slice (some ⟨g, 0, none⟩) (opn n + 3) cap) (opn n + 3) (opF A n 1 130 xg) V' G' ∧ Kb 0 w (w8.putObj Dm o')) := (show ∀ (ob : Obj) (W8 : World) (g cap : Nat), _ from HFN) _ w8 g cap hown1 hgrow1 hat; clear hown1 hgrow1 hat hlt HFN HOW)
    refine ⟨by simp, .inl ⟨Dm, _, rfl, run_takeDeferred (show _ ∧ _ from HN).1, ?_⟩⟩
    refine ⟨_, by simp [results, Try.results33, go_sem]; rfl, ?_⟩
    obtain ⟨V', G', q1, q2⟩ := (show _ ∧ _ from HN).2 _
    exact ⟨_, V', G', rfl, q1, q2⟩
  case stop =>
    intro D c pre X _ _ h _
    exact h.elim
end Go.Proofs.Ytaggciimacanbaa.Fo

namespace Go.Proofs.Ytaggciimacanbaa.Fo
open Go.ChangeShapes Go.WideShapes Go.ChangeAt Go.RowKit Go.Shelf
set_option linter.unusedVariables false
set_option maxRecDepth 100000
set_option linter.unusedSimpArgs false
attribute [local go_sem] Oper.semAt_some
set_option maxHeartbeats 8000000 in
theorem im_ops_y2 {v1 v2 : Value} {D : Dd} {a : Addr} {n ca : Nat} {A : Nat → Int} {xg : Int} {xn : Nat} {xA : Nat → Int} (w : World) (ha : RowD 0 w v1 v2 D) (hd : BdD D) (hok : Dok D) (hm : D.m = 0) (hn0 : 0 < n) (hn : n ≤ 8192) (hca : n ≤ ca) (hg0 : 0 ≤ xg) (hg1 : xg < 1000000000000) (hr : ∀ i, i < n → w.cell? (a.add i) = some (.int .u8 (A i))) (hA : ∀ i, i < n → 0 ≤ A i ∧ A i ≤ 255) (hN : ∀ x1 x2 W, RowD 0 W x1 x2 D → Calls Try.prog 28 #[.agg #[x1, x2]] W (KiP true xg 1 xn xA W)) :
    Calls Try.prog 33 #[.agg #[v1, v2], .slice (some a) n ca] w fun e w' => ∃ v V G, e = .returned v ∧ BE 3 w.heap.size 96 w' v (opn n + 3) (opF A n 0 (2 + 0 * 128) xg) V G ∧ Kb 0 w w' := by
  obtain ⟨⟨p1, c1, rfl, -⟩, ⟨p2, c2, rfl, -⟩⟩ := id ha
  obtain ⟨w1, hw1⟩ : ∃ w1, w1 = w.alloc (.cells #[.slice p1 D.n c1, .slice p2 D.m c2] 30) := ⟨_, rfl⟩
  have k1 : Kb 0 w w1 := by rw [hw1]; exact kb_alloc _ _ _
  have b1 : w1.heap[w.heap.size]? = some (.cells #[.slice p1 D.n c1, .slice p2 D.m c2] 30 (0, 0)) := by rw [hw1]; exact alloc_new _ _ _
  have u0 : w1.cell? ⟨w.heap.size, 0, none⟩ = some (.slice p1 D.n c1) := cell_of b1 rfl
  have u1 : w1.cell? ⟨w.heap.size, 1, none⟩ = some (.slice p2 D.m c2) := cell_of b1 rfl
  have HW1 : Hid (w1 = w.alloc (.cells #[.slice p1 D.n c1, .slice p2 D.m c2] 30)) := hw1
  have HK1 : Hid (Kb 0 w w1) := k1
  have HI : Calls Try.prog 66 #[.agg #[.slice p1 D.n c1, .slice p2 D.m c2]] w1 fun e w' => e = .returned (.bool true) ∧ Kb 0 w1 w' := by
    have := im_dok w1 (ha.keep k1) hd
    rw [dc_t hok] at this
    exact this
  have HCA : Hid (∀ W, Kb 0 w1 W → Calls Try.prog 28 #[.agg #[.slice p1 D.n c1, .slice p2 D.m c2]] W (KiP true xg 1 xn xA W)) := (fun W k => hN _ _ W (ha.keep (k1.trans k)) : ∀ W, _)
  have HRA : Hid ((∀ i, i < n → w.cell? (a.add i) = some (.int .u8 (A i))) ∧ (∀ i, i < n → 0 ≤ A i ∧ A i ≤ 255)) := (⟨hr, hA⟩ : _ ∧ _)
  have hmI : (D.m : Int) = 0 := by omega
  have hn1 : ¬ (n : Int) = 0 := by omega
  have hn2 : ¬ (8192 : Int) < (n : Int) := by omega
  have hx1 : ((n : Int) == 0) = false := by simp; omega
  have hgx : ¬ xg = 1000000000000 := by omega
  have HMM : Hid (0 < n ∧ n ≤ 8192 ∧ n ≤ ca) := (⟨hn0, hn, hca⟩ : _ ∧ _ ∧ _)
  clear hw1 k1 b1 ha hd hok hN hm hca hr hA
  refine calls_of_wp_marks Try.func33 rfl ?_
  simp only [Try.ntmps33, List.size_toArray, List.length_cons, List.length_nil, Nat.reduceAdd, Nat.reduceSub, Array.replicate_succ, Array.replicate_zero, List.push_toArray, List.append_toArray, List.nil_append, List.cons_append]
  go_upto_region 1 with fail
  rw [← (show w1 = _ from HW1)]
  clear HW1
  go_wp2_with fail
  refine HI.mono ?_
  rintro e w3 ⟨rfl, k3⟩
  have u30 := k3.cell u0
  have u31 := k3.cell u1
  have HC := (show ∀ W, Kb 0 w1 W → _ from HCA) w3 k3
  have HK3 : Hid (Kb 0 w w3) := (show Kb 0 w w1 from HK1).trans k3
  clear HI u0 u1 k3 HK1 HCA
  go_wp2_with fail
  refine HC.mono ?_
  rintro e wA ⟨vb', gb, rfl, ob, hgb, kA⟩
  obtain ⟨pb, cb, rfl, -⟩ := ob.sl
  obtain ⟨P5, hP5⟩ : ∃ P5, P5 = wA.heap.size := ⟨_, rfl⟩
  obtain ⟨w4, hw4⟩ : ∃ w4, w4 = wA.alloc (.cells #[.bool true, .int .i64 xg, .int .i64 1, .slice pb xn cb] 51) := ⟨_, rfl⟩
  have b5 : w4.heap[P5]? = some (.cells #[.bool true, .int .i64 xg, .int .i64 1, .slice pb xn cb] 51 (0, 0)) := by rw [hw4, hP5]; exact alloc_new _ _ _
  have hP4 : P5 < w4.heap.size := by rw [hw4, World.size_alloc, ← hP5]; omega
  have e0 : w4.cell? ⟨P5, 0, none⟩ = some (.bool true) := cell_of b5 rfl
  have e1 : w4.cell? ⟨P5, 1, none⟩ = some (.int .i64 xg) := cell_of b5 rfl
  have e2 : w4.cell? ⟨P5, 2, none⟩ = some (.int .i64 1) := cell_of b5 rfl
  have HF : Hid (Kb 0 w w4) := ((show Kb 0 w w3 from HK3).trans kA).trans (by rw [hw4]; exact kb_alloc _ _ _)
  have HW4 : Hid (w4 = wA.alloc (.cells #[.bool true, .int .i64 xg, .int .i64 1, .slice pb xn cb] 51) ∧ P5 = wA.heap.size) := (⟨hw4, hP5⟩ : _ ∧ _)
  clear HC u30 u31 ob hgb kA hP5 hw4 HK3
  go_upto_region 4 with fail
  rw [← (show _ ∧ _ from HW4).1, ← (show _ ∧ _ from HW4).2]
  clear HW4
  have HCK := fun W => chk_make (some a) n ca W
  go_wp2_with fail
  refine (HCK _).mono ?_
  rintro e w7 ⟨rfl, hw7⟩
  simp only [World.size_alloc] at hw7 ⊢
  have HW7 : Hid (w7 = _) := hw7
  clear hw7 HCK
  go_wp2_with fail
  obtain ⟨g0, g1, g2, g3, k47⟩ := four_newO w4 _ _ _ _ _ _ _ _ w7 (show w7 = _ from HW7)
  have z7 : w7.heap.size = w4.heap.size + 4 := by rw [show w7 = _ from HW7]; simp [World.size_alloc]
  have s2 : w7.cell? ⟨w4.heap.size + 1 + 1, 0, none⟩ = some (.slice (some a) n ca) := cell_of g2 rfl
  have s3 : w7.cell? ⟨w4.heap.size + 1 + 1 + 1, 0, none⟩ = some (.int .i64 64) := cell_of g3 rfl
  have HO7 : OI w4 A n 0 0 2 xg [] w7 := ⟨fun _ => ⟨false, 0, 0, fun _ => 0⟩, _, fun _ => .slice none 0 0, fun _ => 0, g1, BE.nil _ _ _ _ _ _ _, g0, k47, by omega, fun _ i hi => absurd hi (Nat.not_lt_zero _)⟩
  obtain ⟨hm0, hm1, hm2⟩ := (show _ ∧ _ ∧ _ from HMM)
  have HP : Hid (w4.heap[P5]? = some (.cells #[.bool true, .int .i64 xg, .int .i64 1, .slice pb xn cb] 51 (0, 0)) ∧ P5 < w4.heap.size) := (⟨b5, hP4⟩ : _ ∧ _)
  clear g0 g1 g2 g3 k47 HW7 b5 hP4 e0 e1 e2
  refine (wpIn_wide (n := 3)).1 ?_
  refine wpIn_rangeFunc_ownF (α := {j : Nat // j < opn n}) (n := 3) rfl (by omega) (gf := 103) (lb := #[.pointer (some ⟨w4.heap.size + 1 + 1, 0, none⟩), .pointer (some ⟨w4.heap.size + 1 + 1 + 1, 0, none⟩)]) rfl trivial (enters_of Try.func103 (by kernel_rfl) rfl)
    (encs := fun x => #[pcv a n x.val]) (Kp := Kp3 w4.heap.size (w4.heap.size + 1 + 1) (w4.heap.size + 1 + 1 + 1)) (chk_stops 2 (by omega) (w4.heap.size + 1 + 1) (w4.heap.size + 1 + 1 + 1) w4 w7 hm0 hm1 hm2 s2 s3)
    (fun h k => Kp3.trans h k) (fun X l o o' hl _ _ _ => Kp3.put X l o' (by omega) (by omega) (by omega)) (Below.refl _ _) (fun _ => rfl)
    (OI w4 A n 0 0 2 xg) (fun _ _ _ => False) (by rw [z7]; exact own_oi) (fun c _ _ _ _ h => h.elim) HO7 ?a1 ?assign ?body ?done ?stop
  case assign =>
    intro l x X K hKK
    gi_wp2
    exact hKK
  case body =>
    intro l pre x X hI hpl
    obtain ⟨F, v, V, G, h1, h2, h3, h4, h5, h6⟩ := hI
    obtain ⟨pv, cv, rfl⟩ := be_slice h2
    obtain ⟨hm0, hm1, hm2⟩ := (show _ ∧ _ ∧ _ from HMM)
    have hL : (pre.length : Int) < 128 := by have := opn_le hm1; omega
    have hjn : x.val < opn n := x.property
    obtain ⟨B1, hB1⟩ : ∃ B1, B1 = w4.heap.size + 1 := ⟨_, rfl⟩
    have c7 : X.cell? ⟨w4.heap.size + 1, 0, none⟩ = some (.slice pv pre.length cv) := cell_of h1 rfl
    have c6 : X.cell? ⟨w4.heap.size, 0, none⟩ = some (.int .i64 0) := cell_of h3 rfl
    have HRW : Hid (∀ W, Kb 0 X W → RowV W (pcv a n x.val) (pcn n x.val) (fun i => .int .u8 (A (x.val * 64 + i)))) := (fun W k => row_pcv (fun i hi => (((show Kb 0 w w4 from HF).trans h4).trans k).cell ((show _ ∧ _ from HRA).1 i hi)) : ∀ W, _)
    have HNX : Hid (∀ W5 W6 : World, Kb 0 X W5 → W6 = W5.alloc (.cells (pgl (pcA A n x.val)).toArray 92) → _) := (fun W5 W6 k5 e6 => OI.next (x := x) h1 h2 h3 h4 h5 h6 k5 e6 (fun ho => by rw [ho.app.2] ; exact (opF_p hpl).symm) : ∀ W5 W6 : World, _)
    obtain ⟨pc, hpc⟩ : ∃ pc, pc = pcv a n x.val := ⟨_, rfl⟩
    rw [← hpc] at HRW ⊢
    have hLp : 0 ≤ (pre.length : Int) := by omega
    have hxl : Hid (w4.heap.size + 4 ≤ X.heap.size) := h5
    clear h1 h2 h3 h4 h5 h6 hB1 hpc
    refine wpIn_block ?_
    refine AnyL.regionIn (S := fun W' => W'.cell? ⟨w4.heap.size + 1, 0, none⟩ = some (.slice pv pre.length cv) ∧ W'.cell? ⟨w4.heap.size, 0, none⟩ = some (.int .i64 0)) (z := 12) (by kernel_rfl) (by kernel_rfl) (lets_no _) ?_
    have hS0 : (fun W' : World => W'.cell? ⟨w4.heap.size + 1, 0, none⟩ = some (.slice pv pre.length cv) ∧ W'.cell? ⟨w4.heap.size, 0, none⟩ = some (.int .i64 0)) X.drew := ⟨c7, c6⟩
    obtain ⟨W0, hW0⟩ : ∃ W0, W0 = X.drew := ⟨_, rfl⟩
    have HK0 : Hid (Kb 0 X W0) := (by rw [hW0]; exact Kb.drewN (Kb.refl _ _) 1 : Kb 0 X W0)
    rw [← hW0] at hS0 ⊢
    clear hW0 c7 c6
    refine AnyL.takeAt 0 (.slice pv pre.length cv) rfl (by kernel_rfl) (by kernel_rfl) (by kernel_rfl) (by kernel_rfl) (fun _ _ _ h => h) rfl hS0 (by intro W hW; first | go_simp | (obtain ⟨i0, i1⟩ := hW; go_simp)) ?_
    try simp only [Act.put, List.setIfInBounds_toArray, List.set_cons_zero, List.set_cons_succ]
    refine AnyL.takeAt 1 (.int .i64 0) rfl (by kernel_rfl) (by kernel_rfl) (by kernel_rfl) (by kernel_rfl) (fun _ _ _ h => h) rfl hS0 (by intro W hW; first | go_simp | (obtain ⟨i0, i1⟩ := hW; go_simp)) ?_
    try simp only [Act.put, List.setIfInBounds_toArray, List.set_cons_zero, List.set_cons_succ]
    refine AnyL.takeAt 3 (.slice pv pre.length cv) rfl (by kernel_rfl) (by kernel_rfl) (by kernel_rfl) (by kernel_rfl) (fun _ _ _ h => h) rfl hS0 (by intro W hW; first | go_simp | (obtain ⟨i0, i1⟩ := hW; go_simp)) ?_
    try simp only [Act.put, List.setIfInBounds_toArray, List.set_cons_zero, List.set_cons_succ]
    refine AnyL.takeAt 6 (pc) rfl (by kernel_rfl) (by kernel_rfl) (by kernel_rfl) (by kernel_rfl) (fun _ _ _ h => h) rfl hS0 (by intro W hW; first | go_simp | (obtain ⟨i0, i1⟩ := hW; go_simp)) ?_
    try simp only [Act.put, List.setIfInBounds_toArray, List.set_cons_zero, List.set_cons_succ]
    refine AnyL.takeAt 4 (.int .i64 (pre.length : Int)) rfl (by kernel_rfl) (by kernel_rfl) (by kernel_rfl) (by kernel_rfl) (fun _ _ _ h => h) rfl hS0 (by intro W hW; first | go_simp | (obtain ⟨i0, i1⟩ := hW; go_simp)) ?_
    try simp only [Act.put, List.setIfInBounds_toArray, List.set_cons_zero, List.set_cons_succ]
    refine AnyL.oneAt 2 rfl (by kernel_rfl) rfl ?_
    intro K hK
    go_simp
    refine (im_imgblk0 W0).mono ?_
    rintro e Wz ⟨rfl, hWz⟩
    rw [hWz]
    clear hWz Wz
    refine hK.out _ _ (fun _ => hS0) ?_
    clear hK K
    try simp only [Act.put, List.setIfInBounds_toArray, List.set_cons_zero, List.set_cons_succ]
    refine AnyL.takeAt 5 (.int .i64 (2 + (pre.length : Int))) rfl (by kernel_rfl) (by kernel_rfl) (by kernel_rfl) (by kernel_rfl) (fun _ _ _ h => h) rfl hS0 (by intro W hW; go_simp; rw [IntKind.wrap_i64]; omega) ?_
    try simp only [Act.put, List.setIfInBounds_toArray, List.set_cons_zero, List.set_cons_succ]
    refine AnyL.oneAt 7 rfl (by kernel_rfl) rfl ?_
    intro K hK
    go_simp
    refine (im_pageof W0 ((show ∀ W, Kb 0 X W → _ from HRW) W0 HK0) (pcn_le _ _)).mono ?_
    rintro e W5 ⟨rfl, k5⟩
    rw [pad_pcA]
    have HK5 : Hid (Kb 0 X W5) := (show Kb 0 X W0 from HK0).trans k5
    have hS5 : W5.cell? ⟨w4.heap.size + 1, 0, none⟩ = some (.slice pv pre.length cv) ∧ W5.cell? ⟨w4.heap.size, 0, none⟩ = some (.int .i64 0) := ⟨k5.cell hS0.1, k5.cell hS0.2⟩
    obtain ⟨PG, hPG⟩ : ∃ PG, PG = pgl (pcA A n x.val) := ⟨_, rfl⟩
    have HNY : Hid (∀ W6 : World, W6 = W5.alloc (.cells PG.toArray 92) → _) := (by rw [hPG]; exact fun W6 e6 => (show ∀ W5 W6 : World, _ from HNX) W5 W6 HK5 e6 : ∀ W6 : World, _)
    rw [← hPG]
    clear k5 hS0 HK0 HNX HRW hPG
    refine hK.out _ _ (fun _ => hS5) ?_
    clear hK K
    try simp only [Act.put, List.setIfInBounds_toArray, List.set_cons_zero, List.set_cons_succ]
    refine AnyL.oneAt 8 rfl (by kernel_rfl) rfl ?_
    intro K hK
    go_simp
    refine (im_bytes W5).mono ?_
    rintro e W6 ⟨rfl, hW6⟩
    obtain ⟨CL, ⟨hS6, hown6, h6z, hS6a⟩, H8⟩ := (show ∀ W6 : World, W6 = W5.alloc (.cells PG.toArray 92) → _ from HNY) W6 hW6
    have k56 : Kb 0 W5 W6 := by rw [hW6]; exact kb_alloc _ _ _
    have q6 := k56.cell hS5.2
    have HS8 : Hid (∀ (ob : Obj) (W8 : World) (g cap : Nat), _) := H8
    have hN5 : W5.heap.size < W6.heap.size := by rw [hW6, World.size_alloc]; omega
    clear HNY H8 hW6 k56
    refine hK.out _ _ (fun _ => ⟨hS6, q6⟩) ?_
    clear hK K
    try simp only [Act.put, List.setIfInBounds_toArray, List.set_cons_zero, List.set_cons_succ]
    refine AnyL.oneAt 9 rfl (by kernel_rfl) rfl ?_
    intro K hK
    go_simp
    refine hK.out _ _ (fun _ => ⟨hS6, q6⟩) ?_
    clear hK K
    try simp only [Act.put, List.setIfInBounds_toArray, List.set_cons_zero, List.set_cons_succ]
    refine AnyL.oneAt 10 rfl (by kernel_rfl) rfl ?_
    intro K hK
    go_simp
    refine hK.out _ _ (fun _ => ⟨hS6a _, (kb_alloc 0 W6 _).cell q6⟩) ?_
    clear hK K
    try simp only [Act.put, List.setIfInBounds_toArray, List.set_cons_zero, List.set_cons_succ]
    obtain ⟨i1, hi1, hz0, hz1, hz2⟩ := infoOp
    refine AnyL.oneAt 11 rfl (by kernel_rfl) rfl ?_
    intro K hK
    refine wp_append_lies _ (.tmp 42) (.tmp 52) 56 rfl (w4.heap.size + 4) 96 i1 (.agg #[.bool false, .int .i64 0, .slice none 0 0]) 3 40 Try.underlying56 hi1 hz0 hz1 hz2 rfl (by decide) (.slice pv pre.length cv) pre.length CL rfl (hown6.alloc _) ⟨W6.heap.size, 0, none⟩ 1 1 [.bool false, .int .i64 (2 + (pre.length : Int)), .slice (some ⟨W5.heap.size, 0, none⟩) 64 64] rfl rfl (qr_cells W6 #[.bool false, .int .i64 (2 + (pre.length : Int)), .slice (some ⟨W5.heap.size, 0, none⟩) 64 64] 96 [.bool false, .int .i64 (2 + (pre.length : Int)), .slice (some ⟨W5.heap.size, 0, none⟩) 64 64] rfl) (by intro y hy; simp only [List.mem_cons, List.not_mem_nil, or_false] at hy; rcases hy with rfl | rfl | rfl <;> rfl) (by decide) (by unfold maxLen; omega) (by omega) (by rw [World.size_alloc]; omega) (W6.heap.size + 1) (World.size_alloc _ _) ?_
    intro g cap w8 hown1 hgrow1 hat hlt
    rw [show (2 + (pre.length : Int) : Int) = ((2 + pre.length : Nat) : Int) from by push_cast; rfl] at hown1
    obtain ⟨⟨x1, x2⟩, hFIN⟩ := (show ∀ (ob : Obj) (W8 : World) (g cap : Nat), _ from HS8) _ w8 g cap hown1 hgrow1 hat
    have q8 : w8.cell? ⟨w4.heap.size, 0, none⟩ = some (.int .i64 0) := by
      have c := (kb_alloc 0 W6 (.cells #[.bool false, .int .i64 (2 + (pre.length : Int)), .slice (some ⟨W5.heap.size, 0, none⟩) 64 64] 96)).cell q6
      refine (World.cell?_of_block (hgrow1.block w4.heap.size (lt_of_cell' c) (fun e => ?_))).trans c
      have := (hown6.lt _ e.symm).1
      omega
    have HFIN : Hid (∀ W9 : World, _) := hFIN
    clear HS8 hown1 hgrow1 hat hlt hFIN hS6 hS6a hown6 q6 hi1 hz0 hz1 hz2
    refine hK.out _ _ (fun _ => ⟨x1, q8⟩) ?_
    clear hK K
    try simp only [Act.put, List.setIfInBounds_toArray, List.set_cons_zero, List.set_cons_succ]
    refine AnyL.oneAt 12 rfl (by kernel_rfl) rfl ?_
    intro K hK
    go_simp
    refine hK.out _ _ (fun h => absurd rfl h) ?_
    clear hK K x1 x2 q8
    try simp only [Act.put, List.setIfInBounds_toArray, List.set_cons_zero, List.set_cons_succ]
    refine AnyL.done (by kernel_rfl) ?_
    exact (show ∀ W9 : World, _ from HFIN) _ rfl
  case done =>
    intro Dm xs X hD hS hI hx
    obtain ⟨ho, hlen⟩ := hS
    obtain ⟨F, v, V, G, h1, h2, h3, h4, h5, h6⟩ := hI
    obtain ⟨hm0, hm1, hm2⟩ := (show _ ∧ _ ∧ _ from HMM)
    have hbe : BE 3 (w4.heap.size + 4) 96 X v (opn n) (opF A n 0 2 xg) V G := by
      rw [hlen] at h2
      exact h2.ext9 (fun j hj => h6 ho j (by omega))
    clear h2 h6 ho hlen
    obtain ⟨q0, hq0⟩ : ∃ q0, q0 = opn n := ⟨_, rfl⟩
    have hq1 : (q0 : Int) ≤ 128 := by have := opn_le hm1; omega
    obtain ⟨pv, cv, rfl⟩ := be_slice hbe
    have c7 : X.cell? ⟨w4.heap.size + 1, 0, none⟩ = some (.slice pv (opn n) cv) := cell_of h1 rfl
    have c6 : X.cell? ⟨w4.heap.size, 0, none⟩ = some (.int .i64 0) := cell_of h3 rfl
    have c5 : X.cell? ⟨P5, 1, none⟩ = some (.int .i64 xg) := h4.cell (cell_of (show _ ∧ _ from HP).1 rfl)
    have hok : Hok true (xg + 1) (n : Int) := ⟨rfl, by omega, by omega, by omega, by omega⟩
    have hsg : -9223372036854775808 ≤ sgz A n ∧ sgz A n ≤ 9223372036854775807 := w64_rg (smz A n)
    have HSUM : Hid (∀ W, Kb 0 X W → Calls Try.prog 72 #[.slice (some a) n ca] W fun e w' => e = .returned (.int .i64 (sgz A n)) ∧ Kb 0 W w') := (fun W k => im_sumof W ⟨some a, ca, rfl, fun _ => ⟨a, rfl, hm2, fun i hi => (((show Kb 0 w w4 from HF).trans h4).trans k).cell ((show _ ∧ _ from HRA).1 i hi)⟩⟩ (by omega) (show _ ∧ _ from HRA).2 : ∀ W, _)
    have HHD : Hid (∀ W, Calls Try.prog 71 #[.agg #[.bool true, .int .i64 (xg + 1), .int .i64 (n : Int), .int .i64 (sgz A n)]] W fun e w' => ∃ b, e = .returned (.slice (some ⟨b, 0, none⟩) 64 64) ∧ W.heap.size ≤ b ∧ b < w'.heap.size ∧ OwnR w' (.slice (some ⟨b, 0, none⟩) 64 64) b 64 (fun i => .int .u8 (hdb (xg + 1) (n : Int) (sgz A n) i)) ∧ Kb 0 W w') := (fun W => im_head_yes W hok hsg.1 hsg.2 : ∀ W, _)
    have HBE : Hid (BE 3 (w4.heap.size + 4) 96 X (.slice pv (opn n) cv) (opn n) (opF A n 0 2 xg) V G ∧ Kb 0 w X ∧ w4.heap.size + 4 ≤ X.heap.size ∧ X.heap[Dm]? = some (.deferred (some [])) ∧ w.heap.size ≤ Dm ∧ Dm < X.heap.size ∧ w.heap.size ≤ w4.heap.size) := (⟨hbe, (show Kb 0 w w4 from HF).trans h4, h5, hx, by have := (show Kb 0 w w4 from HF).size; omega, (Array.getElem?_eq_some_iff.1 hx).1, (show Kb 0 w w4 from HF).size⟩ : _ ∧ _)
    obtain ⟨sm, hsm⟩ : ∃ sm, sm = sgz A n := ⟨_, rfl⟩
    rw [← hsm] at HSUM HHD
    have HSM : Hid (sm = sgz A n) := hsm
    clear hsm
    have hgA : (-9223372036854775808 : Int) ≤ xg + 1 ∧ xg + 1 ≤ 9223372036854775807 := by omega
    clear hok hsg h1 h3 h4 h5 hx hbe hq0 hD
    dsimp only [Exit.inBlock, Exit.then]
    go_at_K
    go_upto_region 13 with fail
    refine AnyL.region (S := fun W' => W'.cell? ⟨P5, 1, none⟩ = some (.int .i64 xg)) (z := 9) (by kernel_rfl) ?_
    obtain ⟨W0, hW0⟩ : ∃ W0, W0 = X.drew := ⟨_, rfl⟩
    have HK0 : Hid (Kb 0 X W0) := (by rw [hW0]; exact Kb.drewN (Kb.refl _ _) 1 : Kb 0 X W0)
    have hS0 : (fun W' : World => W'.cell? ⟨P5, 1, none⟩ = some (.int .i64 xg)) W0 := (show Kb 0 X W0 from HK0).cell c5
    rw [← hW0]
    clear hW0
    refine AnyL.takeAt 0 (.pointer (some ⟨P5, 1, none⟩)) rfl (by kernel_rfl) (by kernel_rfl) (by kernel_rfl) (by kernel_rfl) (fun _ _ _ h => h) rfl hS0 (by intro W hW; first | go_simp | (have i0 := hW; go_simp)) ?_
    try simp only [Act.put, List.setIfInBounds_toArray, List.set_cons_zero, List.set_cons_succ]
    refine AnyL.takeAt 1 (.int .i64 xg) rfl (by kernel_rfl) (by kernel_rfl) (by kernel_rfl) (by kernel_rfl) (fun _ _ _ h => h) rfl hS0 (by intro W hW; first | go_simp | (have i0 := hW; go_simp)) ?_
    try simp only [Act.put, List.setIfInBounds_toArray, List.set_cons_zero, List.set_cons_succ]
    refine AnyL.takeAt 2 (.int .i64 (xg + 1)) rfl (by kernel_rfl) (by kernel_rfl) (by kernel_rfl) (by kernel_rfl) (fun _ _ _ h => h) rfl hS0 (by intro W hW; go_simp; rw [IntKind.wrap_i64]; omega) ?_
    try simp only [Act.put, List.setIfInBounds_toArray, List.set_cons_zero, List.set_cons_succ]
    refine AnyL.takeAt 3 (.slice (some a) n ca) rfl (by kernel_rfl) (by kernel_rfl) (by kernel_rfl) (by kernel_rfl) (fun _ _ _ h => h) rfl hS0 (by intro W hW; first | go_simp | (have i0 := hW; go_simp)) ?_
    try simp only [Act.put, List.setIfInBounds_toArray, List.set_cons_zero, List.set_cons_succ]
    refine AnyL.takeAt 4 (.int .i64 (n : Int)) rfl (by kernel_rfl) (by kernel_rfl) (by kernel_rfl) (by kernel_rfl) (fun _ _ _ h => h) rfl hS0 (by intro W hW; first | go_simp | (have i0 := hW; go_simp)) ?_
    try simp only [Act.put, List.setIfInBounds_toArray, List.set_cons_zero, List.set_cons_succ]
    refine AnyL.takeAt 5 (.slice (some a) n ca) rfl (by kernel_rfl) (by kernel_rfl) (by kernel_rfl) (by kernel_rfl) (fun _ _ _ h => h) rfl hS0 (by intro W hW; first | go_simp | (have i0 := hW; go_simp)) ?_
    try simp only [Act.put, List.setIfInBounds_toArray, List.set_cons_zero, List.set_cons_succ]
    refine AnyL.oneAt 6 rfl (by kernel_rfl) rfl ?_
    intro K hK
    go_simp
    refine ((show ∀ W, Kb 0 X W → _ from HSUM) W0 HK0).mono ?_
    rintro e W1 ⟨rfl, k1⟩
    have HK1 : Hid (Kb 0 X W1) := (show Kb 0 X W0 from HK0).trans k1
    have hS1 : W1.cell? ⟨P5, 1, none⟩ = some (.int .i64 xg) := k1.cell hS0
    clear k1 HSUM hS0 HK0
    refine hK.out _ _ (fun _ => hS1) ?_
    clear hK K
    try simp only [Act.put, List.setIfInBounds_toArray, List.set_cons_zero, List.set_cons_succ]
    refine AnyL.oneAt 7 rfl (by kernel_rfl) rfl ?_
    intro K hK
    go_simp
    refine hK.out _ _ (fun _ => hS1) ?_
    clear hK K
    try simp only [Act.put, List.setIfInBounds_toArray, List.set_cons_zero, List.set_cons_succ]
    refine AnyL.oneAt 8 rfl (by kernel_rfl) rfl ?_
    intro K hK
    go_simp
    refine ((show ∀ W, _ from HHD) W1).mono ?_
    rintro e W2 ⟨b, rfl, hb1, hb2, ob, k2⟩
    have HK2 : Hid (Kb 0 X W2) := (show Kb 0 X W1 from HK1).trans k2
    have HOB : Hid (X.heap.size ≤ b ∧ b < W2.heap.size ∧ OwnR W2 (.slice (some ⟨b, 0, none⟩) 64 64) b 64 (fun i => .int .u8 (hdb (xg + 1) (n : Int) sm i))) := (⟨Nat.le_trans (show Kb 0 X W1 from HK1).size hb1, hb2, ob⟩ : _ ∧ _)
    have hS2 : W2.cell? ⟨P5, 1, none⟩ = some (.int .i64 xg) := k2.cell hS1
    clear HHD hb1 hb2 ob k2 hS1 HK1
    refine hK.out _ _ (fun _ => hS2) ?_
    clear hK K
    try simp only [Act.put, List.setIfInBounds_toArray, List.set_cons_zero, List.set_cons_succ]
    refine AnyL.oneAt 9 rfl (by kernel_rfl) rfl ?_
    intro K hK
    go_simp
    refine hK.out _ _ (fun h => absurd rfl h) ?_
    clear hK K
    try simp only [Act.put, List.setIfInBounds_toArray, List.set_cons_zero, List.set_cons_succ]
    refine AnyL.done (by kernel_rfl) ?_
    try dsimp only [Exit.inBlock, Exit.then]
    go_at_K
    obtain ⟨hbe, kwX, zX, hxD, hD1, hD2, hz4⟩ := (show _ ∧ _ ∧ _ ∧ _ ∧ _ ∧ _ ∧ _ from HBE)
    have k2 := (show Kb 0 X W2 from HK2)
    have c70 := k2.cell c7
    have c60 := k2.cell c6
    have HOW : Hid (W2.ownsRow (w4.heap.size + 4) 96 3 (.slice pv (opn n) cv) (opn n) (cel 3 (opF A n 0 2 xg) V (opn n)) ∧ w4.heap.size + 4 ≤ W2.heap.size) := (⟨own_keep hbe.ro (fun g hg => k2.block g (Nat.zero_le _) (hbe.ro.lt g hg).2), Nat.le_trans zX k2.size⟩ : _ ∧ _)
    obtain ⟨CL, hCL⟩ : ∃ CL, CL = cel 3 (opF A n 0 2 xg) V (opn n) := ⟨_, rfl⟩
    rw [← hCL] at HOW
    have HFN : Hid (∀ (ob : Obj) (W8 : World) (g cap : Nat), W8.ownsRow (w4.heap.size + 4) 96 3 (.slice (some ⟨g, 0, none⟩) (opn n + 3) cap) (opn n + 3) (CL ++ [.bool true, .int .i64 0, .slice none 0 0, .bool false, .int .i64 0, .slice (some ⟨b, 0, none⟩) 64 64, .bool true, .int .i64 0, .slice none 0 0]) → (W2.alloc ob).grownBy W8 (Value.slice pv (opn n) cv).ownBlock → ((Value.slice pv (opn n) cv).ownBlock = some g ∨ g = W2.heap.size + 1) →
        W8.heap[Dm]? = some (.deferred (some [])) ∧ ∀ o' : Obj, ∃ V' G', BE 3 w.heap.size 96 (W8.putObj Dm o') (.slice (some ⟨g, 0, none⟩) (opn n + 3) cap) (opn n + 3) (opF A n 0 2 xg) V' G' ∧ Kb 0 w (W8.putObj Dm o')) := (fun ob W8 g cap h8 g8 ha => by
      obtain ⟨ob1, ob2, ob3⟩ := (show _ ∧ _ ∧ _ from HOB)
      have f0 : opF A n 0 2 xg (opn n) = ⟨true, 0, 0, fun _ => 0⟩ := opF_s (by omega) (by omega)
      have f1 : opF A n 0 2 xg (opn n + 1) = ⟨false, ((0 : Nat) : Int), 64, hdb (xg + 1) (n : Int) (sgz A n)⟩ := opF_h
      have f2 : opF A n 0 2 xg (opn n + 2) = ⟨true, 0, 0, fun _ => 0⟩ := opF_s (by omega) (by omega)
      have st := BE.step3 hbe zX k2.size (fun q _ hq => k2.block q (Nat.zero_le _) hq) (by rw [f0]) (by rw [f2]) (vx := .slice (some ⟨b, 0, none⟩) 64 64) (gx := b) (by rw [f1, ← (show sm = _ from HSM)]; exact ob3) (fun _ => ⟨ob1, ob2⟩) (by rw [f0, f1, f2, ← hCL]; exact h8) g8 ha
      have z8 : W2.heap.size + 1 ≤ W8.heap.size := by have := g8.size; rw [World.size_alloc] at this; exact this
      have b8 : ∀ q, q < X.heap.size → some q ≠ (Value.slice pv (opn n) cv).ownBlock → W8.heap[q]? = X.heap[q]? := fun q hq hn => ((g8.block q (by rw [World.size_alloc]; have := k2.size; omega) hn).trans ((kb_alloc 0 W2 ob).block q (Nat.zero_le _) (by have := k2.size; omega))).trans (k2.block q (Nat.zero_le _) hq)
      have hn2 : some Dm ≠ (Value.slice pv (opn n) cv).ownBlock := fun e => by
        rcases hbe.ro.2 with ⟨e1, _⟩ | ⟨g', cap', cur, e1, _, e3, _⟩
        · rw [e1] at e; cases e
        · rw [e1] at e
          have e' : Dm = g' := by simpa [Value.ownBlock] using e
          rw [e', e3] at hxD
          cases hxD
      have hD8 : W8.heap[Dm]? = some (.deferred (some [])) := (b8 Dm hD2 hn2).trans hxD
      refine ⟨hD8, fun o' => ⟨_, _, (st.mono9 (show w.heap.size ≤ w4.heap.size + 4 by omega)).keepC (by simp [World.putObj]) (fun q o hq hc => World.putObj_heap_other (fun e => ?_)), ?_⟩⟩
      · rw [e, hD8] at hq
        cases hq
        cases hc
      · refine ⟨(g8.os.trans k2.os).trans kwX.os, (g8.output.trans k2.output).trans kwX.output, by have := kwX.size; have := k2.size; simp [World.putObj]; omega, fun q h1 h2 => ?_⟩
        rw [World.putObj_heap_other (fun e => by omega)]
        exact (b8 q (by have := kwX.size; omega) (fun e => by have := (hbe.ro.lt q e.symm).1; omega)).trans (kwX.block q h1 h2) : ∀ (ob : Obj) (W8 : World) (g cap : Nat), _)
    have hq2 : ((opn n : Nat) : Int) ≤ 128 := by have := opn_le hm1; omega
    obtain ⟨i1, hi1, hz0, hz1, hz2⟩ := infoOp
    have HI1 : Hid (Try.prog.info? 96 = some i1) := hi1
    clear hi1 hbe kwX zX hxD hD1 hD2 hz4 HBE HOB HK2 HSM hCL k2 hS2 c5 c6 c7
    go_wp2_with (refine wpList_append_lies _ (by rfl) (.tmp 63) (.tmp 69) 56 (by rfl) (w4.heap.size + 4) 96 i1 (.agg #[.bool false, .int .i64 0, .slice none 0 0]) 3 40 Try.underlying56 HI1 hz0 hz1 hz2 rfl (by decide) (.slice pv (opn n) cv) (opn n) CL (by rfl) ((show _ ∧ _ from HOW).1.alloc _) ⟨W2.heap.size, 0, none⟩ 3 3 [.bool true, .int .i64 0, .slice none 0 0, .bool false, .int .i64 0, .slice (some ⟨b, 0, none⟩) 64 64, .bool true, .int .i64 0, .slice none 0 0] (by rfl) rfl (qr_cells W2 #[.bool true, .int .i64 0, .slice none 0 0, .bool false, .int .i64 0, .slice (some ⟨b, 0, none⟩) 64 64, .bool true, .int .i64 0, .slice none 0 0] 96 [.bool true, .int .i64 0, .slice none 0 0, .bool false, .int .i64 0, .slice (some ⟨b, 0, none⟩) 64 64, .bool true, .int .i64 0, .slice none 0 0] rfl) (by intro y hy; simp only [List.mem_cons, List.not_mem_nil, or_false] at hy; rcases hy with rfl | rfl | rfl | rfl | rfl | rfl | rfl | rfl | rfl <;> rfl) (by decide) (by unfold maxLen; omega) (by omega) (by rw [World.size_alloc]; have := (show _ ∧ _ from HOW).2; omega) (W2.heap.size + 1) (World.size_alloc _ _) ?_; intro g cap w8 hown1 hgrow1 hat hlt; have HN : Hid (w8.heap[Dm]? = some (.deferred (some [])) ∧ ∀ o' : Obj, ∃ V' G', BE 3 w.heap.size 96 (w8.putObj Dm o') (.slice (some ⟨g, 0, none⟩) (opn n + 3) cap) (opn n + 3) (opF A n 0 2 xg) V' G' ∧ Kb 0 w (w8.putObj Dm o')) := (show ∀ (ob : Obj) (W8 : World) (g cap : Nat), _ from HFN) _ w8 g cap hown1 hgrow1 hat; clear hown1 hgrow1 hat hlt HFN HOW)
    refine ⟨by simp, .inl ⟨Dm, _, rfl, run_takeDeferred (show _ ∧ _ from HN).1, ?_⟩⟩
    refine ⟨_, by simp [results, Try.results33, go_sem]; rfl, ?_⟩
    obtain ⟨V', G', q1, q2⟩ := (show _ ∧ _ from HN).2 _
    exact ⟨_, V', G', rfl, q1, q2⟩
  case stop =>
    intro D c pre X _ _ h _
    exact h.elim
end Go.Proofs.Ytaggciimacanbaa.Fo

namespace Go.Proofs.Ytaggciimacanbaa.Fo
open Go.ChangeShapes Go.WideShapes Go.ChangeAt Go.RowKit Go.Shelf
set_option linter.unusedVariables false
set_option maxRecDepth 100000
set_option linter.unusedSimpArgs false
attribute [local go_sem] Oper.semAt_some
set_option maxHeartbeats 8000000 in
theorem im_ops_y3 {v1 v2 : Value} {D : Dd} {a : Addr} {n ca : Nat} {A : Nat → Int} {xg : Int} {xn : Nat} {xA : Nat → Int} (w : World) (ha : RowD 0 w v1 v2 D) (hd : BdD D) (hok : Dok D) (hm : D.m = 0) (hn0 : 0 < n) (hn : n ≤ 8192) (hca : n ≤ ca) (hg0 : 0 ≤ xg) (hg1 : xg < 1000000000000) (hr : ∀ i, i < n → w.cell? (a.add i) = some (.int .u8 (A i))) (hA : ∀ i, i < n → 0 ≤ A i ∧ A i ≤ 255) (hN : ∀ x1 x2 W, RowD 0 W x1 x2 D → Calls Try.prog 28 #[.agg #[x1, x2]] W (KiP false xg 0 xn xA W)) :
    Calls Try.prog 33 #[.agg #[v1, v2], .slice (some a) n ca] w fun e w' => ∃ v V G, e = .returned v ∧ BE 3 w.heap.size 96 w' v (opn n + 3) (opF A n 0 (2 + 0 * 128) xg) V G ∧ Kb 0 w w' := by
  obtain ⟨⟨p1, c1, rfl, -⟩, ⟨p2, c2, rfl, -⟩⟩ := id ha
  obtain ⟨w1, hw1⟩ : ∃ w1, w1 = w.alloc (.cells #[.slice p1 D.n c1, .slice p2 D.m c2] 30) := ⟨_, rfl⟩
  have k1 : Kb 0 w w1 := by rw [hw1]; exact kb_alloc _ _ _
  have b1 : w1.heap[w.heap.size]? = some (.cells #[.slice p1 D.n c1, .slice p2 D.m c2] 30 (0, 0)) := by rw [hw1]; exact alloc_new _ _ _
  have u0 : w1.cell? ⟨w.heap.size, 0, none⟩ = some (.slice p1 D.n c1) := cell_of b1 rfl
  have u1 : w1.cell? ⟨w.heap.size, 1, none⟩ = some (.slice p2 D.m c2) := cell_of b1 rfl
  have HW1 : Hid (w1 = w.alloc (.cells #[.slice p1 D.n c1, .slice p2 D.m c2] 30)) := hw1
  have HK1 : Hid (Kb 0 w w1) := k1
  have HI : Calls Try.prog 66 #[.agg #[.slice p1 D.n c1, .slice p2 D.m c2]] w1 fun e w' => e = .returned (.bool true) ∧ Kb 0 w1 w' := by
    have := im_dok w1 (ha.keep k1) hd
    rw [dc_t hok] at this
    exact this
  have HCA : Hid (∀ W, Kb 0 w1 W → Calls Try.prog 28 #[.agg #[.slice p1 D.n c1, .slice p2 D.m c2]] W (KiP false xg 0 xn xA W)) := (fun W k => hN _ _ W (ha.keep (k1.trans k)) : ∀ W, _)
  have HRA : Hid ((∀ i, i < n → w.cell? (a.add i) = some (.int .u8 (A i))) ∧ (∀ i, i < n → 0 ≤ A i ∧ A i ≤ 255)) := (⟨hr, hA⟩ : _ ∧ _)
  have hmI : (D.m : Int) = 0 := by omega
  have hn1 : ¬ (n : Int) = 0 := by omega
  have hn2 : ¬ (8192 : Int) < (n : Int) := by omega
  have hx1 : ((n : Int) == 0) = false := by simp; omega
  have hgx : ¬ xg = 1000000000000 := by omega
  have HMM : Hid (0 < n ∧ n ≤ 8192 ∧ n ≤ ca) := (⟨hn0, hn, hca⟩ : _ ∧ _ ∧ _)
  clear hw1 k1 b1 ha hd hok hN hm hca hr hA
  refine calls_of_wp_marks Try.func33 rfl ?_
  simp only [Try.ntmps33, List.size_toArray, List.length_cons, List.length_nil, Nat.reduceAdd, Nat.reduceSub, Array.replicate_succ, Array.replicate_zero, List.push_toArray, List.append_toArray, List.nil_append, List.cons_append]
  go_upto_region 1 with fail
  rw [← (show w1 = _ from HW1)]
  clear HW1
  go_wp2_with fail
  refine HI.mono ?_
  rintro e w3 ⟨rfl, k3⟩
  have u30 := k3.cell u0
  have u31 := k3.cell u1
  have HC := (show ∀ W, Kb 0 w1 W → _ from HCA) w3 k3
  have HK3 : Hid (Kb 0 w w3) := (show Kb 0 w w1 from HK1).trans k3
  clear HI u0 u1 k3 HK1 HCA
  go_wp2_with fail
  refine HC.mono ?_
  rintro e wA ⟨vb', gb, rfl, ob, hgb, kA⟩
  obtain ⟨pb, cb, rfl, -⟩ := ob.sl
  obtain ⟨P5, hP5⟩ : ∃ P5, P5 = wA.heap.size := ⟨_, rfl⟩
  obtain ⟨w4, hw4⟩ : ∃ w4, w4 = wA.alloc (.cells #[.bool false, .int .i64 xg, .int .i64 0, .slice pb xn cb] 51) := ⟨_, rfl⟩
  have b5 : w4.heap[P5]? = some (.cells #[.bool false, .int .i64 xg, .int .i64 0, .slice pb xn cb] 51 (0, 0)) := by rw [hw4, hP5]; exact alloc_new _ _ _
  have hP4 : P5 < w4.heap.size := by rw [hw4, World.size_alloc, ← hP5]; omega
  have e0 : w4.cell? ⟨P5, 0, none⟩ = some (.bool false) := cell_of b5 rfl
  have e1 : w4.cell? ⟨P5, 1, none⟩ = some (.int .i64 xg) := cell_of b5 rfl
  have e2 : w4.cell? ⟨P5, 2, none⟩ = some (.int .i64 0) := cell_of b5 rfl
  have HF : Hid (Kb 0 w w4) := ((show Kb 0 w w3 from HK3).trans kA).trans (by rw [hw4]; exact kb_alloc _ _ _)
  have HW4 : Hid (w4 = wA.alloc (.cells #[.bool false, .int .i64 xg, .int .i64 0, .slice pb xn cb] 51) ∧ P5 = wA.heap.size) := (⟨hw4, hP5⟩ : _ ∧ _)
  clear HC u30 u31 ob hgb kA hP5 hw4 HK3
  go_upto_region 4 with fail
  rw [← (show _ ∧ _ from HW4).1, ← (show _ ∧ _ from HW4).2]
  clear HW4
  have HCK := fun W => chk_make (some a) n ca W
  go_wp2_with fail
  refine (HCK _).mono ?_
  rintro e w7 ⟨rfl, hw7⟩
  simp only [World.size_alloc] at hw7 ⊢
  have HW7 : Hid (w7 = _) := hw7
  clear hw7 HCK
  go_wp2_with fail
  obtain ⟨g0, g1, g2, g3, k47⟩ := four_newO w4 _ _ _ _ _ _ _ _ w7 (show w7 = _ from HW7)
  have z7 : w7.heap.size = w4.heap.size + 4 := by rw [show w7 = _ from HW7]; simp [World.size_alloc]
  have s2 : w7.cell? ⟨w4.heap.size + 1 + 1, 0, none⟩ = some (.slice (some a) n ca) := cell_of g2 rfl
  have s3 : w7.cell? ⟨w4.heap.size + 1 + 1 + 1, 0, none⟩ = some (.int .i64 64) := cell_of g3 rfl
  have HO7 : OI w4 A n 0 0 2 xg [] w7 := ⟨fun _ => ⟨false, 0, 0, fun _ => 0⟩, _, fun _ => .slice none 0 0, fun _ => 0, g1, BE.nil _ _ _ _ _ _ _, g0, k47, by omega, fun _ i hi => absurd hi (Nat.not_lt_zero _)⟩
  obtain ⟨hm0, hm1, hm2⟩ := (show _ ∧ _ ∧ _ from HMM)
  have HP : Hid (w4.heap[P5]? = some (.cells #[.bool false, .int .i64 xg, .int .i64 0, .slice pb xn cb] 51 (0, 0)) ∧ P5 < w4.heap.size) := (⟨b5, hP4⟩ : _ ∧ _)
  clear g0 g1 g2 g3 k47 HW7 b5 hP4 e0 e1 e2
  refine (wpIn_wide (n := 3)).1 ?_
  refine wpIn_rangeFunc_ownF (α := {j : Nat // j < opn n}) (n := 3) rfl (by omega) (gf := 103) (lb := #[.pointer (some ⟨w4.heap.size + 1 + 1, 0, none⟩), .pointer (some ⟨w4.heap.size + 1 + 1 + 1, 0, none⟩)]) rfl trivial (enters_of Try.func103 (by kernel_rfl) rfl)
    (encs := fun x => #[pcv a n x.val]) (Kp := Kp3 w4.heap.size (w4.heap.size + 1 + 1) (w4.heap.size + 1 + 1 + 1)) (chk_stops 2 (by omega) (w4.heap.size + 1 + 1) (w4.heap.size + 1 + 1 + 1) w4 w7 hm0 hm1 hm2 s2 s3)
    (fun h k => Kp3.trans h k) (fun X l o o' hl _ _ _ => Kp3.put X l o' (by omega) (by omega) (by omega)) (Below.refl _ _) (fun _ => rfl)
    (OI w4 A n 0 0 2 xg) (fun _ _ _ => False) (by rw [z7]; exact own_oi) (fun c _ _ _ _ h => h.elim) HO7 ?a1 ?assign ?body ?done ?stop
  case assign =>
    intro l x X K hKK
    gi_wp2
    exact hKK
  case body =>
    intro l pre x X hI hpl
    obtain ⟨F, v, V, G, h1, h2, h3, h4, h5, h6⟩ := hI
    obtain ⟨pv, cv, rfl⟩ := be_slice h2
    obtain ⟨hm0, hm1, hm2⟩ := (show _ ∧ _ ∧ _ from HMM)
    have hL : (pre.length : Int) < 128 := by have := opn_le hm1; omega
    have hjn : x.val < opn n := x.property
    obtain ⟨B1, hB1⟩ : ∃ B1, B1 = w4.heap.size + 1 := ⟨_, rfl⟩
    have c7 : X.cell? ⟨w4.heap.size + 1, 0, none⟩ = some (.slice pv pre.length cv) := cell_of h1 rfl
    have c6 : X.cell? ⟨w4.heap.size, 0, none⟩ = some (.int .i64 0) := cell_of h3 rfl
    have HRW : Hid (∀ W, Kb 0 X W → RowV W (pcv a n x.val) (pcn n x.val) (fun i => .int .u8 (A (x.val * 64 + i)))) := (fun W k => row_pcv (fun i hi => (((show Kb 0 w w4 from HF).trans h4).trans k).cell ((show _ ∧ _ from HRA).1 i hi)) : ∀ W, _)
    have HNX : Hid (∀ W5 W6 : World, Kb 0 X W5 → W6 = W5.alloc (.cells (pgl (pcA A n x.val)).toArray 92) → _) := (fun W5 W6 k5 e6 => OI.next (x := x) h1 h2 h3 h4 h5 h6 k5 e6 (fun ho => by rw [ho.app.2] ; exact (opF_p hpl).symm) : ∀ W5 W6 : World, _)
    obtain ⟨pc, hpc⟩ : ∃ pc, pc = pcv a n x.val := ⟨_, rfl⟩
    rw [← hpc] at HRW ⊢
    have hLp : 0 ≤ (pre.length : Int) := by omega
    have hxl : Hid (w4.heap.size + 4 ≤ X.heap.size) := h5
    clear h1 h2 h3 h4 h5 h6 hB1 hpc
    refine wpIn_block ?_
    refine AnyL.regionIn (S := fun W' => W'.cell? ⟨w4.heap.size + 1, 0, none⟩ = some (.slice pv pre.length cv) ∧ W'.cell? ⟨w4.heap.size, 0, none⟩ = some (.int .i64 0)) (z := 12) (by kernel_rfl) (by kernel_rfl) (lets_no _) ?_
    have hS0 : (fun W' : World => W'.cell? ⟨w4.heap.size + 1, 0, none⟩ = some (.slice pv pre.length cv) ∧ W'.cell? ⟨w4.heap.size, 0, none⟩ = some (.int .i64 0)) X.drew := ⟨c7, c6⟩
    obtain ⟨W0, hW0⟩ : ∃ W0, W0 = X.drew := ⟨_, rfl⟩
    have HK0 : Hid (Kb 0 X W0) := (by rw [hW0]; exact Kb.drewN (Kb.refl _ _) 1 : Kb 0 X W0)
    rw [← hW0] at hS0 ⊢
    clear hW0 c7 c6
    refine AnyL.takeAt 0 (.slice pv pre.length cv) rfl (by kernel_rfl) (by kernel_rfl) (by kernel_rfl) (by kernel_rfl) (fun _ _ _ h => h) rfl hS0 (by intro W hW; first | go_simp | (obtain ⟨i0, i1⟩ := hW; go_simp)) ?_
    try simp only [Act.put, List.setIfInBounds_toArray, List.set_cons_zero, List.set_cons_succ]
    refine AnyL.takeAt 1 (.int .i64 0) rfl (by kernel_rfl) (by kernel_rfl) (by kernel_rfl) (by kernel_rfl) (fun _ _ _ h => h) rfl hS0 (by intro W hW; first | go_simp | (obtain ⟨i0, i1⟩ := hW; go_simp)) ?_
    try simp only [Act.put, List.setIfInBounds_toArray, List.set_cons_zero, List.set_cons_succ]
    refine AnyL.takeAt 3 (.slice pv pre.length cv) rfl (by kernel_rfl) (by kernel_rfl) (by kernel_rfl) (by kernel_rfl) (fun _ _ _ h => h) rfl hS0 (by intro W hW; first | go_simp | (obtain ⟨i0, i1⟩ := hW; go_simp)) ?_
    try simp only [Act.put, List.setIfInBounds_toArray, List.set_cons_zero, List.set_cons_succ]
    refine AnyL.takeAt 6 (pc) rfl (by kernel_rfl) (by kernel_rfl) (by kernel_rfl) (by kernel_rfl) (fun _ _ _ h => h) rfl hS0 (by intro W hW; first | go_simp | (obtain ⟨i0, i1⟩ := hW; go_simp)) ?_
    try simp only [Act.put, List.setIfInBounds_toArray, List.set_cons_zero, List.set_cons_succ]
    refine AnyL.takeAt 4 (.int .i64 (pre.length : Int)) rfl (by kernel_rfl) (by kernel_rfl) (by kernel_rfl) (by kernel_rfl) (fun _ _ _ h => h) rfl hS0 (by intro W hW; first | go_simp | (obtain ⟨i0, i1⟩ := hW; go_simp)) ?_
    try simp only [Act.put, List.setIfInBounds_toArray, List.set_cons_zero, List.set_cons_succ]
    refine AnyL.oneAt 2 rfl (by kernel_rfl) rfl ?_
    intro K hK
    go_simp
    refine (im_imgblk0 W0).mono ?_
    rintro e Wz ⟨rfl, hWz⟩
    rw [hWz]
    clear hWz Wz
    refine hK.out _ _ (fun _ => hS0) ?_
    clear hK K
    try simp only [Act.put, List.setIfInBounds_toArray, List.set_cons_zero, List.set_cons_succ]
    refine AnyL.takeAt 5 (.int .i64 (2 + (pre.length : Int))) rfl (by kernel_rfl) (by kernel_rfl) (by kernel_rfl) (by kernel_rfl) (fun _ _ _ h => h) rfl hS0 (by intro W hW; go_simp; rw [IntKind.wrap_i64]; omega) ?_
    try simp only [Act.put, List.setIfInBounds_toArray, List.set_cons_zero, List.set_cons_succ]
    refine AnyL.oneAt 7 rfl (by kernel_rfl) rfl ?_
    intro K hK
    go_simp
    refine (im_pageof W0 ((show ∀ W, Kb 0 X W → _ from HRW) W0 HK0) (pcn_le _ _)).mono ?_
    rintro e W5 ⟨rfl, k5⟩
    rw [pad_pcA]
    have HK5 : Hid (Kb 0 X W5) := (show Kb 0 X W0 from HK0).trans k5
    have hS5 : W5.cell? ⟨w4.heap.size + 1, 0, none⟩ = some (.slice pv pre.length cv) ∧ W5.cell? ⟨w4.heap.size, 0, none⟩ = some (.int .i64 0) := ⟨k5.cell hS0.1, k5.cell hS0.2⟩
    obtain ⟨PG, hPG⟩ : ∃ PG, PG = pgl (pcA A n x.val) := ⟨_, rfl⟩
    have HNY : Hid (∀ W6 : World, W6 = W5.alloc (.cells PG.toArray 92) → _) := (by rw [hPG]; exact fun W6 e6 => (show ∀ W5 W6 : World, _ from HNX) W5 W6 HK5 e6 : ∀ W6 : World, _)
    rw [← hPG]
    clear k5 hS0 HK0 HNX HRW hPG
    refine hK.out _ _ (fun _ => hS5) ?_
    clear hK K
    try simp only [Act.put, List.setIfInBounds_toArray, List.set_cons_zero, List.set_cons_succ]
    refine AnyL.oneAt 8 rfl (by kernel_rfl) rfl ?_
    intro K hK
    go_simp
    refine (im_bytes W5).mono ?_
    rintro e W6 ⟨rfl, hW6⟩
    obtain ⟨CL, ⟨hS6, hown6, h6z, hS6a⟩, H8⟩ := (show ∀ W6 : World, W6 = W5.alloc (.cells PG.toArray 92) → _ from HNY) W6 hW6
    have k56 : Kb 0 W5 W6 := by rw [hW6]; exact kb_alloc _ _ _
    have q6 := k56.cell hS5.2
    have HS8 : Hid (∀ (ob : Obj) (W8 : World) (g cap : Nat), _) := H8
    have hN5 : W5.heap.size < W6.heap.size := by rw [hW6, World.size_alloc]; omega
    clear HNY H8 hW6 k56
    refine hK.out _ _ (fun _ => ⟨hS6, q6⟩) ?_
    clear hK K
    try simp only [Act.put, List.setIfInBounds_toArray, List.set_cons_zero, List.set_cons_succ]
    refine AnyL.oneAt 9 rfl (by kernel_rfl) rfl ?_
    intro K hK
    go_simp
    refine hK.out _ _ (fun _ => ⟨hS6, q6⟩) ?_
    clear hK K
    try simp only [Act.put, List.setIfInBounds_toArray, List.set_cons_zero, List.set_cons_succ]
    refine AnyL.oneAt 10 rfl (by kernel_rfl) rfl ?_
    intro K hK
    go_simp
    refine hK.out _ _ (fun _ => ⟨hS6a _, (kb_alloc 0 W6 _).cell q6⟩) ?_
    clear hK K
    try simp only [Act.put, List.setIfInBounds_toArray, List.set_cons_zero, List.set_cons_succ]
    obtain ⟨i1, hi1, hz0, hz1, hz2⟩ := infoOp
    refine AnyL.oneAt 11 rfl (by kernel_rfl) rfl ?_
    intro K hK
    refine wp_append_lies _ (.tmp 42) (.tmp 52) 56 rfl (w4.heap.size + 4) 96 i1 (.agg #[.bool false, .int .i64 0, .slice none 0 0]) 3 40 Try.underlying56 hi1 hz0 hz1 hz2 rfl (by decide) (.slice pv pre.length cv) pre.length CL rfl (hown6.alloc _) ⟨W6.heap.size, 0, none⟩ 1 1 [.bool false, .int .i64 (2 + (pre.length : Int)), .slice (some ⟨W5.heap.size, 0, none⟩) 64 64] rfl rfl (qr_cells W6 #[.bool false, .int .i64 (2 + (pre.length : Int)), .slice (some ⟨W5.heap.size, 0, none⟩) 64 64] 96 [.bool false, .int .i64 (2 + (pre.length : Int)), .slice (some ⟨W5.heap.size, 0, none⟩) 64 64] rfl) (by intro y hy; simp only [List.mem_cons, List.not_mem_nil, or_false] at hy; rcases hy with rfl | rfl | rfl <;> rfl) (by decide) (by unfold maxLen; omega) (by omega) (by rw [World.size_alloc]; omega) (W6.heap.size + 1) (World.size_alloc _ _) ?_
    intro g cap w8 hown1 hgrow1 hat hlt
    rw [show (2 + (pre.length : Int) : Int) = ((2 + pre.length : Nat) : Int) from by push_cast; rfl] at hown1
    obtain ⟨⟨x1, x2⟩, hFIN⟩ := (show ∀ (ob : Obj) (W8 : World) (g cap : Nat), _ from HS8) _ w8 g cap hown1 hgrow1 hat
    have q8 : w8.cell? ⟨w4.heap.size, 0, none⟩ = some (.int .i64 0) := by
      have c := (kb_alloc 0 W6 (.cells #[.bool false, .int .i64 (2 + (pre.length : Int)), .slice (some ⟨W5.heap.size, 0, none⟩) 64 64] 96)).cell q6
      refine (World.cell?_of_block (hgrow1.block w4.heap.size (lt_of_cell' c) (fun e => ?_))).trans c
      have := (hown6.lt _ e.symm).1
      omega
    have HFIN : Hid (∀ W9 : World, _) := hFIN
    clear HS8 hown1 hgrow1 hat hlt hFIN hS6 hS6a hown6 q6 hi1 hz0 hz1 hz2
    refine hK.out _ _ (fun _ => ⟨x1, q8⟩) ?_
    clear hK K
    try simp only [Act.put, List.setIfInBounds_toArray, List.set_cons_zero, List.set_cons_succ]
    refine AnyL.oneAt 12 rfl (by kernel_rfl) rfl ?_
    intro K hK
    go_simp
    refine hK.out _ _ (fun h => absurd rfl h) ?_
    clear hK K x1 x2 q8
    try simp only [Act.put, List.setIfInBounds_toArray, List.set_cons_zero, List.set_cons_succ]
    refine AnyL.done (by kernel_rfl) ?_
    exact (show ∀ W9 : World, _ from HFIN) _ rfl
  case done =>
    intro Dm xs X hD hS hI hx
    obtain ⟨ho, hlen⟩ := hS
    obtain ⟨F, v, V, G, h1, h2, h3, h4, h5, h6⟩ := hI
    obtain ⟨hm0, hm1, hm2⟩ := (show _ ∧ _ ∧ _ from HMM)
    have hbe : BE 3 (w4.heap.size + 4) 96 X v (opn n) (opF A n 0 2 xg) V G := by
      rw [hlen] at h2
      exact h2.ext9 (fun j hj => h6 ho j (by omega))
    clear h2 h6 ho hlen
    obtain ⟨q0, hq0⟩ : ∃ q0, q0 = opn n := ⟨_, rfl⟩
    have hq1 : (q0 : Int) ≤ 128 := by have := opn_le hm1; omega
    obtain ⟨pv, cv, rfl⟩ := be_slice hbe
    have c7 : X.cell? ⟨w4.heap.size + 1, 0, none⟩ = some (.slice pv (opn n) cv) := cell_of h1 rfl
    have c6 : X.cell? ⟨w4.heap.size, 0, none⟩ = some (.int .i64 0) := cell_of h3 rfl
    have c5 : X.cell? ⟨P5, 1, none⟩ = some (.int .i64 xg) := h4.cell (cell_of (show _ ∧ _ from HP).1 rfl)
    have hok : Hok true (xg + 1) (n : Int) := ⟨rfl, by omega, by omega, by omega, by omega⟩
    have hsg : -9223372036854775808 ≤ sgz A n ∧ sgz A n ≤ 9223372036854775807 := w64_rg (smz A n)
    have HSUM : Hid (∀ W, Kb 0 X W → Calls Try.prog 72 #[.slice (some a) n ca] W fun e w' => e = .returned (.int .i64 (sgz A n)) ∧ Kb 0 W w') := (fun W k => im_sumof W ⟨some a, ca, rfl, fun _ => ⟨a, rfl, hm2, fun i hi => (((show Kb 0 w w4 from HF).trans h4).trans k).cell ((show _ ∧ _ from HRA).1 i hi)⟩⟩ (by omega) (show _ ∧ _ from HRA).2 : ∀ W, _)
    have HHD : Hid (∀ W, Calls Try.prog 71 #[.agg #[.bool true, .int .i64 (xg + 1), .int .i64 (n : Int), .int .i64 (sgz A n)]] W fun e w' => ∃ b, e = .returned (.slice (some ⟨b, 0, none⟩) 64 64) ∧ W.heap.size ≤ b ∧ b < w'.heap.size ∧ OwnR w' (.slice (some ⟨b, 0, none⟩) 64 64) b 64 (fun i => .int .u8 (hdb (xg + 1) (n : Int) (sgz A n) i)) ∧ Kb 0 W w') := (fun W => im_head_yes W hok hsg.1 hsg.2 : ∀ W, _)
    have HBE : Hid (BE 3 (w4.heap.size + 4) 96 X (.slice pv (opn n) cv) (opn n) (opF A n 0 2 xg) V G ∧ Kb 0 w X ∧ w4.heap.size + 4 ≤ X.heap.size ∧ X.heap[Dm]? = some (.deferred (some [])) ∧ w.heap.size ≤ Dm ∧ Dm < X.heap.size ∧ w.heap.size ≤ w4.heap.size) := (⟨hbe, (show Kb 0 w w4 from HF).trans h4, h5, hx, by have := (show Kb 0 w w4 from HF).size; omega, (Array.getElem?_eq_some_iff.1 hx).1, (show Kb 0 w w4 from HF).size⟩ : _ ∧ _)
    obtain ⟨sm, hsm⟩ : ∃ sm, sm = sgz A n := ⟨_, rfl⟩
    rw [← hsm] at HSUM HHD
    have HSM : Hid (sm = sgz A n) := hsm
    clear hsm
    have hgA : (-9223372036854775808 : Int) ≤ xg + 1 ∧ xg + 1 ≤ 9223372036854775807 := by omega
    clear hok hsg h1 h3 h4 h5 hx hbe hq0 hD
    dsimp only [Exit.inBlock, Exit.then]
    go_at_K
    go_upto_region 13 with fail
    refine AnyL.region (S := fun W' => W'.cell? ⟨P5, 1, none⟩ = some (.int .i64 xg)) (z := 9) (by kernel_rfl) ?_
    obtain ⟨W0, hW0⟩ : ∃ W0, W0 = X.drew := ⟨_, rfl⟩
    have HK0 : Hid (Kb 0 X W0) := (by rw [hW0]; exact Kb.drewN (Kb.refl _ _) 1 : Kb 0 X W0)
    have hS0 : (fun W' : World => W'.cell? ⟨P5, 1, none⟩ = some (.int .i64 xg)) W0 := (show Kb 0 X W0 from HK0).cell c5
    rw [← hW0]
    clear hW0
    refine AnyL.takeAt 0 (.pointer (some ⟨P5, 1, none⟩)) rfl (by kernel_rfl) (by kernel_rfl) (by kernel_rfl) (by kernel_rfl) (fun _ _ _ h => h) rfl hS0 (by intro W hW; first | go_simp | (have i0 := hW; go_simp)) ?_
    try simp only [Act.put, List.setIfInBounds_toArray, List.set_cons_zero, List.set_cons_succ]
    refine AnyL.takeAt 1 (.int .i64 xg) rfl (by kernel_rfl) (by kernel_rfl) (by kernel_rfl) (by kernel_rfl) (fun _ _ _ h => h) rfl hS0 (by intro W hW; first | go_simp | (have i0 := hW; go_simp)) ?_
    try simp only [Act.put, List.setIfInBounds_toArray, List.set_cons_zero, List.set_cons_succ]
    refine AnyL.takeAt 2 (.int .i64 (xg + 1)) rfl (by kernel_rfl) (by kernel_rfl) (by kernel_rfl) (by kernel_rfl) (fun _ _ _ h => h) rfl hS0 (by intro W hW; go_simp; rw [IntKind.wrap_i64]; omega) ?_
    try simp only [Act.put, List.setIfInBounds_toArray, List.set_cons_zero, List.set_cons_succ]
    refine AnyL.takeAt 3 (.slice (some a) n ca) rfl (by kernel_rfl) (by kernel_rfl) (by kernel_rfl) (by kernel_rfl) (fun _ _ _ h => h) rfl hS0 (by intro W hW; first | go_simp | (have i0 := hW; go_simp)) ?_
    try simp only [Act.put, List.setIfInBounds_toArray, List.set_cons_zero, List.set_cons_succ]
    refine AnyL.takeAt 4 (.int .i64 (n : Int)) rfl (by kernel_rfl) (by kernel_rfl) (by kernel_rfl) (by kernel_rfl) (fun _ _ _ h => h) rfl hS0 (by intro W hW; first | go_simp | (have i0 := hW; go_simp)) ?_
    try simp only [Act.put, List.setIfInBounds_toArray, List.set_cons_zero, List.set_cons_succ]
    refine AnyL.takeAt 5 (.slice (some a) n ca) rfl (by kernel_rfl) (by kernel_rfl) (by kernel_rfl) (by kernel_rfl) (fun _ _ _ h => h) rfl hS0 (by intro W hW; first | go_simp | (have i0 := hW; go_simp)) ?_
    try simp only [Act.put, List.setIfInBounds_toArray, List.set_cons_zero, List.set_cons_succ]
    refine AnyL.oneAt 6 rfl (by kernel_rfl) rfl ?_
    intro K hK
    go_simp
    refine ((show ∀ W, Kb 0 X W → _ from HSUM) W0 HK0).mono ?_
    rintro e W1 ⟨rfl, k1⟩
    have HK1 : Hid (Kb 0 X W1) := (show Kb 0 X W0 from HK0).trans k1
    have hS1 : W1.cell? ⟨P5, 1, none⟩ = some (.int .i64 xg) := k1.cell hS0
    clear k1 HSUM hS0 HK0
    refine hK.out _ _ (fun _ => hS1) ?_
    clear hK K
    try simp only [Act.put, List.setIfInBounds_toArray, List.set_cons_zero, List.set_cons_succ]
    refine AnyL.oneAt 7 rfl (by kernel_rfl) rfl ?_
    intro K hK
    go_simp
    refine hK.out _ _ (fun _ => hS1) ?_
    clear hK K
    try simp only [Act.put, List.setIfInBounds_toArray, List.set_cons_zero, List.set_cons_succ]
    refine AnyL.oneAt 8 rfl (by kernel_rfl) rfl ?_
    intro K hK
    go_simp
    refine ((show ∀ W, _ from HHD) W1).mono ?_
    rintro e W2 ⟨b, rfl, hb1, hb2, ob, k2⟩
    have HK2 : Hid (Kb 0 X W2) := (show Kb 0 X W1 from HK1).trans k2
    have HOB : Hid (X.heap.size ≤ b ∧ b < W2.heap.size ∧ OwnR W2 (.slice (some ⟨b, 0, none⟩) 64 64) b 64 (fun i => .int .u8 (hdb (xg + 1) (n : Int) sm i))) := (⟨Nat.le_trans (show Kb 0 X W1 from HK1).size hb1, hb2, ob⟩ : _ ∧ _)
    have hS2 : W2.cell? ⟨P5, 1, none⟩ = some (.int .i64 xg) := k2.cell hS1
    clear HHD hb1 hb2 ob k2 hS1 HK1
    refine hK.out _ _ (fun _ => hS2) ?_
    clear hK K
    try simp only [Act.put, List.setIfInBounds_toArray, List.set_cons_zero, List.set_cons_succ]
    refine AnyL.oneAt 9 rfl (by kernel_rfl) rfl ?_
    intro K hK
    go_simp
    refine hK.out _ _ (fun h => absurd rfl h) ?_
    clear hK K
    try simp only [Act.put, List.setIfInBounds_toArray, List.set_cons_zero, List.set_cons_succ]
    refine AnyL.done (by kernel_rfl) ?_
    try dsimp only [Exit.inBlock, Exit.then]
    go_at_K
    obtain ⟨hbe, kwX, zX, hxD, hD1, hD2, hz4⟩ := (show _ ∧ _ ∧ _ ∧ _ ∧ _ ∧ _ ∧ _ from HBE)
    have k2 := (show Kb 0 X W2 from HK2)
    have c70 := k2.cell c7
    have c60 := k2.cell c6
    have HOW : Hid (W2.ownsRow (w4.heap.size + 4) 96 3 (.slice pv (opn n) cv) (opn n) (cel 3 (opF A n 0 2 xg) V (opn n)) ∧ w4.heap.size + 4 ≤ W2.heap.size) := (⟨own_keep hbe.ro (fun g hg => k2.block g (Nat.zero_le _) (hbe.ro.lt g hg).2), Nat.le_trans zX k2.size⟩ : _ ∧ _)
    obtain ⟨CL, hCL⟩ : ∃ CL, CL = cel 3 (opF A n 0 2 xg) V (opn n) := ⟨_, rfl⟩
    rw [← hCL] at HOW
    have HFN : Hid (∀ (ob : Obj) (W8 : World) (g cap : Nat), W8.ownsRow (w4.heap.size + 4) 96 3 (.slice (some ⟨g, 0, none⟩) (opn n + 3) cap) (opn n + 3) (CL ++ [.bool true, .int .i64 0, .slice none 0 0, .bool false, .int .i64 0, .slice (some ⟨b, 0, none⟩) 64 64, .bool true, .int .i64 0, .slice none 0 0]) → (W2.alloc ob).grownBy W8 (Value.slice pv (opn n) cv).ownBlock → ((Value.slice pv (opn n) cv).ownBlock = some g ∨ g = W2.heap.size + 1) →
        W8.heap[Dm]? = some (.deferred (some [])) ∧ ∀ o' : Obj, ∃ V' G', BE 3 w.heap.size 96 (W8.putObj Dm o') (.slice (some ⟨g, 0, none⟩) (opn n + 3) cap) (opn n + 3) (opF A n 0 2 xg) V' G' ∧ Kb 0 w (W8.putObj Dm o')) := (fun ob W8 g cap h8 g8 ha => by
      obtain ⟨ob1, ob2, ob3⟩ := (show _ ∧ _ ∧ _ from HOB)
      have f0 : opF A n 0 2 xg (opn n) = ⟨true, 0, 0, fun _ => 0⟩ := opF_s (by omega) (by omega)
      have f1 : opF A n 0 2 xg (opn n + 1) = ⟨false, ((0 : Nat) : Int), 64, hdb (xg + 1) (n : Int) (sgz A n)⟩ := opF_h
      have f2 : opF A n 0 2 xg (opn n + 2) = ⟨true, 0, 0, fun _ => 0⟩ := opF_s (by omega) (by omega)
      have st := BE.step3 hbe zX k2.size (fun q _ hq => k2.block q (Nat.zero_le _) hq) (by rw [f0]) (by rw [f2]) (vx := .slice (some ⟨b, 0, none⟩) 64 64) (gx := b) (by rw [f1, ← (show sm = _ from HSM)]; exact ob3) (fun _ => ⟨ob1, ob2⟩) (by rw [f0, f1, f2, ← hCL]; exact h8) g8 ha
      have z8 : W2.heap.size + 1 ≤ W8.heap.size := by have := g8.size; rw [World.size_alloc] at this; exact this
      have b8 : ∀ q, q < X.heap.size → some q ≠ (Value.slice pv (opn n) cv).ownBlock → W8.heap[q]? = X.heap[q]? := fun q hq hn => ((g8.block q (by rw [World.size_alloc]; have := k2.size; omega) hn).trans ((kb_alloc 0 W2 ob).block q (Nat.zero_le _) (by have := k2.size; omega))).trans (k2.block q (Nat.zero_le _) hq)
      have hn2 : some Dm ≠ (Value.slice pv (opn n) cv).ownBlock := fun e => by
        rcases hbe.ro.2 with ⟨e1, _⟩ | ⟨g', cap', cur, e1, _, e3, _⟩
        · rw [e1] at e; cases e
        · rw [e1] at e
          have e' : Dm = g' := by simpa [Value.ownBlock] using e
          rw [e', e3] at hxD
          cases hxD
      have hD8 : W8.heap[Dm]? = some (.deferred (some [])) := (b8 Dm hD2 hn2).trans hxD
      refine ⟨hD8, fun o' => ⟨_, _, (st.mono9 (show w.heap.size ≤ w4.heap.size + 4 by omega)).keepC (by simp [World.putObj]) (fun q o hq hc => World.putObj_heap_other (fun e => ?_)), ?_⟩⟩
      · rw [e, hD8] at hq
        cases hq
        cases hc
      · refine ⟨(g8.os.trans k2.os).trans kwX.os, (g8.output.trans k2.output).trans kwX.output, by have := kwX.size; have := k2.size; simp [World.putObj]; omega, fun q h1 h2 => ?_⟩
        rw [World.putObj_heap_other (fun e => by omega)]
        exact (b8 q (by have := kwX.size; omega) (fun e => by have := (hbe.ro.lt q e.symm).1; omega)).trans (kwX.block q h1 h2) : ∀ (ob : Obj) (W8 : World) (g cap : Nat), _)
    have hq2 : ((opn n : Nat) : Int) ≤ 128 := by have := opn_le hm1; omega
    obtain ⟨i1, hi1, hz0, hz1, hz2⟩ := infoOp
    have HI1 : Hid (Try.prog.info? 96 = some i1) := hi1
    clear hi1 hbe kwX zX hxD hD1 hD2 hz4 HBE HOB HK2 HSM hCL k2 hS2 c5 c6 c7
    go_wp2_with (refine wpList_append_lies _ (by rfl) (.tmp 63) (.tmp 69) 56 (by rfl) (w4.heap.size + 4) 96 i1 (.agg #[.bool false, .int .i64 0, .slice none 0 0]) 3 40 Try.underlying56 HI1 hz0 hz1 hz2 rfl (by decide) (.slice pv (opn n) cv) (opn n) CL (by rfl) ((show _ ∧ _ from HOW).1.alloc _) ⟨W2.heap.size, 0, none⟩ 3 3 [.bool true, .int .i64 0, .slice none 0 0, .bool false, .int .i64 0, .slice (some ⟨b, 0, none⟩) 64 64, .bool true, .int .i64 0, .slice none 0 0] (by rfl) rfl (qr_cells W2 #[.bool true, .int .i64 0, .slice none 0 0, .bool false, .int .i64 0, .slice (some ⟨b, 0, none⟩) 64 64, .bool true, .int .i64 0, .slice none 0 0] 96 [.bool true, .int .i64 0, .slice none 0 0, .bool false, .int .i64 0, .slice (some ⟨b, 0, none⟩) 64 64, .bool true, .int .i64 0, .slice none 0 0] rfl) (by intro y hy; simp only [List.mem_cons, List.not_mem_nil, or_false] at hy; rcases hy with rfl | rfl | rfl | rfl | rfl | rfl | rfl | rfl | rfl <;> rfl) (by decide) (by unfold maxLen; omega) (by omega) (by rw [World.size_alloc]; have := (show _ ∧ _ from HOW).2; omega) (W2.heap.size + 1) (World.size_alloc _ _) ?_; intro g cap w8 hown1 hgrow1 hat hlt; have HN : Hid (w8.heap[Dm]? = some (.deferred (some [])) ∧ ∀ o' : Obj, ∃ V' G', BE 3 w.heap.size 96 (w8.putObj Dm o') (.slice (some ⟨g, 0, none⟩) (opn n + 3) cap) (opn n + 3) (opF A n 0 2 xg) V' G' ∧ Kb 0 w (w8.putObj Dm o')) := (show ∀ (ob : Obj) (W8 : World) (g cap : Nat), _ from HFN) _ w8 g cap hown1 hgrow1 hat; clear hown1 hgrow1 hat hlt HFN HOW)
    refine ⟨by simp, .inl ⟨Dm, _, rfl, run_takeDeferred (show _ ∧ _ from HN).1, ?_⟩⟩
    refine ⟨_, by simp [results, Try.results33, go_sem]; rfl, ?_⟩
    obtain ⟨V', G', q1, q2⟩ := (show _ ∧ _ from HN).2 _
    exact ⟨_, V', G', rfl, q1, q2⟩
  case stop =>
    intro D c pre X _ _ h _
    exact h.elim
end Go.Proofs.Ytaggciimacanbaa.Fo
