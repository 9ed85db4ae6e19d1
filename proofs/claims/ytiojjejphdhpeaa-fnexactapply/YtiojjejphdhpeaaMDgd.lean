import Derived.Test.YtiojjejphdhpeaaMDgc
namespace Go.Proofs.Ytiojjejphdhpeaa.Fo
open Go.ChangeShapes Go.WideShapes Go.ChangeAt Go.RowKit
set_option linter.unusedVariables false
set_option maxRecDepth 100000
set_option linter.unusedSimpArgs false
theorem two_fv {W : World} {sb bx : Nat} (h0 : W.cell? ⟨sb, 0, none⟩ = some (.func (.func 86) #[] #[.pointer (some ⟨bx, 0, none⟩)])) (h1 : W.cell? ⟨sb, 1, none⟩ = some (.func (.func 88) #[] #[])) : RowV W (.slice (some ⟨sb, 0, none⟩) 2 2) 2 (fun i => .func (.func (fC i)) #[] (cC bx i)) := by
  refine ⟨_, _, rfl, fun _ => ⟨_, rfl, Nat.le_refl _, fun i hi => ?_⟩⟩
  rw [addr0]
  obtain rfl | rfl : i = 0 ∨ i = 1 := by omega
  · exact h0
  · exact h1
theorem one_fv {W : World} {sb : Nat} {v : Value} (h0 : W.cell? ⟨sb, 0, none⟩ = some v) : RowV W (.slice (some ⟨sb, 0, none⟩) 1 1) 1 (fun _ => v) := by
  refine ⟨_, _, rfl, fun _ => ⟨_, rfl, Nat.le_refl _, fun i hi => ?_⟩⟩
  rw [addr0]
  obtain rfl : i = 0 := by omega
  exact h0
set_option maxHeartbeats 16000000 in
theorem im_crash_n {v1 v2 : Value} {D D2 : Dd} {pk : Option Addr} {nk ck : Nat} (w : World) (ha : RowD 0 w v1 v2 D) (hbe : ∀ (sb bx : Nat) (W : World), Kb 0 w W → W.cell? ⟨bx, 0, none⟩ = some (.slice pk nk ck) → RowV W (.slice (some ⟨sb, 0, none⟩) 2 2) 2 (fun i => .func (.func (fC i)) #[] (cC bx i)) → Calls Try.prog 48 #[.agg #[v1, v2], .slice (some ⟨sb, 0, none⟩) 2 2] W fun e w' => e = .returned (.agg #[.slice none 0 0, .slice none 0 0]) ∧ Kb 0 W w') :
    Calls Try.prog 21 #[.agg #[v1, v2], .slice pk nk ck] w fun e w' => e = .returned (.agg #[.slice none 0 0, .slice none 0 0]) ∧ Kb 0 w w' := by
  obtain ⟨⟨p1, c1, rfl, -⟩, ⟨p2, c2, rfl, -⟩⟩ := id ha
  obtain ⟨w2, hw2⟩ : ∃ w2, w2 = (w.alloc (.cells #[.slice p1 D.n c1, .slice p2 D.m c2] 30)).alloc (.cells #[.slice none 0 0, .slice none 0 0] 30) := ⟨_, rfl⟩
  obtain ⟨b0, b1, z2, k2⟩ := two_newD w _ _ _ _ w2 hw2
  have u0 : w2.cell? ⟨w.heap.size, 0, none⟩ = some (.slice p1 D.n c1) := cell_of b0 rfl
  have u1 : w2.cell? ⟨w.heap.size, 1, none⟩ = some (.slice p2 D.m c2) := cell_of b0 rfl
  have HB : Hid (Kb 0 w w2 ∧ w2.heap[w.heap.size]? = some (.cells #[.slice p1 D.n c1, .slice p2 D.m c2] 30 (0, 0)) ∧ w2.heap[w.heap.size + 1]? = some (.cells #[.slice none 0 0, .slice none 0 0] 30 (0, 0)) ∧ w2.heap.size = w.heap.size + 2) := (⟨k2, b0, b1, z2⟩ : _ ∧ _)
  have HW2 : Hid (w2 = (w.alloc (.cells #[.slice p1 D.n c1, .slice p2 D.m c2] 30)).alloc (.cells #[.slice none 0 0, .slice none 0 0] 30)) := hw2
  have HBE : Hid (∀ (sb bx : Nat) (W : World), Kb 0 w2 W → W.cell? ⟨bx, 0, none⟩ = some (.slice pk nk ck) → RowV W (.slice (some ⟨sb, 0, none⟩) 2 2) 2 (fun i => .func (.func (fC i)) #[] (cC bx i)) → Calls Try.prog 48 #[.agg #[.slice p1 D.n c1, .slice p2 D.m c2], .slice (some ⟨sb, 0, none⟩) 2 2] W fun e w' => e = .returned (.agg #[.slice none 0 0, .slice none 0 0]) ∧ Kb 0 W w') := (fun sb bx W k => hbe sb bx W (k2.trans k) : ∀ (sb bx : Nat) (W : World), _)
  have hSS : (fun W' : World => W'.cell? ⟨w.heap.size, 0, none⟩ = some (.slice p1 D.n c1) ∧ W'.cell? ⟨w.heap.size, 1, none⟩ = some (.slice p2 D.m c2)) w2.drew := ⟨u0, u1⟩
  have HSS : Hid ((fun W' : World => W'.cell? ⟨w.heap.size, 0, none⟩ = some (.slice p1 D.n c1) ∧ W'.cell? ⟨w.heap.size, 1, none⟩ = some (.slice p2 D.m c2)) w2.drew) := hSS
  clear hw2 b0 b1 z2 k2 ha hbe u0 u1 hSS
  go_enter Try.func21, Try.ntmps21
  go_upto_region 1 with fail
  rw [← (show w2 = _ from HW2)]
  clear HW2
  refine AnyL.region (S := fun W' => W'.cell? ⟨w.heap.size, 0, none⟩ = some (.slice p1 D.n c1) ∧ W'.cell? ⟨w.heap.size, 1, none⟩ = some (.slice p2 D.m c2)) (z := 6) (by kernel_rfl) ?_
  have hS0 := (show (fun W' : World => W'.cell? ⟨w.heap.size, 0, none⟩ = some (.slice p1 D.n c1) ∧ W'.cell? ⟨w.heap.size, 1, none⟩ = some (.slice p2 D.m c2)) w2.drew from HSS)
  have HKD : Hid (Kb 0 w2 w2.drew) := (Kb.drewN (Kb.refl _ _) 1 : Kb 0 w2 w2.drew)
  obtain ⟨W0, hW0⟩ : ∃ W0, W0 = w2.drew := ⟨_, rfl⟩
  rw [← hW0] at HKD hS0 ⊢
  clear hW0 HSS
  refine AnyL.takeAt 0 (.agg #[.slice p1 D.n c1, .slice p2 D.m c2]) rfl (by kernel_rfl) (by kernel_rfl) (by kernel_rfl) (by kernel_rfl) (fun _ _ _ h => h) rfl hS0 (by intro W hW; first | go_simp | (obtain ⟨i0, i1⟩ := hW; go_simp)) ?_
  try simp only [Act.put, List.setIfInBounds_toArray, List.set_cons_zero, List.set_cons_succ]
  refine AnyL.takeAt 1 (.slice pk nk ck) rfl (by kernel_rfl) (by kernel_rfl) (by kernel_rfl) (by kernel_rfl) (fun _ _ _ h => h) rfl hS0 (by intro W hW; first | go_simp | (obtain ⟨i0, i1⟩ := hW; go_simp)) ?_
  try simp only [Act.put, List.setIfInBounds_toArray, List.set_cons_zero, List.set_cons_succ]
  refine AnyL.oneAt 2 rfl (by kernel_rfl) rfl ?_
  intro K hK
  go_simp
  refine (im_losing (.slice pk nk ck) pk nk ck W0).mono ?_
  rintro e W1 ⟨rfl, hW1⟩
  have k1' : Kb 0 W0 W1 := by rw [hW1]; exact kb_alloc _ _ _
  have hbx : W1.cell? ⟨W0.heap.size, 0, none⟩ = some (.slice pk nk ck) := by rw [hW1]; exact cell_of (alloc_new _ _ _) rfl
  have hS1 : (fun W' : World => W'.cell? ⟨w.heap.size, 0, none⟩ = some (.slice p1 D.n c1) ∧ W'.cell? ⟨w.heap.size, 1, none⟩ = some (.slice p2 D.m c2)) W1 := ⟨k1'.cell hS0.1, k1'.cell hS0.2⟩
  have HK1 : Hid (Kb 0 w2 W1 ∧ W1.cell? ⟨W0.heap.size, 0, none⟩ = some (.slice pk nk ck)) := (⟨(show Kb 0 w2 W0 from HKD).trans k1', hbx⟩ : _ ∧ _)
  obtain ⟨bx, hbx2⟩ : ∃ bx, bx = W0.heap.size := ⟨_, rfl⟩
  rw [← hbx2] at HK1 ⊢
  clear hW1 k1' hbx hS0 HKD hbx2
  refine hK.out _ _ (fun _ => hS1) ?_
  clear hK K
  try simp only [Act.put, List.setIfInBounds_toArray, List.set_cons_zero, List.set_cons_succ]
  refine AnyL.oneAt 3 rfl (by kernel_rfl) rfl ?_
  intro K hK
  go_simp
  refine (im_syncing W1).mono ?_
  rintro e W3 ⟨rfl, rfl⟩
  refine hK.out _ _ (fun _ => hS1) ?_
  clear hK K
  try simp only [Act.put, List.setIfInBounds_toArray, List.set_cons_zero, List.set_cons_succ]
  refine AnyL.oneAt 4 rfl (by kernel_rfl) rfl ?_
  intro K hK
  go_simp
  generalize hW2 : World.alloc W3 _ = W2
  have k2' : Kb 0 W3 W2 := by rw [← hW2]; exact kb_alloc _ _ _
  have cs0 : W2.cell? ⟨W3.heap.size, 0, none⟩ = some (.func (.func 86) #[] #[.pointer (some ⟨bx, 0, none⟩)]) := by rw [← hW2]; exact cell_of (alloc_new _ _ _) rfl
  have cs1 : W2.cell? ⟨W3.heap.size, 1, none⟩ = some (.func (.func 88) #[] #[]) := by rw [← hW2]; exact cell_of (alloc_new _ _ _) rfl
  have k22 := (show _ ∧ _ from HK1).1.trans k2'
  have HBE2 := (show ∀ (sb bx : Nat) (W : World), _ from HBE) W3.heap.size bx W2 k22 (k2'.cell (show _ ∧ _ from HK1).2) (two_fv cs0 cs1)
  have hS2 : (fun W' : World => W'.cell? ⟨w.heap.size, 0, none⟩ = some (.slice p1 D.n c1) ∧ W'.cell? ⟨w.heap.size, 1, none⟩ = some (.slice p2 D.m c2)) W2 := ⟨k2'.cell hS1.1, k2'.cell hS1.2⟩
  have HK22 : Hid (Kb 0 w2 W2) := k22
  clear hW2 k2' cs0 cs1 k22 hS1 HK1 HBE
  refine hK.out _ _ (fun _ => hS2) ?_
  clear hK K
  try simp only [Act.put, List.setIfInBounds_toArray, List.set_cons_zero, List.set_cons_succ]
  refine AnyL.oneAt 5 rfl (by kernel_rfl) rfl ?_
  intro K hK
  go_simp
  refine HBE2.mono ?_
  rintro e W5 ⟨rfl, k5⟩
  have hS5 : (fun W' : World => W'.cell? ⟨w.heap.size, 0, none⟩ = some (.slice p1 D.n c1) ∧ W'.cell? ⟨w.heap.size, 1, none⟩ = some (.slice p2 D.m c2)) W5 := ⟨k5.cell hS2.1, k5.cell hS2.2⟩
  have k25 := (show Kb 0 w2 W2 from HK22).trans k5
  obtain ⟨kw2, b0, b1, z2⟩ := (show _ ∧ _ ∧ _ ∧ _ from HB)
  have r := (k25.block (w.heap.size + 1) (Nat.zero_le _) (by omega)).trans b1
  have a0 : W5.cell? ⟨w.heap.size + 1, 0, none⟩ = some (.slice none 0 0) := cell_of r rfl
  have a1 : W5.cell? ⟨w.heap.size + 1, 1, none⟩ = some (.slice none 0 0) := cell_of r rfl
  have fy : ∀ j, W5.frozen? ⟨w.heap.size + 1, j, none⟩ = false := fun j => frozen_of r
  obtain ⟨WF, hWF⟩ : ∃ WF, WF = (W5.setCell ⟨w.heap.size + 1, 0, none⟩ (.slice none 0 0)).setCell ⟨w.heap.size + 1, 1, none⟩ (.slice none 0 0) := ⟨_, rfl⟩
  have zF : WF.heap.size = W5.heap.size := by rw [hWF]; simp
  have bF : ∀ q, q ≠ w.heap.size + 1 → WF.heap[q]? = W5.heap[q]? := fun q hq => by
    rw [hWF, Below.heap_setCell _ _ _ _ (show q ≠ w.heap.size + 1 from hq), Below.heap_setCell _ _ _ _ (show q ≠ w.heap.size + 1 from hq)]
  have rF : WF.heap[w.heap.size + 1]? = some (.cells #[.slice none 0 0, .slice none 0 0] 30 (0, 0)) := by
    rw [hWF]
    exact set_known _ (set_known _ r)
  have f3 : WF.cell? ⟨w.heap.size + 1, 0, none⟩ = some (.slice none 0 0) := cell_of rF rfl
  have f4 : WF.cell? ⟨w.heap.size + 1, 1, none⟩ = some (.slice none 0 0) := cell_of rF rfl
  have kF : Kb 0 w WF := by rw [hWF]; exact ((kw2.trans k25).setCell _ (.inr (by show _ ≤ w.heap.size + 1; omega)) _).setCell _ (.inr (by show _ ≤ w.heap.size + 1; omega)) _
  have HF : Hid (Kb 0 w WF) := kF
  have HWF : Hid (WF = _) := hWF
  clear HBE2 k5 hS2 kw2 b0 b1 z2 k25 r zF bF rF hWF kF
  refine hK.out _ _ (fun _ => hS5) ?_
  clear hK K hS5
  try simp only [Act.put, List.setIfInBounds_toArray, List.set_cons_zero, List.set_cons_succ]
  refine AnyL.oneAt 6 rfl (by kernel_rfl) rfl ?_
  intro K hK
  go_simp
  rw [← (show WF = _ from HWF)]
  clear HWF
  refine hK.out _ _ (fun h => absurd rfl h) ?_
  clear hK K
  try simp only [Act.put, List.setIfInBounds_toArray, List.set_cons_zero, List.set_cons_succ]
  refine AnyL.done (by kernel_rfl) ?_
  go_wp2_with fail
  refine bodyPost_ret (by simp [results, Try.results21, go_sem, f3, f4]; rfl) rfl ?_
  exact ⟨rfl, HF⟩
set_option maxHeartbeats 16000000 in
theorem im_crash_y {v1 v2 : Value} {D D2 : Dd} {pk : Option Addr} {nk ck : Nat} (w : World) (ha : RowD 0 w v1 v2 D) (hbe : ∀ (sb bx : Nat) (W : World), Kb 0 w W → W.cell? ⟨bx, 0, none⟩ = some (.slice pk nk ck) → RowV W (.slice (some ⟨sb, 0, none⟩) 2 2) 2 (fun i => .func (.func (fC i)) #[] (cC bx i)) → Calls Try.prog 48 #[.agg #[v1, v2], .slice (some ⟨sb, 0, none⟩) 2 2] W fun e w' => ∃ u1 u2, e = .returned (.agg #[u1, u2]) ∧ OwD W.heap.size w'.heap.size w' u1 u2 D2 ∧ Kb 0 W w') :
    Calls Try.prog 21 #[.agg #[v1, v2], .slice pk nk ck] w fun e w' => ∃ u1 u2, e = .returned (.agg #[u1, u2]) ∧ OwD w.heap.size w'.heap.size w' u1 u2 D2 ∧ Kb 0 w w' := by
  obtain ⟨⟨p1, c1, rfl, -⟩, ⟨p2, c2, rfl, -⟩⟩ := id ha
  obtain ⟨w2, hw2⟩ : ∃ w2, w2 = (w.alloc (.cells #[.slice p1 D.n c1, .slice p2 D.m c2] 30)).alloc (.cells #[.slice none 0 0, .slice none 0 0] 30) := ⟨_, rfl⟩
  obtain ⟨b0, b1, z2, k2⟩ := two_newD w _ _ _ _ w2 hw2
  have u0 : w2.cell? ⟨w.heap.size, 0, none⟩ = some (.slice p1 D.n c1) := cell_of b0 rfl
  have u1 : w2.cell? ⟨w.heap.size, 1, none⟩ = some (.slice p2 D.m c2) := cell_of b0 rfl
  have HB : Hid (Kb 0 w w2 ∧ w2.heap[w.heap.size]? = some (.cells #[.slice p1 D.n c1, .slice p2 D.m c2] 30 (0, 0)) ∧ w2.heap[w.heap.size + 1]? = some (.cells #[.slice none 0 0, .slice none 0 0] 30 (0, 0)) ∧ w2.heap.size = w.heap.size + 2) := (⟨k2, b0, b1, z2⟩ : _ ∧ _)
  have HW2 : Hid (w2 = (w.alloc (.cells #[.slice p1 D.n c1, .slice p2 D.m c2] 30)).alloc (.cells #[.slice none 0 0, .slice none 0 0] 30)) := hw2
  have HBE : Hid (∀ (sb bx : Nat) (W : World), Kb 0 w2 W → W.cell? ⟨bx, 0, none⟩ = some (.slice pk nk ck) → RowV W (.slice (some ⟨sb, 0, none⟩) 2 2) 2 (fun i => .func (.func (fC i)) #[] (cC bx i)) → Calls Try.prog 48 #[.agg #[.slice p1 D.n c1, .slice p2 D.m c2], .slice (some ⟨sb, 0, none⟩) 2 2] W fun e w' => ∃ u1 u2, e = .returned (.agg #[u1, u2]) ∧ OwD W.heap.size w'.heap.size w' u1 u2 D2 ∧ Kb 0 W w') := (fun sb bx W k => hbe sb bx W (k2.trans k) : ∀ (sb bx : Nat) (W : World), _)
  have hSS : (fun W' : World => W'.cell? ⟨w.heap.size, 0, none⟩ = some (.slice p1 D.n c1) ∧ W'.cell? ⟨w.heap.size, 1, none⟩ = some (.slice p2 D.m c2)) w2.drew := ⟨u0, u1⟩
  have HSS : Hid ((fun W' : World => W'.cell? ⟨w.heap.size, 0, none⟩ = some (.slice p1 D.n c1) ∧ W'.cell? ⟨w.heap.size, 1, none⟩ = some (.slice p2 D.m c2)) w2.drew) := hSS
  clear hw2 b0 b1 z2 k2 ha hbe u0 u1 hSS
  go_enter Try.func21, Try.ntmps21
  go_upto_region 1 with fail
  rw [← (show w2 = _ from HW2)]
  clear HW2
  refine AnyL.region (S := fun W' => W'.cell? ⟨w.heap.size, 0, none⟩ = some (.slice p1 D.n c1) ∧ W'.cell? ⟨w.heap.size, 1, none⟩ = some (.slice p2 D.m c2)) (z := 6) (by kernel_rfl) ?_
  have hS0 := (show (fun W' : World => W'.cell? ⟨w.heap.size, 0, none⟩ = some (.slice p1 D.n c1) ∧ W'.cell? ⟨w.heap.size, 1, none⟩ = some (.slice p2 D.m c2)) w2.drew from HSS)
  have HKD : Hid (Kb 0 w2 w2.drew) := (Kb.drewN (Kb.refl _ _) 1 : Kb 0 w2 w2.drew)
  obtain ⟨W0, hW0⟩ : ∃ W0, W0 = w2.drew := ⟨_, rfl⟩
  rw [← hW0] at HKD hS0 ⊢
  clear hW0 HSS
  refine AnyL.takeAt 0 (.agg #[.slice p1 D.n c1, .slice p2 D.m c2]) rfl (by kernel_rfl) (by kernel_rfl) (by kernel_rfl) (by kernel_rfl) (fun _ _ _ h => h) rfl hS0 (by intro W hW; first | go_simp | (obtain ⟨i0, i1⟩ := hW; go_simp)) ?_
  try simp only [Act.put, List.setIfInBounds_toArray, List.set_cons_zero, List.set_cons_succ]
  refine AnyL.takeAt 1 (.slice pk nk ck) rfl (by kernel_rfl) (by kernel_rfl) (by kernel_rfl) (by kernel_rfl) (fun _ _ _ h => h) rfl hS0 (by intro W hW; first | go_simp | (obtain ⟨i0, i1⟩ := hW; go_simp)) ?_
  try simp only [Act.put, List.setIfInBounds_toArray, List.set_cons_zero, List.set_cons_succ]
  refine AnyL.oneAt 2 rfl (by kernel_rfl) rfl ?_
  intro K hK
  go_simp
  refine (im_losing (.slice pk nk ck) pk nk ck W0).mono ?_
  rintro e W1 ⟨rfl, hW1⟩
  have k1' : Kb 0 W0 W1 := by rw [hW1]; exact kb_alloc _ _ _
  have hbx : W1.cell? ⟨W0.heap.size, 0, none⟩ = some (.slice pk nk ck) := by rw [hW1]; exact cell_of (alloc_new _ _ _) rfl
  have hS1 : (fun W' : World => W'.cell? ⟨w.heap.size, 0, none⟩ = some (.slice p1 D.n c1) ∧ W'.cell? ⟨w.heap.size, 1, none⟩ = some (.slice p2 D.m c2)) W1 := ⟨k1'.cell hS0.1, k1'.cell hS0.2⟩
  have HK1 : Hid (Kb 0 w2 W1 ∧ W1.cell? ⟨W0.heap.size, 0, none⟩ = some (.slice pk nk ck)) := (⟨(show Kb 0 w2 W0 from HKD).trans k1', hbx⟩ : _ ∧ _)
  obtain ⟨bx, hbx2⟩ : ∃ bx, bx = W0.heap.size := ⟨_, rfl⟩
  rw [← hbx2] at HK1 ⊢
  clear hW1 k1' hbx hS0 HKD hbx2
  refine hK.out _ _ (fun _ => hS1) ?_
  clear hK K
  try simp only [Act.put, List.setIfInBounds_toArray, List.set_cons_zero, List.set_cons_succ]
  refine AnyL.oneAt 3 rfl (by kernel_rfl) rfl ?_
  intro K hK
  go_simp
  refine (im_syncing W1).mono ?_
  rintro e W3 ⟨rfl, rfl⟩
  refine hK.out _ _ (fun _ => hS1) ?_
  clear hK K
  try simp only [Act.put, List.setIfInBounds_toArray, List.set_cons_zero, List.set_cons_succ]
  refine AnyL.oneAt 4 rfl (by kernel_rfl) rfl ?_
  intro K hK
  go_simp
  generalize hW2 : World.alloc W3 _ = W2
  have k2' : Kb 0 W3 W2 := by rw [← hW2]; exact kb_alloc _ _ _
  have cs0 : W2.cell? ⟨W3.heap.size, 0, none⟩ = some (.func (.func 86) #[] #[.pointer (some ⟨bx, 0, none⟩)]) := by rw [← hW2]; exact cell_of (alloc_new _ _ _) rfl
  have cs1 : W2.cell? ⟨W3.heap.size, 1, none⟩ = some (.func (.func 88) #[] #[]) := by rw [← hW2]; exact cell_of (alloc_new _ _ _) rfl
  have k22 := (show _ ∧ _ from HK1).1.trans k2'
  have HBE2 := (show ∀ (sb bx : Nat) (W : World), _ from HBE) W3.heap.size bx W2 k22 (k2'.cell (show _ ∧ _ from HK1).2) (two_fv cs0 cs1)
  have hS2 : (fun W' : World => W'.cell? ⟨w.heap.size, 0, none⟩ = some (.slice p1 D.n c1) ∧ W'.cell? ⟨w.heap.size, 1, none⟩ = some (.slice p2 D.m c2)) W2 := ⟨k2'.cell hS1.1, k2'.cell hS1.2⟩
  have HK22 : Hid (Kb 0 w2 W2) := k22
  clear hW2 k2' cs0 cs1 k22 hS1 HK1 HBE
  refine hK.out _ _ (fun _ => hS2) ?_
  clear hK K
  try simp only [Act.put, List.setIfInBounds_toArray, List.set_cons_zero, List.set_cons_succ]
  refine AnyL.oneAt 5 rfl (by kernel_rfl) rfl ?_
  intro K hK
  go_simp
  refine HBE2.mono ?_
  rintro e W5 ⟨y1, y2, rfl, o5, k5⟩
  obtain ⟨s1, e1, s2, e2, rfl, rfl⟩ := o5.shape
  have hS5 : (fun W' : World => W'.cell? ⟨w.heap.size, 0, none⟩ = some (.slice p1 D.n c1) ∧ W'.cell? ⟨w.heap.size, 1, none⟩ = some (.slice p2 D.m c2)) W5 := ⟨k5.cell hS2.1, k5.cell hS2.2⟩
  have k25 := (show Kb 0 w2 W2 from HK22).trans k5
  obtain ⟨kw2, b0, b1, z2⟩ := (show _ ∧ _ ∧ _ ∧ _ from HB)
  have r := (k25.block (w.heap.size + 1) (Nat.zero_le _) (by omega)).trans b1
  have a0 : W5.cell? ⟨w.heap.size + 1, 0, none⟩ = some (.slice none 0 0) := cell_of r rfl
  have a1 : W5.cell? ⟨w.heap.size + 1, 1, none⟩ = some (.slice none 0 0) := cell_of r rfl
  have fy : ∀ j, W5.frozen? ⟨w.heap.size + 1, j, none⟩ = false := fun j => frozen_of r
  obtain ⟨WF, hWF⟩ : ∃ WF, WF = (W5.setCell ⟨w.heap.size + 1, 0, none⟩ (.slice s1 D2.n e1)).setCell ⟨w.heap.size + 1, 1, none⟩ (.slice s2 D2.m e2) := ⟨_, rfl⟩
  have zF : WF.heap.size = W5.heap.size := by rw [hWF]; simp
  have bF : ∀ q, q ≠ w.heap.size + 1 → WF.heap[q]? = W5.heap[q]? := fun q hq => by
    rw [hWF, Below.heap_setCell _ _ _ _ (show q ≠ w.heap.size + 1 from hq), Below.heap_setCell _ _ _ _ (show q ≠ w.heap.size + 1 from hq)]
  have rF : WF.heap[w.heap.size + 1]? = some (.cells #[.slice s1 D2.n e1, .slice s2 D2.m e2] 30 (0, 0)) := by
    rw [hWF]
    exact set_known _ (set_known _ r)
  have f3 : WF.cell? ⟨w.heap.size + 1, 0, none⟩ = some (.slice s1 D2.n e1) := cell_of rF rfl
  have f4 : WF.cell? ⟨w.heap.size + 1, 1, none⟩ = some (.slice s2 D2.m e2) := cell_of rF rfl
  have kF : Kb 0 w WF := by rw [hWF]; exact ((kw2.trans k25).setCell _ (.inr (by show _ ≤ w.heap.size + 1; omega)) _).setCell _ (.inr (by show _ ≤ w.heap.size + 1; omega)) _
  have oF : OwD w.heap.size WF.heap.size WF (.slice s1 D2.n e1) (.slice s2 D2.m e2) D2 := by
    rw [zF]
    have := (show Kb 0 w2 W2 from HK22).size
    exact (o5.block (fun q h1 h2 => bF q (by omega))).wide (by omega) (Nat.le_refl _)
  have HF : Hid (OwD w.heap.size WF.heap.size WF (.slice s1 D2.n e1) (.slice s2 D2.m e2) D2 ∧ Kb 0 w WF) := (⟨oF, kF⟩ : _ ∧ _)
  have HWF : Hid (WF = _) := hWF
  clear HBE2 o5 k5 hS2 kw2 b0 b1 z2 k25 r zF bF rF hWF oF kF
  refine hK.out _ _ (fun _ => hS5) ?_
  clear hK K hS5
  try simp only [Act.put, List.setIfInBounds_toArray, List.set_cons_zero, List.set_cons_succ]
  refine AnyL.oneAt 6 rfl (by kernel_rfl) rfl ?_
  intro K hK
  go_simp
  rw [← (show WF = _ from HWF)]
  clear HWF
  refine hK.out _ _ (fun h => absurd rfl h) ?_
  clear hK K
  try simp only [Act.put, List.setIfInBounds_toArray, List.set_cons_zero, List.set_cons_succ]
  refine AnyL.done (by kernel_rfl) ?_
  go_wp2_with fail
  refine bodyPost_ret (by simp [results, Try.results21, go_sem, f3, f4]; rfl) rfl ?_
  exact ⟨_, _, rfl, HF⟩
set_option maxHeartbeats 16000000 in
theorem im_putb_n {v1 v2 : Value} {D D2 : Dd} {b : Int} {pk : Option Addr} {nk ck : Nat} (w : World) (ha : RowD 0 w v1 v2 D) (hbe : ∀ (sb b1 : Nat) (W : World), Kb 0 w W → W.cell? ⟨b1, 0, none⟩ = some (.int .i64 b) → W.cell? ⟨b1 + 1, 0, none⟩ = some (.slice pk nk ck) → RowV W (.slice (some ⟨sb, 0, none⟩) 1 1) 1 (fun i => .func (.func 83) #[] #[.pointer (some ⟨b1, 0, none⟩), .pointer (some ⟨b1 + 1, 0, none⟩)]) → Calls Try.prog 48 #[.agg #[v1, v2], .slice (some ⟨sb, 0, none⟩) 1 1] W fun e w' => e = .returned (.agg #[.slice none 0 0, .slice none 0 0]) ∧ Kb 0 W w') :
    Calls Try.prog 13 #[.agg #[v1, v2], .int .i64 b, .slice pk nk ck] w fun e w' => e = .returned (.agg #[.slice none 0 0, .slice none 0 0]) ∧ Kb 0 w w' := by
  obtain ⟨⟨p1, c1, rfl, -⟩, ⟨p2, c2, rfl, -⟩⟩ := id ha
  obtain ⟨w2, hw2⟩ : ∃ w2, w2 = (w.alloc (.cells #[.slice p1 D.n c1, .slice p2 D.m c2] 30)).alloc (.cells #[.slice none 0 0, .slice none 0 0] 30) := ⟨_, rfl⟩
  obtain ⟨b0, b1, z2, k2⟩ := two_newD w _ _ _ _ w2 hw2
  have u0 : w2.cell? ⟨w.heap.size, 0, none⟩ = some (.slice p1 D.n c1) := cell_of b0 rfl
  have u1 : w2.cell? ⟨w.heap.size, 1, none⟩ = some (.slice p2 D.m c2) := cell_of b0 rfl
  have HB : Hid (Kb 0 w w2 ∧ w2.heap[w.heap.size]? = some (.cells #[.slice p1 D.n c1, .slice p2 D.m c2] 30 (0, 0)) ∧ w2.heap[w.heap.size + 1]? = some (.cells #[.slice none 0 0, .slice none 0 0] 30 (0, 0)) ∧ w2.heap.size = w.heap.size + 2) := (⟨k2, b0, b1, z2⟩ : _ ∧ _)
  have HW2 : Hid (w2 = (w.alloc (.cells #[.slice p1 D.n c1, .slice p2 D.m c2] 30)).alloc (.cells #[.slice none 0 0, .slice none 0 0] 30)) := hw2
  have HBE : Hid (∀ (sb b1 : Nat) (W : World), Kb 0 w2 W → W.cell? ⟨b1, 0, none⟩ = some (.int .i64 b) → W.cell? ⟨b1 + 1, 0, none⟩ = some (.slice pk nk ck) → RowV W (.slice (some ⟨sb, 0, none⟩) 1 1) 1 (fun i => .func (.func 83) #[] #[.pointer (some ⟨b1, 0, none⟩), .pointer (some ⟨b1 + 1, 0, none⟩)]) → Calls Try.prog 48 #[.agg #[.slice p1 D.n c1, .slice p2 D.m c2], .slice (some ⟨sb, 0, none⟩) 1 1] W fun e w' => e = .returned (.agg #[.slice none 0 0, .slice none 0 0]) ∧ Kb 0 W w') := (fun sb b1 W k => hbe sb b1 W (k2.trans k) : ∀ (sb b1 : Nat) (W : World), _)
  have hSS : (fun W' : World => W'.cell? ⟨w.heap.size, 0, none⟩ = some (.slice p1 D.n c1) ∧ W'.cell? ⟨w.heap.size, 1, none⟩ = some (.slice p2 D.m c2)) w2.drew := ⟨u0, u1⟩
  have HSS : Hid ((fun W' : World => W'.cell? ⟨w.heap.size, 0, none⟩ = some (.slice p1 D.n c1) ∧ W'.cell? ⟨w.heap.size, 1, none⟩ = some (.slice p2 D.m c2)) w2.drew) := hSS
  clear hw2 b0 b1 z2 k2 ha hbe u0 u1 hSS
  go_enter Try.func13, Try.ntmps13
  go_upto_region 1 with fail
  rw [← (show w2 = _ from HW2)]
  clear HW2
  refine AnyL.region (S := fun W' => W'.cell? ⟨w.heap.size, 0, none⟩ = some (.slice p1 D.n c1) ∧ W'.cell? ⟨w.heap.size, 1, none⟩ = some (.slice p2 D.m c2)) (z := 6) (by kernel_rfl) ?_
  have hS0 := (show (fun W' : World => W'.cell? ⟨w.heap.size, 0, none⟩ = some (.slice p1 D.n c1) ∧ W'.cell? ⟨w.heap.size, 1, none⟩ = some (.slice p2 D.m c2)) w2.drew from HSS)
  have HKD : Hid (Kb 0 w2 w2.drew) := (Kb.drewN (Kb.refl _ _) 1 : Kb 0 w2 w2.drew)
  obtain ⟨W0, hW0⟩ : ∃ W0, W0 = w2.drew := ⟨_, rfl⟩
  rw [← hW0] at HKD hS0 ⊢
  clear hW0 HSS
  refine AnyL.takeAt 0 (.agg #[.slice p1 D.n c1, .slice p2 D.m c2]) rfl (by kernel_rfl) (by kernel_rfl) (by kernel_rfl) (by kernel_rfl) (fun _ _ _ h => h) rfl hS0 (by intro W hW; first | go_simp | (obtain ⟨i0, i1⟩ := hW; go_simp)) ?_
  try simp only [Act.put, List.setIfInBounds_toArray, List.set_cons_zero, List.set_cons_succ]
  refine AnyL.takeAt 1 (.int .i64 b) rfl (by kernel_rfl) (by kernel_rfl) (by kernel_rfl) (by kernel_rfl) (fun _ _ _ h => h) rfl hS0 (by intro W hW; first | go_simp | (obtain ⟨i0, i1⟩ := hW; go_simp)) ?_
  try simp only [Act.put, List.setIfInBounds_toArray, List.set_cons_zero, List.set_cons_succ]
  refine AnyL.takeAt 2 (.slice pk nk ck) rfl (by kernel_rfl) (by kernel_rfl) (by kernel_rfl) (by kernel_rfl) (fun _ _ _ h => h) rfl hS0 (by intro W hW; first | go_simp | (obtain ⟨i0, i1⟩ := hW; go_simp)) ?_
  try simp only [Act.put, List.setIfInBounds_toArray, List.set_cons_zero, List.set_cons_succ]
  refine AnyL.oneAt 3 rfl (by kernel_rfl) rfl ?_
  intro K hK
  go_simp
  refine (im_putting b pk nk ck W0).mono ?_
  rintro e W1 ⟨rfl, hW1⟩
  have k1' : Kb 0 W0 W1 := by rw [hW1]; exact (kb_alloc _ _ _).trans (kb_alloc _ _ _)
  have hbx : W1.cell? ⟨W0.heap.size, 0, none⟩ = some (.int .i64 b) := by rw [hW1]; exact (kb_alloc 0 _ _).cell (cell_of (alloc_new _ _ _) rfl)
  have hby : W1.cell? ⟨W0.heap.size + 1, 0, none⟩ = some (.slice pk nk ck) := by
    rw [hW1]
    have := cell_of (alloc_new (W0.alloc (.cells #[.int .i64 b] 3)) #[.slice pk nk ck] 26) (j := 0) (v := .slice pk nk ck) rfl
    rw [World.size_alloc] at this
    exact this
  have hS1 : (fun W' : World => W'.cell? ⟨w.heap.size, 0, none⟩ = some (.slice p1 D.n c1) ∧ W'.cell? ⟨w.heap.size, 1, none⟩ = some (.slice p2 D.m c2)) W1 := ⟨k1'.cell hS0.1, k1'.cell hS0.2⟩
  have HK1 : Hid (Kb 0 w2 W1 ∧ W1.cell? ⟨W0.heap.size, 0, none⟩ = some (.int .i64 b) ∧ W1.cell? ⟨W0.heap.size + 1, 0, none⟩ = some (.slice pk nk ck)) := (⟨(show Kb 0 w2 W0 from HKD).trans k1', hbx, hby⟩ : _ ∧ _)
  obtain ⟨bx, hbx2⟩ : ∃ bx, bx = W0.heap.size := ⟨_, rfl⟩
  rw [← hbx2] at HK1 ⊢
  clear hW1 k1' hbx hby hS0 HKD hbx2
  refine hK.out _ _ (fun _ => hS1) ?_
  clear hK K
  try simp only [Act.put, List.setIfInBounds_toArray, List.set_cons_zero, List.set_cons_succ]
  refine AnyL.oneAt 4 rfl (by kernel_rfl) rfl ?_
  intro K hK
  go_simp
  generalize hW2 : World.alloc W1 _ = W2
  have k2' : Kb 0 W1 W2 := by rw [← hW2]; exact kb_alloc _ _ _
  have cs0 : W2.cell? ⟨W1.heap.size, 0, none⟩ = some (.func (.func 83) #[] #[.pointer (some ⟨bx, 0, none⟩), .pointer (some ⟨bx + 1, 0, none⟩)]) := by rw [← hW2]; exact cell_of (alloc_new _ _ _) rfl
  have k22 := (show _ ∧ _ ∧ _ from HK1).1.trans k2'
  have HBE2 := (show ∀ (sb b1 : Nat) (W : World), _ from HBE) W1.heap.size bx W2 k22 (k2'.cell (show _ ∧ _ ∧ _ from HK1).2.1) (k2'.cell (show _ ∧ _ ∧ _ from HK1).2.2) (one_fv cs0)
  have hS2 : (fun W' : World => W'.cell? ⟨w.heap.size, 0, none⟩ = some (.slice p1 D.n c1) ∧ W'.cell? ⟨w.heap.size, 1, none⟩ = some (.slice p2 D.m c2)) W2 := ⟨k2'.cell hS1.1, k2'.cell hS1.2⟩
  have HK22 : Hid (Kb 0 w2 W2) := k22
  clear hW2 k2' cs0 k22 hS1 HK1 HBE
  refine hK.out _ _ (fun _ => hS2) ?_
  clear hK K
  try simp only [Act.put, List.setIfInBounds_toArray, List.set_cons_zero, List.set_cons_succ]
  refine AnyL.oneAt 5 rfl (by kernel_rfl) rfl ?_
  intro K hK
  go_simp
  refine HBE2.mono ?_
  rintro e W5 ⟨rfl, k5⟩
  have hS5 : (fun W' : World => W'.cell? ⟨w.heap.size, 0, none⟩ = some (.slice p1 D.n c1) ∧ W'.cell? ⟨w.heap.size, 1, none⟩ = some (.slice p2 D.m c2)) W5 := ⟨k5.cell hS2.1, k5.cell hS2.2⟩
  have k25 := (show Kb 0 w2 W2 from HK22).trans k5
  obtain ⟨kw2, b0, b1, z2⟩ := (show _ ∧ _ ∧ _ ∧ _ from HB)
  have r := (k25.block (w.heap.size + 1) (Nat.zero_le _) (by omega)).trans b1
  have a0 : W5.cell? ⟨w.heap.size + 1, 0, none⟩ = some (.slice none 0 0) := cell_of r rfl
  have a1 : W5.cell? ⟨w.heap.size + 1, 1, none⟩ = some (.slice none 0 0) := cell_of r rfl
  have fy : ∀ j, W5.frozen? ⟨w.heap.size + 1, j, none⟩ = false := fun j => frozen_of r
  obtain ⟨WF, hWF⟩ : ∃ WF, WF = (W5.setCell ⟨w.heap.size + 1, 0, none⟩ (.slice none 0 0)).setCell ⟨w.heap.size + 1, 1, none⟩ (.slice none 0 0) := ⟨_, rfl⟩
  have zF : WF.heap.size = W5.heap.size := by rw [hWF]; simp
  have bF : ∀ q, q ≠ w.heap.size + 1 → WF.heap[q]? = W5.heap[q]? := fun q hq => by
    rw [hWF, Below.heap_setCell _ _ _ _ (show q ≠ w.heap.size + 1 from hq), Below.heap_setCell _ _ _ _ (show q ≠ w.heap.size + 1 from hq)]
  have rF : WF.heap[w.heap.size + 1]? = some (.cells #[.slice none 0 0, .slice none 0 0] 30 (0, 0)) := by
    rw [hWF]
    exact set_known _ (set_known _ r)
  have f3 : WF.cell? ⟨w.heap.size + 1, 0, none⟩ = some (.slice none 0 0) := cell_of rF rfl
  have f4 : WF.cell? ⟨w.heap.size + 1, 1, none⟩ = some (.slice none 0 0) := cell_of rF rfl
  have kF : Kb 0 w WF := by rw [hWF]; exact ((kw2.trans k25).setCell _ (.inr (by show _ ≤ w.heap.size + 1; omega)) _).setCell _ (.inr (by show _ ≤ w.heap.size + 1; omega)) _
  have HF : Hid (Kb 0 w WF) := kF
  have HWF : Hid (WF = _) := hWF
  clear HBE2 k5 hS2 kw2 b0 b1 z2 k25 r zF bF rF hWF kF
  refine hK.out _ _ (fun _ => hS5) ?_
  clear hK K hS5
  try simp only [Act.put, List.setIfInBounds_toArray, List.set_cons_zero, List.set_cons_succ]
  refine AnyL.oneAt 6 rfl (by kernel_rfl) rfl ?_
  intro K hK
  go_simp
  rw [← (show WF = _ from HWF)]
  clear HWF
  refine hK.out _ _ (fun h => absurd rfl h) ?_
  clear hK K
  try simp only [Act.put, List.setIfInBounds_toArray, List.set_cons_zero, List.set_cons_succ]
  refine AnyL.done (by kernel_rfl) ?_
  go_wp2_with fail
  refine bodyPost_ret (by simp [results, Try.results13, go_sem, f3, f4]; rfl) rfl ?_
  exact ⟨rfl, HF⟩
set_option maxHeartbeats 16000000 in
theorem im_putb_y {v1 v2 : Value} {D D2 : Dd} {b : Int} {pk : Option Addr} {nk ck : Nat} (w : World) (ha : RowD 0 w v1 v2 D) (hbe : ∀ (sb b1 : Nat) (W : World), Kb 0 w W → W.cell? ⟨b1, 0, none⟩ = some (.int .i64 b) → W.cell? ⟨b1 + 1, 0, none⟩ = some (.slice pk nk ck) → RowV W (.slice (some ⟨sb, 0, none⟩) 1 1) 1 (fun i => .func (.func 83) #[] #[.pointer (some ⟨b1, 0, none⟩), .pointer (some ⟨b1 + 1, 0, none⟩)]) → Calls Try.prog 48 #[.agg #[v1, v2], .slice (some ⟨sb, 0, none⟩) 1 1] W fun e w' => ∃ u1 u2, e = .returned (.agg #[u1, u2]) ∧ OwD W.heap.size w'.heap.size w' u1 u2 D2 ∧ Kb 0 W w') :
    Calls Try.prog 13 #[.agg #[v1, v2], .int .i64 b, .slice pk nk ck] w fun e w' => ∃ u1 u2, e = .returned (.agg #[u1, u2]) ∧ OwD w.heap.size w'.heap.size w' u1 u2 D2 ∧ Kb 0 w w' := by
  obtain ⟨⟨p1, c1, rfl, -⟩, ⟨p2, c2, rfl, -⟩⟩ := id ha
  obtain ⟨w2, hw2⟩ : ∃ w2, w2 = (w.alloc (.cells #[.slice p1 D.n c1, .slice p2 D.m c2] 30)).alloc (.cells #[.slice none 0 0, .slice none 0 0] 30) := ⟨_, rfl⟩
  obtain ⟨b0, b1, z2, k2⟩ := two_newD w _ _ _ _ w2 hw2
  have u0 : w2.cell? ⟨w.heap.size, 0, none⟩ = some (.slice p1 D.n c1) := cell_of b0 rfl
  have u1 : w2.cell? ⟨w.heap.size, 1, none⟩ = some (.slice p2 D.m c2) := cell_of b0 rfl
  have HB : Hid (Kb 0 w w2 ∧ w2.heap[w.heap.size]? = some (.cells #[.slice p1 D.n c1, .slice p2 D.m c2] 30 (0, 0)) ∧ w2.heap[w.heap.size + 1]? = some (.cells #[.slice none 0 0, .slice none 0 0] 30 (0, 0)) ∧ w2.heap.size = w.heap.size + 2) := (⟨k2, b0, b1, z2⟩ : _ ∧ _)
  have HW2 : Hid (w2 = (w.alloc (.cells #[.slice p1 D.n c1, .slice p2 D.m c2] 30)).alloc (.cells #[.slice none 0 0, .slice none 0 0] 30)) := hw2
  have HBE : Hid (∀ (sb b1 : Nat) (W : World), Kb 0 w2 W → W.cell? ⟨b1, 0, none⟩ = some (.int .i64 b) → W.cell? ⟨b1 + 1, 0, none⟩ = some (.slice pk nk ck) → RowV W (.slice (some ⟨sb, 0, none⟩) 1 1) 1 (fun i => .func (.func 83) #[] #[.pointer (some ⟨b1, 0, none⟩), .pointer (some ⟨b1 + 1, 0, none⟩)]) → Calls Try.prog 48 #[.agg #[.slice p1 D.n c1, .slice p2 D.m c2], .slice (some ⟨sb, 0, none⟩) 1 1] W fun e w' => ∃ u1 u2, e = .returned (.agg #[u1, u2]) ∧ OwD W.heap.size w'.heap.size w' u1 u2 D2 ∧ Kb 0 W w') := (fun sb b1 W k => hbe sb b1 W (k2.trans k) : ∀ (sb b1 : Nat) (W : World), _)
  have hSS : (fun W' : World => W'.cell? ⟨w.heap.size, 0, none⟩ = some (.slice p1 D.n c1) ∧ W'.cell? ⟨w.heap.size, 1, none⟩ = some (.slice p2 D.m c2)) w2.drew := ⟨u0, u1⟩
  have HSS : Hid ((fun W' : World => W'.cell? ⟨w.heap.size, 0, none⟩ = some (.slice p1 D.n c1) ∧ W'.cell? ⟨w.heap.size, 1, none⟩ = some (.slice p2 D.m c2)) w2.drew) := hSS
  clear hw2 b0 b1 z2 k2 ha hbe u0 u1 hSS
  go_enter Try.func13, Try.ntmps13
  go_upto_region 1 with fail
  rw [← (show w2 = _ from HW2)]
  clear HW2
  refine AnyL.region (S := fun W' => W'.cell? ⟨w.heap.size, 0, none⟩ = some (.slice p1 D.n c1) ∧ W'.cell? ⟨w.heap.size, 1, none⟩ = some (.slice p2 D.m c2)) (z := 6) (by kernel_rfl) ?_
  have hS0 := (show (fun W' : World => W'.cell? ⟨w.heap.size, 0, none⟩ = some (.slice p1 D.n c1) ∧ W'.cell? ⟨w.heap.size, 1, none⟩ = some (.slice p2 D.m c2)) w2.drew from HSS)
  have HKD : Hid (Kb 0 w2 w2.drew) := (Kb.drewN (Kb.refl _ _) 1 : Kb 0 w2 w2.drew)
  obtain ⟨W0, hW0⟩ : ∃ W0, W0 = w2.drew := ⟨_, rfl⟩
  rw [← hW0] at HKD hS0 ⊢
  clear hW0 HSS
  refine AnyL.takeAt 0 (.agg #[.slice p1 D.n c1, .slice p2 D.m c2]) rfl (by kernel_rfl) (by kernel_rfl) (by kernel_rfl) (by kernel_rfl) (fun _ _ _ h => h) rfl hS0 (by intro W hW; first | go_simp | (obtain ⟨i0, i1⟩ := hW; go_simp)) ?_
  try simp only [Act.put, List.setIfInBounds_toArray, List.set_cons_zero, List.set_cons_succ]
  refine AnyL.takeAt 1 (.int .i64 b) rfl (by kernel_rfl) (by kernel_rfl) (by kernel_rfl) (by kernel_rfl) (fun _ _ _ h => h) rfl hS0 (by intro W hW; first | go_simp | (obtain ⟨i0, i1⟩ := hW; go_simp)) ?_
  try simp only [Act.put, List.setIfInBounds_toArray, List.set_cons_zero, List.set_cons_succ]
  refine AnyL.takeAt 2 (.slice pk nk ck) rfl (by kernel_rfl) (by kernel_rfl) (by kernel_rfl) (by kernel_rfl) (fun _ _ _ h => h) rfl hS0 (by intro W hW; first | go_simp | (obtain ⟨i0, i1⟩ := hW; go_simp)) ?_
  try simp only [Act.put, List.setIfInBounds_toArray, List.set_cons_zero, List.set_cons_succ]
  refine AnyL.oneAt 3 rfl (by kernel_rfl) rfl ?_
  intro K hK
  go_simp
  refine (im_putting b pk nk ck W0).mono ?_
  rintro e W1 ⟨rfl, hW1⟩
  have k1' : Kb 0 W0 W1 := by rw [hW1]; exact (kb_alloc _ _ _).trans (kb_alloc _ _ _)
  have hbx : W1.cell? ⟨W0.heap.size, 0, none⟩ = some (.int .i64 b) := by rw [hW1]; exact (kb_alloc 0 _ _).cell (cell_of (alloc_new _ _ _) rfl)
  have hby : W1.cell? ⟨W0.heap.size + 1, 0, none⟩ = some (.slice pk nk ck) := by
    rw [hW1]
    have := cell_of (alloc_new (W0.alloc (.cells #[.int .i64 b] 3)) #[.slice pk nk ck] 26) (j := 0) (v := .slice pk nk ck) rfl
    rw [World.size_alloc] at this
    exact this
  have hS1 : (fun W' : World => W'.cell? ⟨w.heap.size, 0, none⟩ = some (.slice p1 D.n c1) ∧ W'.cell? ⟨w.heap.size, 1, none⟩ = some (.slice p2 D.m c2)) W1 := ⟨k1'.cell hS0.1, k1'.cell hS0.2⟩
  have HK1 : Hid (Kb 0 w2 W1 ∧ W1.cell? ⟨W0.heap.size, 0, none⟩ = some (.int .i64 b) ∧ W1.cell? ⟨W0.heap.size + 1, 0, none⟩ = some (.slice pk nk ck)) := (⟨(show Kb 0 w2 W0 from HKD).trans k1', hbx, hby⟩ : _ ∧ _)
  obtain ⟨bx, hbx2⟩ : ∃ bx, bx = W0.heap.size := ⟨_, rfl⟩
  rw [← hbx2] at HK1 ⊢
  clear hW1 k1' hbx hby hS0 HKD hbx2
  refine hK.out _ _ (fun _ => hS1) ?_
  clear hK K
  try simp only [Act.put, List.setIfInBounds_toArray, List.set_cons_zero, List.set_cons_succ]
  refine AnyL.oneAt 4 rfl (by kernel_rfl) rfl ?_
  intro K hK
  go_simp
  generalize hW2 : World.alloc W1 _ = W2
  have k2' : Kb 0 W1 W2 := by rw [← hW2]; exact kb_alloc _ _ _
  have cs0 : W2.cell? ⟨W1.heap.size, 0, none⟩ = some (.func (.func 83) #[] #[.pointer (some ⟨bx, 0, none⟩), .pointer (some ⟨bx + 1, 0, none⟩)]) := by rw [← hW2]; exact cell_of (alloc_new _ _ _) rfl
  have k22 := (show _ ∧ _ ∧ _ from HK1).1.trans k2'
  have HBE2 := (show ∀ (sb b1 : Nat) (W : World), _ from HBE) W1.heap.size bx W2 k22 (k2'.cell (show _ ∧ _ ∧ _ from HK1).2.1) (k2'.cell (show _ ∧ _ ∧ _ from HK1).2.2) (one_fv cs0)
  have hS2 : (fun W' : World => W'.cell? ⟨w.heap.size, 0, none⟩ = some (.slice p1 D.n c1) ∧ W'.cell? ⟨w.heap.size, 1, none⟩ = some (.slice p2 D.m c2)) W2 := ⟨k2'.cell hS1.1, k2'.cell hS1.2⟩
  have HK22 : Hid (Kb 0 w2 W2) := k22
  clear hW2 k2' cs0 k22 hS1 HK1 HBE
  refine hK.out _ _ (fun _ => hS2) ?_
  clear hK K
  try simp only [Act.put, List.setIfInBounds_toArray, List.set_cons_zero, List.set_cons_succ]
  refine AnyL.oneAt 5 rfl (by kernel_rfl) rfl ?_
  intro K hK
  go_simp
  refine HBE2.mono ?_
  rintro e W5 ⟨y1, y2, rfl, o5, k5⟩
  obtain ⟨s1, e1, s2, e2, rfl, rfl⟩ := o5.shape
  have hS5 : (fun W' : World => W'.cell? ⟨w.heap.size, 0, none⟩ = some (.slice p1 D.n c1) ∧ W'.cell? ⟨w.heap.size, 1, none⟩ = some (.slice p2 D.m c2)) W5 := ⟨k5.cell hS2.1, k5.cell hS2.2⟩
  have k25 := (show Kb 0 w2 W2 from HK22).trans k5
  obtain ⟨kw2, b0, b1, z2⟩ := (show _ ∧ _ ∧ _ ∧ _ from HB)
  have r := (k25.block (w.heap.size + 1) (Nat.zero_le _) (by omega)).trans b1
  have a0 : W5.cell? ⟨w.heap.size + 1, 0, none⟩ = some (.slice none 0 0) := cell_of r rfl
  have a1 : W5.cell? ⟨w.heap.size + 1, 1, none⟩ = some (.slice none 0 0) := cell_of r rfl
  have fy : ∀ j, W5.frozen? ⟨w.heap.size + 1, j, none⟩ = false := fun j => frozen_of r
  obtain ⟨WF, hWF⟩ : ∃ WF, WF = (W5.setCell ⟨w.heap.size + 1, 0, none⟩ (.slice s1 D2.n e1)).setCell ⟨w.heap.size + 1, 1, none⟩ (.slice s2 D2.m e2) := ⟨_, rfl⟩
  have zF : WF.heap.size = W5.heap.size := by rw [hWF]; simp
  have bF : ∀ q, q ≠ w.heap.size + 1 → WF.heap[q]? = W5.heap[q]? := fun q hq => by
    rw [hWF, Below.heap_setCell _ _ _ _ (show q ≠ w.heap.size + 1 from hq), Below.heap_setCell _ _ _ _ (show q ≠ w.heap.size + 1 from hq)]
  have rF : WF.heap[w.heap.size + 1]? = some (.cells #[.slice s1 D2.n e1, .slice s2 D2.m e2] 30 (0, 0)) := by
    rw [hWF]
    exact set_known _ (set_known _ r)
  have f3 : WF.cell? ⟨w.heap.size + 1, 0, none⟩ = some (.slice s1 D2.n e1) := cell_of rF rfl
  have f4 : WF.cell? ⟨w.heap.size + 1, 1, none⟩ = some (.slice s2 D2.m e2) := cell_of rF rfl
  have kF : Kb 0 w WF := by rw [hWF]; exact ((kw2.trans k25).setCell _ (.inr (by show _ ≤ w.heap.size + 1; omega)) _).setCell _ (.inr (by show _ ≤ w.heap.size + 1; omega)) _
  have oF : OwD w.heap.size WF.heap.size WF (.slice s1 D2.n e1) (.slice s2 D2.m e2) D2 := by
    rw [zF]
    have := (show Kb 0 w2 W2 from HK22).size
    exact (o5.block (fun q h1 h2 => bF q (by omega))).wide (by omega) (Nat.le_refl _)
  have HF : Hid (OwD w.heap.size WF.heap.size WF (.slice s1 D2.n e1) (.slice s2 D2.m e2) D2 ∧ Kb 0 w WF) := (⟨oF, kF⟩ : _ ∧ _)
  have HWF : Hid (WF = _) := hWF
  clear HBE2 o5 k5 hS2 kw2 b0 b1 z2 k25 r zF bF rF hWF oF kF
  refine hK.out _ _ (fun _ => hS5) ?_
  clear hK K hS5
  try simp only [Act.put, List.setIfInBounds_toArray, List.set_cons_zero, List.set_cons_succ]
  refine AnyL.oneAt 6 rfl (by kernel_rfl) rfl ?_
  intro K hK
  go_simp
  rw [← (show WF = _ from HWF)]
  clear HWF
  refine hK.out _ _ (fun h => absurd rfl h) ?_
  clear hK K
  try simp only [Act.put, List.setIfInBounds_toArray, List.set_cons_zero, List.set_cons_succ]
  refine AnyL.done (by kernel_rfl) ?_
  go_wp2_with fail
  refine bodyPost_ret (by simp [results, Try.results13, go_sem, f3, f4]; rfl) rfl ?_
  exact ⟨_, _, rfl, HF⟩
theorem im_Crash_no {v1 v2 vk : Value} {D : Dd} {nk : Nat} {kk : Nat → Bool} (w : World) (ha : RowD 0 w v1 v2 D) (hd : BdD D) (hno : ¬ Dok D) (hk : RowV w vk nk (fun i => .bool (kk i))) :
    Calls Try.prog 21 #[.agg #[v1, v2], vk] w fun e w' => e = .returned (.agg #[.slice none 0 0, .slice none 0 0]) ∧ Kb 0 w w' := by
  obtain ⟨pk, ck, rfl, -⟩ := id hk
  exact im_crash_n (D2 := D) w ha (fun sb bx W k _ _ => im_behind_no W (ha.keep k) hd hno)
theorem im_Crash_yes {v1 v2 vk : Value} {D : Dd} {nk : Nat} {kk : Nat → Bool} (kp : Nat → Bool) (w : World) (ha : RowD 0 w v1 v2 D) (hd : BdD D) (hok : Dok D) (hk : RowV w vk nk (fun i => .bool (kk i))) (hnk : nk ≤ 1048576) (hkp : ∀ j, j < D.m → kp j = (decide (j < nk) && kk j)) :
    Calls Try.prog 21 #[.agg #[v1, v2], vk] w fun e w' => ∃ u1 u2, e = .returned (.agg #[u1, u2]) ∧ OwD w.heap.size w'.heap.size w' u1 u2 ⟨258, pE (stk (dpg D) D.Q kp D.m), 0, fun _ => zE⟩ ∧ Kb 0 w w' := by
  obtain ⟨pk, ck, rfl, -⟩ := id hk
  exact im_crash_y w ha (fun sb bx W k hb hs => im_behind_crash kp W (ha.keep k) hd hok hb (rowv_keep hk k) hnk hkp hs)
theorem im_Put_no {v1 v2 vk : Value} {D : Dd} {nk : Nat} {A : Nat → Int} (b : Int) (w : World) (ha : RowD 0 w v1 v2 D) (hd : BdD D) (hk : RowV w vk nk (fun i => .int .u8 (A i))) (hnk : nk ≤ 1048576) (hno : ¬ Dok D ∨ ¬ Wok b nk ∨ D.m = 200) :
    Calls Try.prog 13 #[.agg #[v1, v2], .int .i64 b, vk] w fun e w' => e = .returned (.agg #[.slice none 0 0, .slice none 0 0]) ∧ Kb 0 w w' := by
  obtain ⟨pk, ck, rfl, -⟩ := id hk
  refine im_putb_n (D2 := D) w ha (fun sb b1 W k h1 h2 hs => ?_)
  by_cases hok : Dok D
  · exact im_behind_stop (f := fun _ => 83) (cs := fun _ => #[.pointer (some ⟨b1, 0, none⟩), .pointer (some ⟨b1 + 1, 0, none⟩)]) (P := fun _ => dpg D) (m := fun _ => D.m) (Q := fun _ => D.Q) W (ha.keep k) hd hok 1 (by decide) 0 (by decide) (st_put_no W b pk nk ck (by omega) h1 h2 (hno.resolve_left (fun h => h hok))) ⟨rfl, rfl, rfl⟩ hs (fun i hi => by omega)
  · exact im_behind_no W (ha.keep k) hd hok
theorem im_Put_yes {v1 v2 vk : Value} {D : Dd} {A : Nat → Int} (b : Int) (w : World) (ha : RowD 0 w v1 v2 D) (hd : BdD D) (hk : RowV w vk 64 (fun i => .int .u8 (A i))) (hok : Dok D) (hb : 0 ≤ b ∧ b < 258) (hm : D.m < 200) :
    Calls Try.prog 13 #[.agg #[v1, v2], .int .i64 b, vk] w fun e w' => ∃ u1 u2, e = .returned (.agg #[u1, u2]) ∧ OwD w.heap.size w'.heap.size w' u1 u2 ⟨258, pE (dpg D), D.m + 1, qE (fun j => if j = D.m then ⟨false, b, 64, A⟩ else D.Q j)⟩ ∧ Kb 0 w w' := by
  obtain ⟨pk, ck, rfl, -⟩ := id hk
  refine im_putb_y w ha (fun sb b1 W k h1 h2 hs => ?_)
  exact im_behind_yes (f := fun _ => 83) (cs := fun _ => #[.pointer (some ⟨b1, 0, none⟩), .pointer (some ⟨b1 + 1, 0, none⟩)]) (P := fun _ => dpg D) (m := fun i => if i = 0 then D.m else D.m + 1) (Q := fun i => if i = 0 then D.Q else fun j => if j = D.m then ⟨false, b, 64, A⟩ else D.Q j) W (ha.keep k) hd hok 1 (by decide) (fun w2 dv vw wr k h => im_disk wr h (by show D.m + 1 ≤ 200; omega)) ⟨rfl, rfl, rfl⟩ hs (fun i hi => by
    obtain rfl : i = 0 := by omega
    exact st_put_yes W b hm h1 h2 (rowv_keep hk k) hb)
end Go.Proofs.Ytiojjejphdhpeaa.Fo
