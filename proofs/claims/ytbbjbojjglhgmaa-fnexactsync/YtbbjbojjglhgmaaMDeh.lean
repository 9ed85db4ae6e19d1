import Derived.Test.YtbbjbojjglhgmaaMDeg
namespace Go.Proofs.Ytbbjbojjglhgmaa.Fo
open Go.ChangeShapes Go.WideShapes Go.ChangeAt Go.RowKit
set_option linter.unusedVariables false
set_option maxRecDepth 100000
set_option linter.unusedSimpArgs false
set_option maxHeartbeats 16000000 in
theorem im_Sync_no {v1 v2 : Value} {D : Dd} (w : World) (ha : RowD 0 w v1 v2 D) (hd : BdD D) (hok : ¬ Dok D) :
    Calls Try.prog 35 #[.agg #[v1, v2]] w fun e w' => e = .returned (.agg #[.slice none 0 0, .slice none 0 0]) ∧ Kb 0 w w' := by
  obtain ⟨⟨p1, c1, rfl, -⟩, ⟨p2, c2, rfl, -⟩⟩ := id ha
  obtain ⟨w2, hw2⟩ : ∃ w2, w2 = (w.alloc (.cells #[.slice p1 D.n c1, .slice p2 D.m c2] 40)).alloc (.cells #[.slice none 0 0, .slice none 0 0] 40) := ⟨_, rfl⟩
  obtain ⟨b0, b1, z2, k2⟩ := two_newD w _ _ _ _ w2 hw2
  have u0 : w2.cell? ⟨w.heap.size, 0, none⟩ = some (.slice p1 D.n c1) := cell_of b0 rfl
  have u1 : w2.cell? ⟨w.heap.size, 1, none⟩ = some (.slice p2 D.m c2) := cell_of b0 rfl
  have HB : Hid (Kb 0 w w2 ∧ w2.heap[w.heap.size]? = some (.cells #[.slice p1 D.n c1, .slice p2 D.m c2] 40 (0, 0)) ∧ w2.heap[w.heap.size + 1]? = some (.cells #[.slice none 0 0, .slice none 0 0] 40 (0, 0)) ∧ w2.heap.size = w.heap.size + 2) := (⟨k2, b0, b1, z2⟩ : _ ∧ _)
  have HW2 : Hid (w2 = (w.alloc (.cells #[.slice p1 D.n c1, .slice p2 D.m c2] 40)).alloc (.cells #[.slice none 0 0, .slice none 0 0] 40)) := hw2
  have HBE : Hid (∀ (sb : Nat) W, Kb 0 w2 W → W.cell? ⟨sb, 0, none⟩ = some (.func (.func 146) #[] #[]) → Calls Try.prog 90 #[.agg #[.slice p1 D.n c1, .slice p2 D.m c2], .slice (some ⟨sb, 0, none⟩) 1 1] W fun e w' => e = .returned (.agg #[.slice none 0 0, .slice none 0 0]) ∧ Kb 0 W w') := (fun sb W k _ => im_behind_no W (ha.keep (k2.trans k)) hd hok : ∀ (sb : Nat) W, _)
  have hSS : (fun W' : World => W'.cell? ⟨w.heap.size, 0, none⟩ = some (.slice p1 D.n c1) ∧ W'.cell? ⟨w.heap.size, 1, none⟩ = some (.slice p2 D.m c2)) w2.drew := ⟨u0, u1⟩
  have HSS : Hid ((fun W' : World => W'.cell? ⟨w.heap.size, 0, none⟩ = some (.slice p1 D.n c1) ∧ W'.cell? ⟨w.heap.size, 1, none⟩ = some (.slice p2 D.m c2)) w2.drew) := hSS
  clear hw2 b0 b1 z2 k2 ha hd hok u0 u1 hSS
  go_enter Try.func35, Try.ntmps35
  go_upto_region 1 with fail
  rw [← (show w2 = _ from HW2)]
  clear HW2
  refine AnyL.region (S := fun W' => W'.cell? ⟨w.heap.size, 0, none⟩ = some (.slice p1 D.n c1) ∧ W'.cell? ⟨w.heap.size, 1, none⟩ = some (.slice p2 D.m c2)) (z := 4) (by kernel_rfl) ?_
  have hS0 := (show (fun W' : World => W'.cell? ⟨w.heap.size, 0, none⟩ = some (.slice p1 D.n c1) ∧ W'.cell? ⟨w.heap.size, 1, none⟩ = some (.slice p2 D.m c2)) w2.drew from HSS)
  have HKD : Hid (Kb 0 w2 w2.drew) := (Kb.drewN (Kb.refl _ _) 1 : Kb 0 w2 w2.drew)
  obtain ⟨W0, hW0⟩ : ∃ W0, W0 = w2.drew := ⟨_, rfl⟩
  rw [← hW0] at HKD hS0 ⊢
  clear hW0 HSS
  refine AnyL.takeAt 0 (.agg #[.slice p1 D.n c1, .slice p2 D.m c2]) rfl (by kernel_rfl) (by kernel_rfl) (by kernel_rfl) (by kernel_rfl) (fun _ _ _ h => h) rfl hS0 (by intro W hW; first | go_simp | (obtain ⟨i0, i1⟩ := hW; go_simp)) ?_
  try simp only [Act.put, List.setIfInBounds_toArray, List.set_cons_zero, List.set_cons_succ]
  refine AnyL.oneAt 1 rfl (by kernel_rfl) rfl ?_
  intro K hK
  go_simp
  refine (im_syncing W0).mono ?_
  rintro e W1 ⟨rfl, rfl⟩
  refine hK.out _ _ (fun _ => hS0) ?_
  clear hK K
  try simp only [Act.put, List.setIfInBounds_toArray, List.set_cons_zero, List.set_cons_succ]
  refine AnyL.oneAt 2 rfl (by kernel_rfl) rfl ?_
  intro K hK
  go_simp
  generalize hW2 : World.alloc W1 _ = W2
  have k2' : Kb 0 W1 W2 := by rw [← hW2]; exact kb_alloc _ _ _
  have cs : W2.cell? ⟨W1.heap.size, 0, none⟩ = some (.func (.func 146) #[] #[]) := by rw [← hW2]; exact cell_of (alloc_new _ _ _) rfl
  have k22 := (show Kb 0 w2 W1 from HKD).trans k2'
  have HBE2 := (show ∀ (sb : Nat) W, Kb 0 w2 W → _ from HBE) W1.heap.size W2 k22 cs
  have hS2 : (fun W' : World => W'.cell? ⟨w.heap.size, 0, none⟩ = some (.slice p1 D.n c1) ∧ W'.cell? ⟨w.heap.size, 1, none⟩ = some (.slice p2 D.m c2)) W2 := ⟨k2'.cell hS0.1, k2'.cell hS0.2⟩
  have HK22 : Hid (Kb 0 w2 W2) := k22
  clear hW2 k2' cs k22 hS0 HKD HBE
  refine hK.out _ _ (fun _ => hS2) ?_
  clear hK K
  try simp only [Act.put, List.setIfInBounds_toArray, List.set_cons_zero, List.set_cons_succ]
  refine AnyL.oneAt 3 rfl (by kernel_rfl) rfl ?_
  intro K hK
  go_simp
  refine HBE2.mono ?_
  rintro e W5 ⟨rfl, k5⟩
  have hS5 : (fun W' : World => W'.cell? ⟨w.heap.size, 0, none⟩ = some (.slice p1 D.n c1) ∧ W'.cell? ⟨w.heap.size, 1, none⟩ = some (.slice p2 D.m c2)) W5 := ⟨k5.cell hS2.1, k5.cell hS2.2⟩
  have k25 := (show Kb 0 w2 W2 from HK22).trans k5
  obtain ⟨kw2, b0, b1, z2⟩ := (show _ ∧ _ ∧ _ ∧ _ from HB)
  have r := (k25.block (w.heap.size + 1) (Nat.zero_le _) (by omega)).trans b1
  have a0 : W5.cell? ⟨w.heap.size + 1, 0, none⟩ = some (.slice none 0 0) := cell_of r rfl
  have a1 : W5.cell? ⟨w.heap.size + 1, 1, none⟩ = some (.slice none 0 0) := cell_of r rfl
  have fy : ∀ j, W5.frozen? ⟨w.heap.size + 1, j, none⟩ = false := fun j => frozen_of r
  obtain ⟨WF, hWF⟩ : ∃ WF, WF = (W5.setCell ⟨w.heap.size + 1, 0, none⟩ (.slice none 0 0)).setCell ⟨w.heap.size + 1, 1, none⟩ (.slice none 0 0) := ⟨_, rfl⟩
  have zF : WF.heap.size = W5.heap.size := by rw [hWF]; simp
  have bF : ∀ q, q ≠ w.heap.size + 1 → WF.heap[q]? = W5.heap[q]? := fun q hq => by
    rw [hWF, Below.heap_setCell _ _ _ _ (show q ≠ w.heap.size + 1 from hq), Below.heap_setCell _ _ _ _ (show q ≠ w.heap.size + 1 from hq)]
  have rF : WF.heap[w.heap.size + 1]? = some (.cells #[.slice none 0 0, .slice none 0 0] 40 (0, 0)) := by
    rw [hWF]
    exact set_known _ (set_known _ r)
  have f3 : WF.cell? ⟨w.heap.size + 1, 0, none⟩ = some (.slice none 0 0) := cell_of rF rfl
  have f4 : WF.cell? ⟨w.heap.size + 1, 1, none⟩ = some (.slice none 0 0) := cell_of rF rfl
  have kF : Kb 0 w WF := by rw [hWF]; exact ((kw2.trans k25).setCell _ (.inr (by show _ ≤ w.heap.size + 1; omega)) _).setCell _ (.inr (by show _ ≤ w.heap.size + 1; omega)) _
  have HF : Hid (Kb 0 w WF) := kF
  have HWF : Hid (WF = _) := hWF
  clear HBE2 k5 hS2 kw2 b0 b1 z2 k25 r zF bF rF hWF kF
  refine hK.out _ _ (fun _ => hS5) ?_
  clear hK K hS5
  try simp only [Act.put, List.setIfInBounds_toArray, List.set_cons_zero, List.set_cons_succ]
  refine AnyL.oneAt 4 rfl (by kernel_rfl) rfl ?_
  intro K hK
  go_simp
  rw [← (show WF = _ from HWF)]
  clear HWF
  refine hK.out _ _ (fun h => absurd rfl h) ?_
  clear hK K
  try simp only [Act.put, List.setIfInBounds_toArray, List.set_cons_zero, List.set_cons_succ]
  refine AnyL.done (by kernel_rfl) ?_
  go_wp2_with fail
  refine bodyPost_ret (by simp [results, Try.results35, go_sem, f3, f4]; rfl) rfl ?_
  exact ⟨rfl, HF⟩
set_option maxHeartbeats 16000000 in
theorem im_Sync_yes {v1 v2 : Value} {D : Dd} (w : World) (ha : RowD 0 w v1 v2 D) (hd : BdD D) (hok : Dok D) :
    Calls Try.prog 35 #[.agg #[v1, v2]] w fun e w' => ∃ u1 u2, e = .returned (.agg #[u1, u2]) ∧ OwD w.heap.size w'.heap.size w' u1 u2 ⟨258, pE (stl (dpg D) D.Q D.m), 0, fun _ => zE⟩ ∧ Kb 0 w w' := by
  obtain ⟨⟨p1, c1, rfl, -⟩, ⟨p2, c2, rfl, -⟩⟩ := id ha
  obtain ⟨w2, hw2⟩ : ∃ w2, w2 = (w.alloc (.cells #[.slice p1 D.n c1, .slice p2 D.m c2] 40)).alloc (.cells #[.slice none 0 0, .slice none 0 0] 40) := ⟨_, rfl⟩
  obtain ⟨b0, b1, z2, k2⟩ := two_newD w _ _ _ _ w2 hw2
  have u0 : w2.cell? ⟨w.heap.size, 0, none⟩ = some (.slice p1 D.n c1) := cell_of b0 rfl
  have u1 : w2.cell? ⟨w.heap.size, 1, none⟩ = some (.slice p2 D.m c2) := cell_of b0 rfl
  have HB : Hid (Kb 0 w w2 ∧ w2.heap[w.heap.size]? = some (.cells #[.slice p1 D.n c1, .slice p2 D.m c2] 40 (0, 0)) ∧ w2.heap[w.heap.size + 1]? = some (.cells #[.slice none 0 0, .slice none 0 0] 40 (0, 0)) ∧ w2.heap.size = w.heap.size + 2) := (⟨k2, b0, b1, z2⟩ : _ ∧ _)
  have HW2 : Hid (w2 = (w.alloc (.cells #[.slice p1 D.n c1, .slice p2 D.m c2] 40)).alloc (.cells #[.slice none 0 0, .slice none 0 0] 40)) := hw2
  have HBE : Hid (∀ (sb : Nat) W, Kb 0 w2 W → W.cell? ⟨sb, 0, none⟩ = some (.func (.func 146) #[] #[]) → Calls Try.prog 90 #[.agg #[.slice p1 D.n c1, .slice p2 D.m c2], .slice (some ⟨sb, 0, none⟩) 1 1] W fun e w' => ∃ u1 u2, e = .returned (.agg #[u1, u2]) ∧ OwD W.heap.size w'.heap.size w' u1 u2 ⟨258, pE (stl (dpg D) D.Q D.m), 0, fun _ => zE⟩ ∧ Kb 0 W w') := (fun sb W k hs => im_behind_sync W (ha.keep (k2.trans k)) hd hok hs : ∀ (sb : Nat) W, _)
  have hSS : (fun W' : World => W'.cell? ⟨w.heap.size, 0, none⟩ = some (.slice p1 D.n c1) ∧ W'.cell? ⟨w.heap.size, 1, none⟩ = some (.slice p2 D.m c2)) w2.drew := ⟨u0, u1⟩
  have HSS : Hid ((fun W' : World => W'.cell? ⟨w.heap.size, 0, none⟩ = some (.slice p1 D.n c1) ∧ W'.cell? ⟨w.heap.size, 1, none⟩ = some (.slice p2 D.m c2)) w2.drew) := hSS
  clear hw2 b0 b1 z2 k2 ha hd hok u0 u1 hSS
  go_enter Try.func35, Try.ntmps35
  go_upto_region 1 with fail
  rw [← (show w2 = _ from HW2)]
  clear HW2
  refine AnyL.region (S := fun W' => W'.cell? ⟨w.heap.size, 0, none⟩ = some (.slice p1 D.n c1) ∧ W'.cell? ⟨w.heap.size, 1, none⟩ = some (.slice p2 D.m c2)) (z := 4) (by kernel_rfl) ?_
  have hS0 := (show (fun W' : World => W'.cell? ⟨w.heap.size, 0, none⟩ = some (.slice p1 D.n c1) ∧ W'.cell? ⟨w.heap.size, 1, none⟩ = some (.slice p2 D.m c2)) w2.drew from HSS)
  have HKD : Hid (Kb 0 w2 w2.drew) := (Kb.drewN (Kb.refl _ _) 1 : Kb 0 w2 w2.drew)
  obtain ⟨W0, hW0⟩ : ∃ W0, W0 = w2.drew := ⟨_, rfl⟩
  rw [← hW0] at HKD hS0 ⊢
  clear hW0 HSS
  refine AnyL.takeAt 0 (.agg #[.slice p1 D.n c1, .slice p2 D.m c2]) rfl (by kernel_rfl) (by kernel_rfl) (by kernel_rfl) (by kernel_rfl) (fun _ _ _ h => h) rfl hS0 (by intro W hW; first | go_simp | (obtain ⟨i0, i1⟩ := hW; go_simp)) ?_
  try simp only [Act.put, List.setIfInBounds_toArray, List.set_cons_zero, List.set_cons_succ]
  refine AnyL.oneAt 1 rfl (by kernel_rfl) rfl ?_
  intro K hK
  go_simp
  refine (im_syncing W0).mono ?_
  rintro e W1 ⟨rfl, rfl⟩
  refine hK.out _ _ (fun _ => hS0) ?_
  clear hK K
  try simp only [Act.put, List.setIfInBounds_toArray, List.set_cons_zero, List.set_cons_succ]
  refine AnyL.oneAt 2 rfl (by kernel_rfl) rfl ?_
  intro K hK
  go_simp
  generalize hW2 : World.alloc W1 _ = W2
  have k2' : Kb 0 W1 W2 := by rw [← hW2]; exact kb_alloc _ _ _
  have cs : W2.cell? ⟨W1.heap.size, 0, none⟩ = some (.func (.func 146) #[] #[]) := by rw [← hW2]; exact cell_of (alloc_new _ _ _) rfl
  have k22 := (show Kb 0 w2 W1 from HKD).trans k2'
  have HBE2 := (show ∀ (sb : Nat) W, Kb 0 w2 W → _ from HBE) W1.heap.size W2 k22 cs
  have hS2 : (fun W' : World => W'.cell? ⟨w.heap.size, 0, none⟩ = some (.slice p1 D.n c1) ∧ W'.cell? ⟨w.heap.size, 1, none⟩ = some (.slice p2 D.m c2)) W2 := ⟨k2'.cell hS0.1, k2'.cell hS0.2⟩
  have HK22 : Hid (Kb 0 w2 W2) := k22
  clear hW2 k2' cs k22 hS0 HKD HBE
  refine hK.out _ _ (fun _ => hS2) ?_
  clear hK K
  try simp only [Act.put, List.setIfInBounds_toArray, List.set_cons_zero, List.set_cons_succ]
  refine AnyL.oneAt 3 rfl (by kernel_rfl) rfl ?_
  intro K hK
  go_simp
  refine HBE2.mono ?_
  rintro e W5 ⟨y1, y2, rfl, o5, k5⟩
  obtain ⟨s1, e1, s2, e2, rfl, rfl⟩ := o5.shape
  dsimp only at o5 ⊢
  have hS5 : (fun W' : World => W'.cell? ⟨w.heap.size, 0, none⟩ = some (.slice p1 D.n c1) ∧ W'.cell? ⟨w.heap.size, 1, none⟩ = some (.slice p2 D.m c2)) W5 := ⟨k5.cell hS2.1, k5.cell hS2.2⟩
  have k25 := (show Kb 0 w2 W2 from HK22).trans k5
  obtain ⟨kw2, b0, b1, z2⟩ := (show _ ∧ _ ∧ _ ∧ _ from HB)
  have r := (k25.block (w.heap.size + 1) (Nat.zero_le _) (by omega)).trans b1
  have a0 : W5.cell? ⟨w.heap.size + 1, 0, none⟩ = some (.slice none 0 0) := cell_of r rfl
  have a1 : W5.cell? ⟨w.heap.size + 1, 1, none⟩ = some (.slice none 0 0) := cell_of r rfl
  have fy : ∀ j, W5.frozen? ⟨w.heap.size + 1, j, none⟩ = false := fun j => frozen_of r
  obtain ⟨WF, hWF⟩ : ∃ WF, WF = (W5.setCell ⟨w.heap.size + 1, 0, none⟩ (.slice s1 258 e1)).setCell ⟨w.heap.size + 1, 1, none⟩ (.slice s2 0 e2) := ⟨_, rfl⟩
  have zF : WF.heap.size = W5.heap.size := by rw [hWF]; simp
  have bF : ∀ q, q ≠ w.heap.size + 1 → WF.heap[q]? = W5.heap[q]? := fun q hq => by
    rw [hWF, Below.heap_setCell _ _ _ _ (show q ≠ w.heap.size + 1 from hq), Below.heap_setCell _ _ _ _ (show q ≠ w.heap.size + 1 from hq)]
  have rF : WF.heap[w.heap.size + 1]? = some (.cells #[.slice s1 258 e1, .slice s2 0 e2] 40 (0, 0)) := by
    rw [hWF]
    exact set_known _ (set_known _ r)
  have f3 : WF.cell? ⟨w.heap.size + 1, 0, none⟩ = some (.slice s1 258 e1) := cell_of rF rfl
  have f4 : WF.cell? ⟨w.heap.size + 1, 1, none⟩ = some (.slice s2 0 e2) := cell_of rF rfl
  have kF : Kb 0 w WF := by rw [hWF]; exact ((kw2.trans k25).setCell _ (.inr (by show _ ≤ w.heap.size + 1; omega)) _).setCell _ (.inr (by show _ ≤ w.heap.size + 1; omega)) _
  have oF : OwD w.heap.size WF.heap.size WF (.slice s1 258 e1) (.slice s2 0 e2) ⟨258, pE (stl (dpg D) D.Q D.m), 0, fun _ => zE⟩ := by
    rw [zF]
    have := (show Kb 0 w2 W2 from HK22).size
    exact (o5.block (fun q h1 h2 => bF q (by omega))).wide (by omega) (Nat.le_refl _)
  have HF : Hid (OwD w.heap.size WF.heap.size WF (.slice s1 258 e1) (.slice s2 0 e2) ⟨258, pE (stl (dpg D) D.Q D.m), 0, fun _ => zE⟩ ∧ Kb 0 w WF) := (⟨oF, kF⟩ : _ ∧ _)
  have HWF : Hid (WF = _) := hWF
  clear HBE2 o5 k5 hS2 kw2 b0 b1 z2 k25 r zF bF rF hWF oF kF
  refine hK.out _ _ (fun _ => hS5) ?_
  clear hK K hS5
  try simp only [Act.put, List.setIfInBounds_toArray, List.set_cons_zero, List.set_cons_succ]
  refine AnyL.oneAt 4 rfl (by kernel_rfl) rfl ?_
  intro K hK
  go_simp
  rw [← (show WF = _ from HWF)]
  clear HWF
  refine hK.out _ _ (fun h => absurd rfl h) ?_
  clear hK K
  try simp only [Act.put, List.setIfInBounds_toArray, List.set_cons_zero, List.set_cons_succ]
  refine AnyL.done (by kernel_rfl) ?_
  go_wp2_with fail
  refine bodyPost_ret (by simp [results, Try.results35, go_sem, f3, f4]; rfl) rfl ?_
  exact ⟨_, _, rfl, HF⟩
end Go.Proofs.Ytbbjbojjglhgmaa.Fo
