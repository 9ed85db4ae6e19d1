import Derived.Test.YtbbjbojjglhgmaaMDcf
namespace Go.Proofs.Ytbbjbojjglhgmaa.Fo
open Go.ChangeShapes Go.WideShapes Go.ChangeAt Go.RowKit
set_option linter.unusedVariables false
set_option maxRecDepth 100000
set_option maxHeartbeats 8000000 in
theorem im_blank (w : World) : Calls Try.prog 24 #[] w fun e w' => ∃ v1 v2, e = .returned (.agg #[v1, v2]) ∧ OwD w.heap.size w'.heap.size w' v1 v2 blD ∧ Kb 0 w w' := by
  obtain ⟨ZD, hZD⟩ : ∃ ZD, ZD = (List.replicate 16512 (Value.int .u8 0) ++ [Value.slice none 0 0]).toArray := ⟨_, rfl⟩
  obtain ⟨w1, hw1⟩ : ∃ w1, w1 = w.alloc (.cells #[.slice none 0 0, .slice none 0 0] 40) := ⟨_, rfl⟩
  obtain ⟨w2, hw2⟩ : ∃ w2, w2 = w1.alloc (.cells ZD 111) := ⟨_, rfl⟩
  obtain ⟨b1, b2, z2, k2⟩ := two_newD w _ _ _ _ w2 (by rw [hw2, hw1])
  have z1 : w1.heap.size = w.heap.size + 1 := by rw [hw1]; exact World.size_alloc _ _
  obtain ⟨r2, t2⟩ := drv_new hZD b2
  have HC := im_disk0 w2 (w.heap.size + 1) r2 t2 (fun _ => zE)
  rw [← bl_pe] at HC
  obtain ⟨BD, hBD⟩ : ∃ BD, BD = blD := ⟨_, rfl⟩
  rw [← hBD] at HC ⊢
  have HX : Hid (∀ (o : Oper) (a : Act), o.op = .alloc 111 → (execOp a.eval o).run Try.prog w1 = .ok (.value (.pointer (some ⟨w.heap.size + 1, 0, none⟩))) w2) := (fun o a ho => by rw [hw2, ← z1]; exact exec_drv ho hZD : ∀ (o : Oper) (a : Act), _)
  have HB : Hid (w2.heap[w.heap.size]? = some (.cells #[.slice none 0 0, .slice none 0 0] 40 (0, 0)) ∧ w2.heap.size = w.heap.size + 2 ∧ Kb 0 w w2) := (⟨b1, z2, k2⟩ : _ ∧ _)
  have HW1 : Hid (w1 = w.alloc (.cells #[.slice none 0 0, .slice none 0 0] 40)) := hw1
  clear hZD hw1 hw2 b1 b2 z2 k2 z1 r2 t2 hBD
  go_enter Try.func24, Try.ntmps24
  go_upto_region 1 with fail
  rw [← (show w1 = _ from HW1)]
  clear HW1
  go_wp2_with (refine Go.Great.wpList_runTo (by rfl) (some 1) (by rfl) (.pointer (some ⟨w.heap.size + 1, 0, none⟩)) w2 ((show ∀ (o : Oper) (a : Act), _ from HX) _ _ (by rfl)) ?_)
  refine HC.mono ?_
  rintro e w3 ⟨v1, v2, rfl, o3, k3⟩
  obtain ⟨p1, c1, p2, c2, rfl, rfl⟩ := o3.shape
  obtain ⟨b1, z2, k2⟩ := (show _ ∧ _ ∧ _ from HB)
  have b3 := (k3.block w.heap.size (Nat.zero_le _) (by omega)).trans b1
  have a0 : w3.cell? ⟨w.heap.size, 0, none⟩ = some (.slice none 0 0) := cell_of b3 rfl
  have a1 : w3.cell? ⟨w.heap.size, 1, none⟩ = some (.slice none 0 0) := cell_of b3 rfl
  have fy : ∀ j, w3.frozen? ⟨w.heap.size, j, none⟩ = false := fun j => frozen_of b3
  have HO : Hid (OwD w2.heap.size w3.heap.size w3 (.slice p1 BD.n c1) (.slice p2 BD.m c2) BD ∧ w3.heap[w.heap.size]? = some (.cells #[.slice none 0 0, .slice none 0 0] 40 (0, 0)) ∧ w2.heap.size = w.heap.size + 2 ∧ Kb 0 w w3) := (⟨o3, b3, z2, k2.trans k3⟩ : _ ∧ _)
  clear HC HX HB o3 k3 b1 z2 k2 b3
  go_wp2_with fail
  obtain ⟨WF, hWF⟩ : ∃ WF, WF = (w3.setCell ⟨w.heap.size, 0, none⟩ (.slice p1 BD.n c1)).setCell ⟨w.heap.size, 1, none⟩ (.slice p2 BD.m c2) := ⟨_, rfl⟩
  obtain ⟨o3, b3, z2, k3⟩ := (show _ ∧ _ ∧ _ ∧ _ from HO)
  have bF : WF.heap[w.heap.size]? = some (.cells #[.slice p1 BD.n c1, .slice p2 BD.m c2] 40 (0, 0)) := by rw [hWF]; exact set_known _ (set_known _ b3)
  have f3 : WF.cell? ⟨w.heap.size, 0, none⟩ = some (.slice p1 BD.n c1) := cell_of bF rfl
  have f4 : WF.cell? ⟨w.heap.size, 1, none⟩ = some (.slice p2 BD.m c2) := cell_of bF rfl
  have zF : WF.heap.size = w3.heap.size := by rw [hWF]; simp
  have kF : Kb 0 w WF := by rw [hWF]; exact (k3.setCell _ (.inr (Nat.le_refl _)) _).setCell _ (.inr (Nat.le_refl _)) _
  have oF : OwD w.heap.size WF.heap.size WF (.slice p1 BD.n c1) (.slice p2 BD.m c2) BD := by
    rw [zF]
    exact (o3.block (fun q h1 h2 => by rw [hWF, Below.heap_setCell _ _ _ _ (show q ≠ w.heap.size by omega), Below.heap_setCell _ _ _ _ (show q ≠ w.heap.size by omega)])).wide (by omega) (Nat.le_refl _)
  rw [← hWF]
  clear hWF HO o3 b3 z2 k3 bF zF a0 a1 fy
  refine bodyPost_ret (by simp [results, Try.results24, go_sem, f3, f4]; rfl) rfl ?_
  exact ⟨_, _, rfl, oF, kF⟩
end Go.Proofs.Ytbbjbojjglhgmaa.Fo
