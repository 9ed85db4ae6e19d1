import Derived.Test.YtiojjejphdhpeaaMDef
namespace Go.Proofs.Ytiojjejphdhpeaa.Fo
open Go.ChangeShapes Go.WideShapes Go.ChangeAt Go.RowKit
set_option linter.unusedVariables false
set_option maxRecDepth 100000
set_option linter.unusedSimpArgs false
set_option maxHeartbeats 8000000 in
theorem sp_crash_no {v1 v2 : Value} {D : Dd} {vk : Value} (w : World) (ha : RowD 0 w v1 v2 D) (hd : BdD D) (hno : ¬ Dok D) :
    Calls Try.prog 19 #[.agg #[v1, v2], vk] w fun e w' => e = .returned (.agg #[.slice none 0 0, .slice none 0 0]) ∧ Kb 0 w w' := by
  obtain ⟨⟨p1, c1, rfl, -⟩, ⟨p2, c2, rfl, -⟩⟩ := id ha
  obtain ⟨w2, hw2⟩ : ∃ w2, w2 = (w.alloc (.cells #[.slice p1 D.n c1, .slice p2 D.m c2] 30)).alloc (.cells #[.slice none 0 0, .slice none 0 0] 30) := ⟨_, rfl⟩
  obtain ⟨b0, b1, z2, k2⟩ := two_newD w _ _ _ _ w2 hw2
  have u0 : w2.cell? ⟨w.heap.size, 0, none⟩ = some (.slice p1 D.n c1) := cell_of b0 rfl
  have u1 : w2.cell? ⟨w.heap.size, 1, none⟩ = some (.slice p2 D.m c2) := cell_of b0 rfl
  have HB : Hid (Kb 0 w w2 ∧ w2.heap[w.heap.size]? = some (.cells #[.slice p1 D.n c1, .slice p2 D.m c2] 30 (0, 0)) ∧ w2.heap[w.heap.size + 1]? = some (.cells #[.slice none 0 0, .slice none 0 0] 30 (0, 0)) ∧ w2.heap.size = w.heap.size + 2) := (⟨k2, b0, b1, z2⟩ : _ ∧ _)
  have HW2 : Hid (w2 = (w.alloc (.cells #[.slice p1 D.n c1, .slice p2 D.m c2] 30)).alloc (.cells #[.slice none 0 0, .slice none 0 0] 30)) := hw2
  have HI := (by have := sp_dok w2 (ha.keep k2) hd; rw [dc_f hno] at this; exact this : Calls Try.prog 43 _ w2 fun e w' => e = .returned (.bool false) ∧ Kb 0 w2 w')
  clear hw2 b0 b1 z2 k2 ha hd hno
  go_enter Try.func19, Try.ntmps19
  go_upto_region 1 with fail
  rw [← (show w2 = _ from HW2)]
  clear HW2
  go_wp2_with fail
  refine HI.mono ?_
  rintro e w3 ⟨rfl, k3⟩
  obtain ⟨kw2, b0, b1, z2⟩ := (show _ ∧ _ ∧ _ ∧ _ from HB)
  have r := (k3.block (w.heap.size + 1) (Nat.zero_le _) (by omega)).trans b1
  have a0 : w3.cell? ⟨w.heap.size + 1, 0, none⟩ = some (.slice none 0 0) := cell_of r rfl
  have a1 : w3.cell? ⟨w.heap.size + 1, 1, none⟩ = some (.slice none 0 0) := cell_of r rfl
  have fy : ∀ j, w3.frozen? ⟨w.heap.size + 1, j, none⟩ = false := fun j => frozen_of r
  obtain ⟨WF, hWF⟩ : ∃ WF, WF = (w3.setCell ⟨w.heap.size + 1, 0, none⟩ (.slice none 0 0)).setCell ⟨w.heap.size + 1, 1, none⟩ (.slice none 0 0) := ⟨_, rfl⟩
  have zF : WF.heap.size = w3.heap.size := by rw [hWF]; simp
  have bF : ∀ q, q ≠ w.heap.size + 1 → WF.heap[q]? = w3.heap[q]? := fun q hq => by
    rw [hWF, Below.heap_setCell _ _ _ _ (show q ≠ w.heap.size + 1 from hq), Below.heap_setCell _ _ _ _ (show q ≠ w.heap.size + 1 from hq)]
  have rF : WF.heap[w.heap.size + 1]? = some (.cells #[.slice none 0 0, .slice none 0 0] 30 (0, 0)) := by
    rw [hWF]
    exact set_known _ (set_known _ r)
  have f3 : WF.cell? ⟨w.heap.size + 1, 0, none⟩ = some (.slice none 0 0) := cell_of rF rfl
  have f4 : WF.cell? ⟨w.heap.size + 1, 1, none⟩ = some (.slice none 0 0) := cell_of rF rfl
  have kF : Kb 0 w WF := by rw [hWF]; exact ((kw2.trans k3).setCell _ (.inr (by show _ ≤ w.heap.size + 1; omega)) _).setCell _ (.inr (by show _ ≤ w.heap.size + 1; omega)) _
  have HF : Hid (Kb 0 w WF) := kF
  have HWF : Hid (WF = _) := hWF
  clear HI u0 u1 HB kw2 b0 b1 z2 r k3 zF bF rF kF hWF
  go_wp2_with fail
  rw [← (show WF = _ from HWF)]
  clear HWF
  refine bodyPost_ret (by simp [results, Try.results19, go_sem, f3, f4]; rfl) rfl ?_
  exact ⟨rfl, HF⟩
set_option maxHeartbeats 8000000 in
theorem sp_crash_yes {v1 v2 vk : Value} {D : Dd} {nk : Nat} {kk : Nat → Bool} (kp : Nat → Bool) (w : World) (ha : RowD 0 w v1 v2 D) (hd : BdD D) (hok : Dok D) (hk : RowV w vk nk (fun i => .bool (kk i))) (hnk : nk ≤ 1048576) (hkp : ∀ j, j < D.m → kp j = (decide (j < nk) && kk j)) :
    Calls Try.prog 19 #[.agg #[v1, v2], vk] w fun e w' => ∃ u1 u2, e = .returned (.agg #[u1, u2]) ∧ OwD w.heap.size w'.heap.size w' u1 u2 ⟨258, pE (stk (dpg D) D.Q kp D.m), 0, fun _ => zE⟩ ∧ Kb 0 w w' := by
  obtain ⟨pk, ck, rfl, -⟩ := id hk
  obtain ⟨⟨p1, c1, rfl, -⟩, ⟨p2, c2, rfl, -⟩⟩ := id ha
  obtain ⟨w2, hw2⟩ : ∃ w2, w2 = (w.alloc (.cells #[.slice p1 D.n c1, .slice p2 D.m c2] 30)).alloc (.cells #[.slice none 0 0, .slice none 0 0] 30) := ⟨_, rfl⟩
  obtain ⟨b0, b1, z2, k2⟩ := two_newD w _ _ _ _ w2 hw2
  have u0 : w2.cell? ⟨w.heap.size, 0, none⟩ = some (.slice p1 D.n c1) := cell_of b0 rfl
  have u1 : w2.cell? ⟨w.heap.size, 1, none⟩ = some (.slice p2 D.m c2) := cell_of b0 rfl
  have HB : Hid (Kb 0 w w2 ∧ w2.heap[w.heap.size]? = some (.cells #[.slice p1 D.n c1, .slice p2 D.m c2] 30 (0, 0)) ∧ w2.heap[w.heap.size + 1]? = some (.cells #[.slice none 0 0, .slice none 0 0] 30 (0, 0)) ∧ w2.heap.size = w.heap.size + 2) := (⟨k2, b0, b1, z2⟩ : _ ∧ _)
  have HW2 : Hid (w2 = (w.alloc (.cells #[.slice p1 D.n c1, .slice p2 D.m c2] 30)).alloc (.cells #[.slice none 0 0, .slice none 0 0] 30)) := hw2
  have HI : Calls Try.prog 43 #[.agg #[.slice p1 D.n c1, .slice p2 D.m c2]] w2 fun e w' => e = .returned (.bool true) ∧ Kb 0 w2 w' := by
    have := sp_dok w2 (ha.keep k2) hd
    rw [dc_t hok] at this
    exact this
  have HSE : Hid (∀ W, Kb 0 w2 W → Calls Try.prog 56 #[.agg #[.slice p1 D.n c1, .slice p2 D.m c2], .slice pk nk ck] W fun e w' => ∃ u1 u2, e = .returned (.agg #[u1, u2]) ∧ OwD W.heap.size w'.heap.size w' u1 u2 ⟨258, pE (stk (dpg D) D.Q kp D.m), 0, fun _ => zE⟩ ∧ Kb 0 W w') := (fun W kW => by
    have hra := ha.keep (k2.trans kW)
    have hrk := (hk.rowB.keep (k2.trans kW)).row
    obtain ⟨n, Bf, m, Qf⟩ := D
    obtain rfl : n = 258 := hok.1
    exact sp_settle kp W hra hd hok hrk hnk hkp (fun _ => zE) : ∀ W, _)
  clear hw2 b0 b1 z2 k2 ha hd hok hk hnk hkp
  go_enter Try.func19, Try.ntmps19
  go_upto_region 1 with fail
  rw [← (show w2 = _ from HW2)]
  clear HW2
  go_wp2_with fail
  refine HI.mono ?_
  rintro e w3 ⟨rfl, k3⟩
  have HS3 := (show ∀ W, Kb 0 w2 W → _ from HSE) w3 k3
  have y0 := k3.cell u0
  have y1 := k3.cell u1
  have HK3 : Hid (Kb 0 w2 w3) := k3
  clear HI u0 u1 HSE k3
  go_wp2_with fail
  refine HS3.mono ?_
  rintro e W5 ⟨x1, x2, rfl, o5, k5⟩
  obtain ⟨s1, e1, s2, e2, rfl, rfl⟩ := o5.shape
  have k25 := (show Kb 0 w2 w3 from HK3).trans k5
  dsimp only at o5 ⊢
  obtain ⟨kw2, b0, b1, z2⟩ := (show _ ∧ _ ∧ _ ∧ _ from HB)
  have r := (k25.block (w.heap.size + 1) (Nat.zero_le _) (by omega)).trans b1
  have a0 : W5.cell? ⟨w.heap.size + 1, 0, none⟩ = some (.slice none 0 0) := cell_of r rfl
  have a1 : W5.cell? ⟨w.heap.size + 1, 1, none⟩ = some (.slice none 0 0) := cell_of r rfl
  have fy : ∀ j, W5.frozen? ⟨w.heap.size + 1, j, none⟩ = false := fun j => frozen_of r
  obtain ⟨WF, hWF⟩ : ∃ WF, WF = (W5.setCell ⟨w.heap.size + 1, 0, none⟩ (.slice s1 258 e1)).setCell ⟨w.heap.size + 1, 1, none⟩ (.slice s2 0 e2) := ⟨_, rfl⟩
  have zF : WF.heap.size = W5.heap.size := by rw [hWF]; simp
  have bF : ∀ q, q ≠ w.heap.size + 1 → WF.heap[q]? = W5.heap[q]? := fun q hq => by
    rw [hWF, Below.heap_setCell _ _ _ _ (show q ≠ w.heap.size + 1 from hq), Below.heap_setCell _ _ _ _ (show q ≠ w.heap.size + 1 from hq)]
  have rF : WF.heap[w.heap.size + 1]? = some (.cells #[.slice s1 258 e1, .slice s2 0 e2] 30 (0, 0)) := by
    rw [hWF]
    exact set_known _ (set_known _ r)
  have f3 : WF.cell? ⟨w.heap.size + 1, 0, none⟩ = some (.slice s1 258 e1) := cell_of rF rfl
  have f4 : WF.cell? ⟨w.heap.size + 1, 1, none⟩ = some (.slice s2 0 e2) := cell_of rF rfl
  have kF : Kb 0 w WF := by rw [hWF]; exact ((kw2.trans k25).setCell _ (.inr (by show _ ≤ w.heap.size + 1; omega)) _).setCell _ (.inr (by show _ ≤ w.heap.size + 1; omega)) _
  have oF : OwD w.heap.size WF.heap.size WF (.slice s1 258 e1) (.slice s2 0 e2) ⟨258, pE (stk (dpg D) D.Q kp D.m), 0, fun _ => zE⟩ := by
    rw [zF]
    have := (show Kb 0 w2 w3 from HK3).size
    exact (o5.block (fun q h1 h2 => bF q (by omega))).wide (by omega) (Nat.le_refl _)
  have HF : Hid (OwD w.heap.size WF.heap.size WF (.slice s1 258 e1) (.slice s2 0 e2) ⟨258, pE (stk (dpg D) D.Q kp D.m), 0, fun _ => zE⟩ ∧ Kb 0 w WF) := (⟨oF, kF⟩ : _ ∧ _)
  have HWF : Hid (WF = _) := hWF
  clear HS3 o5 k5 k25 kw2 b0 b1 z2 r zF bF rF hWF oF kF y0 y1 HB HK3
  go_wp2_with fail
  rw [← (show WF = _ from HWF)]
  clear HWF
  refine bodyPost_ret (by simp [results, Try.results19, go_sem, f3, f4]; rfl) rfl ?_
  exact ⟨_, _, rfl, HF⟩
end Go.Proofs.Ytiojjejphdhpeaa.Fo
