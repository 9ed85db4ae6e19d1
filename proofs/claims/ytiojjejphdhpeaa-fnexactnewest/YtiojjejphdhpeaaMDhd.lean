import Derived.Test.YtiojjejphdhpeaaMDhb
import Derived.Test.YtiojjejphdhpeaaMDhc
namespace Go.Proofs.Ytiojjejphdhpeaa.Fo
open Go.ChangeShapes Go.WideShapes Go.ChangeAt Go.RowKit
set_option linter.unusedVariables false
set_option maxRecDepth 100000
set_option linter.unusedSimpArgs false
set_option maxHeartbeats 8000000 in
theorem sp_ho_1 {v1 v2 : Value} {D : Dd} {b : Int} (w : World) (ha : RowD 0 w v1 v2 D) (hd : BdD D) (hok : ¬ Dok D) :
    Calls Try.prog 24 #[.agg #[v1, v2], .int .i64 b] w fun e w' => e = .returned (.agg #[.bool false, .int .i64 0, .int .i64 0, .int .i64 0]) ∧ Kb 0 w w' := by
  obtain ⟨⟨p1, c1, rfl, -⟩, ⟨p2, c2, rfl, -⟩⟩ := id ha
  obtain ⟨w1, hw1⟩ : ∃ w1, w1 = w.alloc (.cells #[.slice p1 D.n c1, .slice p2 D.m c2] 30) := ⟨_, rfl⟩
  obtain ⟨w2, hw2⟩ : ∃ w2, w2 = w1.alloc (.cells #[.bool false, .int .i64 0, .int .i64 0, .int .i64 0] 46) := ⟨_, rfl⟩
  have k1 : Kb 0 w w1 := by rw [hw1]; exact kb_alloc _ _ _
  have b1 : w1.heap[w.heap.size]? = some (.cells #[.slice p1 D.n c1, .slice p2 D.m c2] 30 (0, 0)) := by rw [hw1]; exact alloc_new _ _ _
  have z1 : w1.heap.size = w.heap.size + 1 := by rw [hw1]; exact World.size_alloc _ _
  have k2 : Kb 0 w1 w2 := by rw [hw2]; exact kb_alloc _ _ _
  have b2 : w2.heap[w.heap.size + 1]? = some (.cells #[.bool false, .int .i64 0, .int .i64 0, .int .i64 0] 46 (0, 0)) := by rw [hw2, ← z1]; exact alloc_new _ _ _
  have z2 : w2.heap.size = w.heap.size + 2 := by rw [hw2, World.size_alloc, z1]
  have b12 := (k2.block _ (Nat.zero_le _) (by omega)).trans b1
  have u0 : w2.cell? ⟨w.heap.size, 0, none⟩ = some (.slice p1 D.n c1) := cell_of b12 rfl
  have u1 : w2.cell? ⟨w.heap.size, 1, none⟩ = some (.slice p2 D.m c2) := cell_of b12 rfl
  have kw2 := k1.trans k2
  have HB : Hid (Kb 0 w w2 ∧ w2.heap[w.heap.size + 1]? = some (.cells #[.bool false, .int .i64 0, .int .i64 0, .int .i64 0] 46 (0, 0)) ∧ w2.heap.size = w.heap.size + 2) := (⟨kw2, b2, z2⟩ : _ ∧ _)
  have HW2 : Hid (w2 = (w.alloc (.cells #[.slice p1 D.n c1, .slice p2 D.m c2] 30)).alloc (.cells #[.bool false, .int .i64 0, .int .i64 0, .int .i64 0] 46)) := (by rw [hw2, hw1] : w2 = _)
  have HI : Calls Try.prog 43 #[.agg #[.slice p1 D.n c1, .slice p2 D.m c2]] w2 fun e w' => e = .returned (.bool false) ∧ Kb 0 w2 w' := by
    have := sp_dok w2 (ha.keep kw2) hd
    rw [dc_f hok] at this
    exact this
  clear hw1 hw2 k1 b1 z1 k2 b2 z2 b12 kw2 ha hd hok
  go_enter Try.func24, Try.ntmps24
  go_upto_region 1 with fail
  rw [← (show w2 = _ from HW2)]
  clear HW2
  go_wp2_with fail
  refine HI.mono ?_
  rintro e w3 ⟨rfl, k3⟩
  clear HI u0 u1
  obtain ⟨kw2, b2, z2⟩ := (show _ ∧ _ ∧ _ from HB)
  have bq := (k3.block _ (Nat.zero_le _) (by omega)).trans b2
  obtain ⟨WF, hWF, bF, zF⟩ := four_set (.bool false) (.int .i64 0) (.int .i64 0) (.int .i64 0) bq
  have f0 : WF.cell? ⟨w.heap.size + 1, 0, none⟩ = some (.bool false) := cell_of bF rfl
  have f1 : WF.cell? ⟨w.heap.size + 1, 1, none⟩ = some (.int .i64 0) := cell_of bF rfl
  have f2 : WF.cell? ⟨w.heap.size + 1, 2, none⟩ = some (.int .i64 0) := cell_of bF rfl
  have f3 : WF.cell? ⟨w.heap.size + 1, 3, none⟩ = some (.int .i64 0) := cell_of bF rfl
  have a0 : w3.cell? ⟨w.heap.size + 1, 0, none⟩ = some (.bool false) := cell_of bq rfl
  have a1 : w3.cell? ⟨w.heap.size + 1, 1, none⟩ = some (.int .i64 0) := cell_of bq rfl
  have a2 : w3.cell? ⟨w.heap.size + 1, 2, none⟩ = some (.int .i64 0) := cell_of bq rfl
  have a3 : w3.cell? ⟨w.heap.size + 1, 3, none⟩ = some (.int .i64 0) := cell_of bq rfl
  have fy : ∀ j, w3.frozen? ⟨w.heap.size + 1, j, none⟩ = false := fun j => frozen_of bq
  have HF : Hid (Kb 0 w WF) := zF.kb (kw2.trans k3) (by omega)
  have HWF : Hid (WF = _) := hWF
  clear hWF bF zF bq HB kw2 b2 z2 k3
  go_wp2_with fail
  rw [← (show WF = _ from HWF)]
  clear HWF
  refine bodyPost_ret (by simp [results, Try.results24, go_sem, f0, f1, f2, f3]; rfl) rfl ?_
  exact ⟨rfl, HF⟩
set_option maxHeartbeats 8000000 in
theorem sp_ho_2 {v1 v2 : Value} {D : Dd} {b : Int} (w : World) (ha : RowD 0 w v1 v2 D) (hd : BdD D) (hok : Dok D) (hb : b < 0) :
    Calls Try.prog 24 #[.agg #[v1, v2], .int .i64 b] w fun e w' => e = .returned (.agg #[.bool false, .int .i64 0, .int .i64 0, .int .i64 0]) ∧ Kb 0 w w' := by
  obtain ⟨⟨p1, c1, rfl, -⟩, ⟨p2, c2, rfl, -⟩⟩ := id ha
  obtain ⟨w1, hw1⟩ : ∃ w1, w1 = w.alloc (.cells #[.slice p1 D.n c1, .slice p2 D.m c2] 30) := ⟨_, rfl⟩
  obtain ⟨w2, hw2⟩ : ∃ w2, w2 = w1.alloc (.cells #[.bool false, .int .i64 0, .int .i64 0, .int .i64 0] 46) := ⟨_, rfl⟩
  have k1 : Kb 0 w w1 := by rw [hw1]; exact kb_alloc _ _ _
  have b1 : w1.heap[w.heap.size]? = some (.cells #[.slice p1 D.n c1, .slice p2 D.m c2] 30 (0, 0)) := by rw [hw1]; exact alloc_new _ _ _
  have z1 : w1.heap.size = w.heap.size + 1 := by rw [hw1]; exact World.size_alloc _ _
  have k2 : Kb 0 w1 w2 := by rw [hw2]; exact kb_alloc _ _ _
  have b2 : w2.heap[w.heap.size + 1]? = some (.cells #[.bool false, .int .i64 0, .int .i64 0, .int .i64 0] 46 (0, 0)) := by rw [hw2, ← z1]; exact alloc_new _ _ _
  have z2 : w2.heap.size = w.heap.size + 2 := by rw [hw2, World.size_alloc, z1]
  have b12 := (k2.block _ (Nat.zero_le _) (by omega)).trans b1
  have u0 : w2.cell? ⟨w.heap.size, 0, none⟩ = some (.slice p1 D.n c1) := cell_of b12 rfl
  have u1 : w2.cell? ⟨w.heap.size, 1, none⟩ = some (.slice p2 D.m c2) := cell_of b12 rfl
  have kw2 := k1.trans k2
  have HB : Hid (Kb 0 w w2 ∧ w2.heap[w.heap.size + 1]? = some (.cells #[.bool false, .int .i64 0, .int .i64 0, .int .i64 0] 46 (0, 0)) ∧ w2.heap.size = w.heap.size + 2) := (⟨kw2, b2, z2⟩ : _ ∧ _)
  have HW2 : Hid (w2 = (w.alloc (.cells #[.slice p1 D.n c1, .slice p2 D.m c2] 30)).alloc (.cells #[.bool false, .int .i64 0, .int .i64 0, .int .i64 0] 46)) := (by rw [hw2, hw1] : w2 = _)
  have HI : Calls Try.prog 43 #[.agg #[.slice p1 D.n c1, .slice p2 D.m c2]] w2 fun e w' => e = .returned (.bool true) ∧ Kb 0 w2 w' := by
    have := sp_dok w2 (ha.keep kw2) hd
    rw [dc_t hok] at this
    exact this
  clear hw1 hw2 k1 b1 z1 k2 b2 z2 b12 kw2 ha hd hok
  go_enter Try.func24, Try.ntmps24
  go_upto_region 1 with fail
  rw [← (show w2 = _ from HW2)]
  clear HW2
  go_wp2_with fail
  refine HI.mono ?_
  rintro e w3 ⟨rfl, k3⟩
  clear HI u0 u1
  obtain ⟨kw2, b2, z2⟩ := (show _ ∧ _ ∧ _ from HB)
  have bq := (k3.block _ (Nat.zero_le _) (by omega)).trans b2
  obtain ⟨WF, hWF, bF, zF⟩ := four_set (.bool false) (.int .i64 0) (.int .i64 0) (.int .i64 0) bq
  have f0 : WF.cell? ⟨w.heap.size + 1, 0, none⟩ = some (.bool false) := cell_of bF rfl
  have f1 : WF.cell? ⟨w.heap.size + 1, 1, none⟩ = some (.int .i64 0) := cell_of bF rfl
  have f2 : WF.cell? ⟨w.heap.size + 1, 2, none⟩ = some (.int .i64 0) := cell_of bF rfl
  have f3 : WF.cell? ⟨w.heap.size + 1, 3, none⟩ = some (.int .i64 0) := cell_of bF rfl
  have a0 : w3.cell? ⟨w.heap.size + 1, 0, none⟩ = some (.bool false) := cell_of bq rfl
  have a1 : w3.cell? ⟨w.heap.size + 1, 1, none⟩ = some (.int .i64 0) := cell_of bq rfl
  have a2 : w3.cell? ⟨w.heap.size + 1, 2, none⟩ = some (.int .i64 0) := cell_of bq rfl
  have a3 : w3.cell? ⟨w.heap.size + 1, 3, none⟩ = some (.int .i64 0) := cell_of bq rfl
  have fy : ∀ j, w3.frozen? ⟨w.heap.size + 1, j, none⟩ = false := fun j => frozen_of bq
  have HF : Hid (Kb 0 w WF) := zF.kb (kw2.trans k3) (by omega)
  have HWF : Hid (WF = _) := hWF
  clear hWF bF zF bq HB kw2 b2 z2 k3
  go_wp2_with fail
  rw [← (show WF = _ from HWF)]
  clear HWF
  refine bodyPost_ret (by simp [results, Try.results24, go_sem, f0, f1, f2, f3]; rfl) rfl ?_
  exact ⟨rfl, HF⟩
set_option maxHeartbeats 8000000 in
theorem sp_ho_3 {v1 v2 : Value} {D : Dd} {b : Int} (w : World) (ha : RowD 0 w v1 v2 D) (hd : BdD D) (hok : Dok D) (hb : 0 ≤ b) (hb2 : 1 < b) :
    Calls Try.prog 24 #[.agg #[v1, v2], .int .i64 b] w fun e w' => e = .returned (.agg #[.bool false, .int .i64 0, .int .i64 0, .int .i64 0]) ∧ Kb 0 w w' := by
  obtain ⟨⟨p1, c1, rfl, -⟩, ⟨p2, c2, rfl, -⟩⟩ := id ha
  obtain ⟨w1, hw1⟩ : ∃ w1, w1 = w.alloc (.cells #[.slice p1 D.n c1, .slice p2 D.m c2] 30) := ⟨_, rfl⟩
  obtain ⟨w2, hw2⟩ : ∃ w2, w2 = w1.alloc (.cells #[.bool false, .int .i64 0, .int .i64 0, .int .i64 0] 46) := ⟨_, rfl⟩
  have k1 : Kb 0 w w1 := by rw [hw1]; exact kb_alloc _ _ _
  have b1 : w1.heap[w.heap.size]? = some (.cells #[.slice p1 D.n c1, .slice p2 D.m c2] 30 (0, 0)) := by rw [hw1]; exact alloc_new _ _ _
  have z1 : w1.heap.size = w.heap.size + 1 := by rw [hw1]; exact World.size_alloc _ _
  have k2 : Kb 0 w1 w2 := by rw [hw2]; exact kb_alloc _ _ _
  have b2 : w2.heap[w.heap.size + 1]? = some (.cells #[.bool false, .int .i64 0, .int .i64 0, .int .i64 0] 46 (0, 0)) := by rw [hw2, ← z1]; exact alloc_new _ _ _
  have z2 : w2.heap.size = w.heap.size + 2 := by rw [hw2, World.size_alloc, z1]
  have b12 := (k2.block _ (Nat.zero_le _) (by omega)).trans b1
  have u0 : w2.cell? ⟨w.heap.size, 0, none⟩ = some (.slice p1 D.n c1) := cell_of b12 rfl
  have u1 : w2.cell? ⟨w.heap.size, 1, none⟩ = some (.slice p2 D.m c2) := cell_of b12 rfl
  have kw2 := k1.trans k2
  have HB : Hid (Kb 0 w w2 ∧ w2.heap[w.heap.size + 1]? = some (.cells #[.bool false, .int .i64 0, .int .i64 0, .int .i64 0] 46 (0, 0)) ∧ w2.heap.size = w.heap.size + 2) := (⟨kw2, b2, z2⟩ : _ ∧ _)
  have HW2 : Hid (w2 = (w.alloc (.cells #[.slice p1 D.n c1, .slice p2 D.m c2] 30)).alloc (.cells #[.bool false, .int .i64 0, .int .i64 0, .int .i64 0] 46)) := (by rw [hw2, hw1] : w2 = _)
  have HI : Calls Try.prog 43 #[.agg #[.slice p1 D.n c1, .slice p2 D.m c2]] w2 fun e w' => e = .returned (.bool true) ∧ Kb 0 w2 w' := by
    have := sp_dok w2 (ha.keep kw2) hd
    rw [dc_t hok] at this
    exact this
  clear hw1 hw2 k1 b1 z1 k2 b2 z2 b12 kw2 ha hd hok
  go_enter Try.func24, Try.ntmps24
  go_upto_region 1 with fail
  rw [← (show w2 = _ from HW2)]
  clear HW2
  go_wp2_with fail
  refine HI.mono ?_
  rintro e w3 ⟨rfl, k3⟩
  clear HI u0 u1
  obtain ⟨kw2, b2, z2⟩ := (show _ ∧ _ ∧ _ from HB)
  have bq := (k3.block _ (Nat.zero_le _) (by omega)).trans b2
  obtain ⟨WF, hWF, bF, zF⟩ := four_set (.bool false) (.int .i64 0) (.int .i64 0) (.int .i64 0) bq
  have f0 : WF.cell? ⟨w.heap.size + 1, 0, none⟩ = some (.bool false) := cell_of bF rfl
  have f1 : WF.cell? ⟨w.heap.size + 1, 1, none⟩ = some (.int .i64 0) := cell_of bF rfl
  have f2 : WF.cell? ⟨w.heap.size + 1, 2, none⟩ = some (.int .i64 0) := cell_of bF rfl
  have f3 : WF.cell? ⟨w.heap.size + 1, 3, none⟩ = some (.int .i64 0) := cell_of bF rfl
  have a0 : w3.cell? ⟨w.heap.size + 1, 0, none⟩ = some (.bool false) := cell_of bq rfl
  have a1 : w3.cell? ⟨w.heap.size + 1, 1, none⟩ = some (.int .i64 0) := cell_of bq rfl
  have a2 : w3.cell? ⟨w.heap.size + 1, 2, none⟩ = some (.int .i64 0) := cell_of bq rfl
  have a3 : w3.cell? ⟨w.heap.size + 1, 3, none⟩ = some (.int .i64 0) := cell_of bq rfl
  have fy : ∀ j, w3.frozen? ⟨w.heap.size + 1, j, none⟩ = false := fun j => frozen_of bq
  have HF : Hid (Kb 0 w WF) := zF.kb (kw2.trans k3) (by omega)
  have HWF : Hid (WF = _) := hWF
  clear hWF bF zF bq HB kw2 b2 z2 k3
  go_wp2_with fail
  rw [← (show WF = _ from HWF)]
  clear HWF
  refine bodyPost_ret (by simp [results, Try.results24, go_sem, f0, f1, f2, f3]; rfl) rfl ?_
  exact ⟨rfl, HF⟩
set_option maxHeartbeats 8000000 in
theorem sp_ho_4 {v1 v2 : Value} {D : Dd} {b : Int} {ok : Bool} {g l s : Int} (w : World) (ha : RowD 0 w v1 v2 D) (hd : BdD D) (hok : Dok D) (hb : ¬ b < 0) (hb2 : ¬ 1 < b) (hcall : ∀ x1 x2 W, RowD 0 W x1 x2 D → Calls Try.prog 59 #[.agg #[x1, x2], .int .i64 b] W fun e w' => e = .returned (.agg #[.bool ok, .int .i64 g, .int .i64 l, .int .i64 s]) ∧ Kb 0 W w') :
    Calls Try.prog 24 #[.agg #[v1, v2], .int .i64 b] w fun e w' => e = .returned (.agg #[.bool ok, .int .i64 g, .int .i64 l, .int .i64 s]) ∧ Kb 0 w w' := by
  obtain ⟨⟨p1, c1, rfl, -⟩, ⟨p2, c2, rfl, -⟩⟩ := id ha
  obtain ⟨w1, hw1⟩ : ∃ w1, w1 = w.alloc (.cells #[.slice p1 D.n c1, .slice p2 D.m c2] 30) := ⟨_, rfl⟩
  obtain ⟨w2, hw2⟩ : ∃ w2, w2 = w1.alloc (.cells #[.bool false, .int .i64 0, .int .i64 0, .int .i64 0] 46) := ⟨_, rfl⟩
  have k1 : Kb 0 w w1 := by rw [hw1]; exact kb_alloc _ _ _
  have b1 : w1.heap[w.heap.size]? = some (.cells #[.slice p1 D.n c1, .slice p2 D.m c2] 30 (0, 0)) := by rw [hw1]; exact alloc_new _ _ _
  have z1 : w1.heap.size = w.heap.size + 1 := by rw [hw1]; exact World.size_alloc _ _
  have k2 : Kb 0 w1 w2 := by rw [hw2]; exact kb_alloc _ _ _
  have b2 : w2.heap[w.heap.size + 1]? = some (.cells #[.bool false, .int .i64 0, .int .i64 0, .int .i64 0] 46 (0, 0)) := by rw [hw2, ← z1]; exact alloc_new _ _ _
  have z2 : w2.heap.size = w.heap.size + 2 := by rw [hw2, World.size_alloc, z1]
  have b12 := (k2.block _ (Nat.zero_le _) (by omega)).trans b1
  have u0 : w2.cell? ⟨w.heap.size, 0, none⟩ = some (.slice p1 D.n c1) := cell_of b12 rfl
  have u1 : w2.cell? ⟨w.heap.size, 1, none⟩ = some (.slice p2 D.m c2) := cell_of b12 rfl
  have kw2 := k1.trans k2
  have HB : Hid (Kb 0 w w2 ∧ w2.heap[w.heap.size + 1]? = some (.cells #[.bool false, .int .i64 0, .int .i64 0, .int .i64 0] 46 (0, 0)) ∧ w2.heap.size = w.heap.size + 2) := (⟨kw2, b2, z2⟩ : _ ∧ _)
  have HW2 : Hid (w2 = (w.alloc (.cells #[.slice p1 D.n c1, .slice p2 D.m c2] 30)).alloc (.cells #[.bool false, .int .i64 0, .int .i64 0, .int .i64 0] 46)) := (by rw [hw2, hw1] : w2 = _)
  have HI : Calls Try.prog 43 #[.agg #[.slice p1 D.n c1, .slice p2 D.m c2]] w2 fun e w' => e = .returned (.bool true) ∧ Kb 0 w2 w' := by
    have := sp_dok w2 (ha.keep kw2) hd
    rw [dc_t hok] at this
    exact this
  have HCA : Hid (∀ W, Kb 0 w2 W → Calls Try.prog 59 #[.agg #[.slice p1 D.n c1, .slice p2 D.m c2], .int .i64 b] W fun e w' => e = .returned (.agg #[.bool ok, .int .i64 g, .int .i64 l, .int .i64 s]) ∧ Kb 0 W w') := (fun W k => hcall _ _ W (ha.keep (kw2.trans k)) : ∀ W, _)
  clear hw1 hw2 k1 b1 z1 k2 b2 z2 b12 kw2 ha hd hok hcall
  go_enter Try.func24, Try.ntmps24
  go_upto_region 1 with fail
  rw [← (show w2 = _ from HW2)]
  clear HW2
  go_wp2_with fail
  refine HI.mono ?_
  rintro e w3 ⟨rfl, k3⟩
  have u30 := k3.cell u0
  have u31 := k3.cell u1
  have HC := (show ∀ W, Kb 0 w2 W → _ from HCA) w3 k3
  have HK3 : Hid (Kb 0 w2 w3) := k3
  clear HI u0 u1 k3 HCA
  go_wp2_with fail
  refine HC.mono ?_
  rintro e w4 ⟨rfl, k4⟩
  have k24 := (show Kb 0 w2 w3 from HK3).trans k4
  clear HC k4 u30 u31 HK3
  obtain ⟨kw2, b2, z2⟩ := (show _ ∧ _ ∧ _ from HB)
  have bq := (k24.block _ (Nat.zero_le _) (by omega)).trans b2
  obtain ⟨WF, hWF, bF, zF⟩ := four_set (.bool ok) (.int .i64 g) (.int .i64 l) (.int .i64 s) bq
  have f0 : WF.cell? ⟨w.heap.size + 1, 0, none⟩ = some (.bool ok) := cell_of bF rfl
  have f1 : WF.cell? ⟨w.heap.size + 1, 1, none⟩ = some (.int .i64 g) := cell_of bF rfl
  have f2 : WF.cell? ⟨w.heap.size + 1, 2, none⟩ = some (.int .i64 l) := cell_of bF rfl
  have f3 : WF.cell? ⟨w.heap.size + 1, 3, none⟩ = some (.int .i64 s) := cell_of bF rfl
  have a0 : w4.cell? ⟨w.heap.size + 1, 0, none⟩ = some (.bool false) := cell_of bq rfl
  have a1 : w4.cell? ⟨w.heap.size + 1, 1, none⟩ = some (.int .i64 0) := cell_of bq rfl
  have a2 : w4.cell? ⟨w.heap.size + 1, 2, none⟩ = some (.int .i64 0) := cell_of bq rfl
  have a3 : w4.cell? ⟨w.heap.size + 1, 3, none⟩ = some (.int .i64 0) := cell_of bq rfl
  have fy : ∀ j, w4.frozen? ⟨w.heap.size + 1, j, none⟩ = false := fun j => frozen_of bq
  have HF : Hid (Kb 0 w WF) := zF.kb (kw2.trans k24) (by omega)
  have HWF : Hid (WF = _) := hWF
  clear hWF bF zF bq HB kw2 b2 z2 k24
  go_wp2_with fail
  rw [← (show WF = _ from HWF)]
  clear HWF
  refine bodyPost_ret (by simp [results, Try.results24, go_sem, f0, f1, f2, f3]; rfl) rfl ?_
  exact ⟨rfl, HF⟩
set_option maxHeartbeats 8000000 in
theorem im_ho_1 {v1 v2 : Value} {D : Dd} {b : Int} (w : World) (ha : RowD 0 w v1 v2 D) (hd : BdD D) (hok : ¬ Dok D) :
    Calls Try.prog 25 #[.agg #[v1, v2], .int .i64 b] w fun e w' => e = .returned (.agg #[.bool false, .int .i64 0, .int .i64 0, .int .i64 0]) ∧ Kb 0 w w' := by
  obtain ⟨⟨p1, c1, rfl, -⟩, ⟨p2, c2, rfl, -⟩⟩ := id ha
  obtain ⟨w1, hw1⟩ : ∃ w1, w1 = w.alloc (.cells #[.slice p1 D.n c1, .slice p2 D.m c2] 30) := ⟨_, rfl⟩
  obtain ⟨w2, hw2⟩ : ∃ w2, w2 = w1.alloc (.cells #[.bool false, .int .i64 0, .int .i64 0, .int .i64 0] 46) := ⟨_, rfl⟩
  have k1 : Kb 0 w w1 := by rw [hw1]; exact kb_alloc _ _ _
  have b1 : w1.heap[w.heap.size]? = some (.cells #[.slice p1 D.n c1, .slice p2 D.m c2] 30 (0, 0)) := by rw [hw1]; exact alloc_new _ _ _
  have z1 : w1.heap.size = w.heap.size + 1 := by rw [hw1]; exact World.size_alloc _ _
  have k2 : Kb 0 w1 w2 := by rw [hw2]; exact kb_alloc _ _ _
  have b2 : w2.heap[w.heap.size + 1]? = some (.cells #[.bool false, .int .i64 0, .int .i64 0, .int .i64 0] 46 (0, 0)) := by rw [hw2, ← z1]; exact alloc_new _ _ _
  have z2 : w2.heap.size = w.heap.size + 2 := by rw [hw2, World.size_alloc, z1]
  have b12 := (k2.block _ (Nat.zero_le _) (by omega)).trans b1
  have u0 : w2.cell? ⟨w.heap.size, 0, none⟩ = some (.slice p1 D.n c1) := cell_of b12 rfl
  have u1 : w2.cell? ⟨w.heap.size, 1, none⟩ = some (.slice p2 D.m c2) := cell_of b12 rfl
  have kw2 := k1.trans k2
  have HB : Hid (Kb 0 w w2 ∧ w2.heap[w.heap.size + 1]? = some (.cells #[.bool false, .int .i64 0, .int .i64 0, .int .i64 0] 46 (0, 0)) ∧ w2.heap.size = w.heap.size + 2) := (⟨kw2, b2, z2⟩ : _ ∧ _)
  have HW2 : Hid (w2 = (w.alloc (.cells #[.slice p1 D.n c1, .slice p2 D.m c2] 30)).alloc (.cells #[.bool false, .int .i64 0, .int .i64 0, .int .i64 0] 46)) := (by rw [hw2, hw1] : w2 = _)
  have HI := im_settled_no w2 (ha.keep kw2) hd hok
  clear hw1 hw2 k1 b1 z1 k2 b2 z2 b12 kw2 ha hd hok
  go_enter Try.func25, Try.ntmps25
  go_upto_region 1 with fail
  rw [← (show w2 = _ from HW2)]
  clear HW2
  go_wp2_with fail
  refine HI.mono ?_
  rintro e w3 ⟨rfl, k3⟩
  clear HI u0 u1
  obtain ⟨kw2, b2, z2⟩ := (show _ ∧ _ ∧ _ from HB)
  have bq := (k3.block _ (Nat.zero_le _) (by omega)).trans b2
  obtain ⟨WF, hWF, bF, zF⟩ := four_set (.bool false) (.int .i64 0) (.int .i64 0) (.int .i64 0) bq
  have f0 : WF.cell? ⟨w.heap.size + 1, 0, none⟩ = some (.bool false) := cell_of bF rfl
  have f1 : WF.cell? ⟨w.heap.size + 1, 1, none⟩ = some (.int .i64 0) := cell_of bF rfl
  have f2 : WF.cell? ⟨w.heap.size + 1, 2, none⟩ = some (.int .i64 0) := cell_of bF rfl
  have f3 : WF.cell? ⟨w.heap.size + 1, 3, none⟩ = some (.int .i64 0) := cell_of bF rfl
  have a0 : w3.cell? ⟨w.heap.size + 1, 0, none⟩ = some (.bool false) := cell_of bq rfl
  have a1 : w3.cell? ⟨w.heap.size + 1, 1, none⟩ = some (.int .i64 0) := cell_of bq rfl
  have a2 : w3.cell? ⟨w.heap.size + 1, 2, none⟩ = some (.int .i64 0) := cell_of bq rfl
  have a3 : w3.cell? ⟨w.heap.size + 1, 3, none⟩ = some (.int .i64 0) := cell_of bq rfl
  have fy : ∀ j, w3.frozen? ⟨w.heap.size + 1, j, none⟩ = false := fun j => frozen_of bq
  have HF : Hid (Kb 0 w WF) := zF.kb (kw2.trans k3) (by omega)
  have HWF : Hid (WF = _) := hWF
  clear hWF bF zF bq HB kw2 b2 z2 k3
  go_wp2_with fail
  rw [← (show WF = _ from HWF)]
  clear HWF
  refine bodyPost_ret (by simp [results, Try.results25, go_sem, f0, f1, f2, f3]; rfl) rfl ?_
  exact ⟨rfl, HF⟩
set_option maxHeartbeats 8000000 in
theorem im_ho_2 {v1 v2 : Value} {D : Dd} {b : Int} (w : World) (ha : RowD 0 w v1 v2 D) (hd : BdD D) (hok : Dok D) (hb : b < 0) :
    Calls Try.prog 25 #[.agg #[v1, v2], .int .i64 b] w fun e w' => e = .returned (.agg #[.bool false, .int .i64 0, .int .i64 0, .int .i64 0]) ∧ Kb 0 w w' := by
  obtain ⟨⟨p1, c1, rfl, -⟩, ⟨p2, c2, rfl, -⟩⟩ := id ha
  obtain ⟨w1, hw1⟩ : ∃ w1, w1 = w.alloc (.cells #[.slice p1 D.n c1, .slice p2 D.m c2] 30) := ⟨_, rfl⟩
  obtain ⟨w2, hw2⟩ : ∃ w2, w2 = w1.alloc (.cells #[.bool false, .int .i64 0, .int .i64 0, .int .i64 0] 46) := ⟨_, rfl⟩
  have k1 : Kb 0 w w1 := by rw [hw1]; exact kb_alloc _ _ _
  have b1 : w1.heap[w.heap.size]? = some (.cells #[.slice p1 D.n c1, .slice p2 D.m c2] 30 (0, 0)) := by rw [hw1]; exact alloc_new _ _ _
  have z1 : w1.heap.size = w.heap.size + 1 := by rw [hw1]; exact World.size_alloc _ _
  have k2 : Kb 0 w1 w2 := by rw [hw2]; exact kb_alloc _ _ _
  have b2 : w2.heap[w.heap.size + 1]? = some (.cells #[.bool false, .int .i64 0, .int .i64 0, .int .i64 0] 46 (0, 0)) := by rw [hw2, ← z1]; exact alloc_new _ _ _
  have z2 : w2.heap.size = w.heap.size + 2 := by rw [hw2, World.size_alloc, z1]
  have b12 := (k2.block _ (Nat.zero_le _) (by omega)).trans b1
  have u0 : w2.cell? ⟨w.heap.size, 0, none⟩ = some (.slice p1 D.n c1) := cell_of b12 rfl
  have u1 : w2.cell? ⟨w.heap.size, 1, none⟩ = some (.slice p2 D.m c2) := cell_of b12 rfl
  have kw2 := k1.trans k2
  have HB : Hid (Kb 0 w w2 ∧ w2.heap[w.heap.size + 1]? = some (.cells #[.bool false, .int .i64 0, .int .i64 0, .int .i64 0] 46 (0, 0)) ∧ w2.heap.size = w.heap.size + 2) := (⟨kw2, b2, z2⟩ : _ ∧ _)
  have HW2 : Hid (w2 = (w.alloc (.cells #[.slice p1 D.n c1, .slice p2 D.m c2] 30)).alloc (.cells #[.bool false, .int .i64 0, .int .i64 0, .int .i64 0] 46)) := (by rw [hw2, hw1] : w2 = _)
  have HI := im_settled w2 (ha.keep kw2) hd hok
  clear hw1 hw2 k1 b1 z1 k2 b2 z2 b12 kw2 ha hd hok
  go_enter Try.func25, Try.ntmps25
  go_upto_region 1 with fail
  rw [← (show w2 = _ from HW2)]
  clear HW2
  go_wp2_with fail
  refine HI.mono ?_
  rintro e w3 ⟨dv, rfl, hD⟩
  have k3 := hD.kb
  clear HI u0 u1 hD
  obtain ⟨kw2, b2, z2⟩ := (show _ ∧ _ ∧ _ from HB)
  have bq := (k3.block _ (Nat.zero_le _) (by omega)).trans b2
  obtain ⟨WF, hWF, bF, zF⟩ := four_set (.bool false) (.int .i64 0) (.int .i64 0) (.int .i64 0) bq
  have f0 : WF.cell? ⟨w.heap.size + 1, 0, none⟩ = some (.bool false) := cell_of bF rfl
  have f1 : WF.cell? ⟨w.heap.size + 1, 1, none⟩ = some (.int .i64 0) := cell_of bF rfl
  have f2 : WF.cell? ⟨w.heap.size + 1, 2, none⟩ = some (.int .i64 0) := cell_of bF rfl
  have f3 : WF.cell? ⟨w.heap.size + 1, 3, none⟩ = some (.int .i64 0) := cell_of bF rfl
  have a0 : w3.cell? ⟨w.heap.size + 1, 0, none⟩ = some (.bool false) := cell_of bq rfl
  have a1 : w3.cell? ⟨w.heap.size + 1, 1, none⟩ = some (.int .i64 0) := cell_of bq rfl
  have a2 : w3.cell? ⟨w.heap.size + 1, 2, none⟩ = some (.int .i64 0) := cell_of bq rfl
  have a3 : w3.cell? ⟨w.heap.size + 1, 3, none⟩ = some (.int .i64 0) := cell_of bq rfl
  have fy : ∀ j, w3.frozen? ⟨w.heap.size + 1, j, none⟩ = false := fun j => frozen_of bq
  have HF : Hid (Kb 0 w WF) := zF.kb (kw2.trans k3) (by omega)
  have HWF : Hid (WF = _) := hWF
  clear hWF bF zF bq HB kw2 b2 z2 k3
  go_wp2_with fail
  rw [← (show WF = _ from HWF)]
  clear HWF
  refine bodyPost_ret (by simp [results, Try.results25, go_sem, f0, f1, f2, f3]; rfl) rfl ?_
  exact ⟨rfl, HF⟩
set_option maxHeartbeats 8000000 in
theorem im_ho_3 {v1 v2 : Value} {D : Dd} {b : Int} (w : World) (ha : RowD 0 w v1 v2 D) (hd : BdD D) (hok : Dok D) (hb : 0 ≤ b) (hb2 : 2 ≤ b) :
    Calls Try.prog 25 #[.agg #[v1, v2], .int .i64 b] w fun e w' => e = .returned (.agg #[.bool false, .int .i64 0, .int .i64 0, .int .i64 0]) ∧ Kb 0 w w' := by
  obtain ⟨⟨p1, c1, rfl, -⟩, ⟨p2, c2, rfl, -⟩⟩ := id ha
  obtain ⟨w1, hw1⟩ : ∃ w1, w1 = w.alloc (.cells #[.slice p1 D.n c1, .slice p2 D.m c2] 30) := ⟨_, rfl⟩
  obtain ⟨w2, hw2⟩ : ∃ w2, w2 = w1.alloc (.cells #[.bool false, .int .i64 0, .int .i64 0, .int .i64 0] 46) := ⟨_, rfl⟩
  have k1 : Kb 0 w w1 := by rw [hw1]; exact kb_alloc _ _ _
  have b1 : w1.heap[w.heap.size]? = some (.cells #[.slice p1 D.n c1, .slice p2 D.m c2] 30 (0, 0)) := by rw [hw1]; exact alloc_new _ _ _
  have z1 : w1.heap.size = w.heap.size + 1 := by rw [hw1]; exact World.size_alloc _ _
  have k2 : Kb 0 w1 w2 := by rw [hw2]; exact kb_alloc _ _ _
  have b2 : w2.heap[w.heap.size + 1]? = some (.cells #[.bool false, .int .i64 0, .int .i64 0, .int .i64 0] 46 (0, 0)) := by rw [hw2, ← z1]; exact alloc_new _ _ _
  have z2 : w2.heap.size = w.heap.size + 2 := by rw [hw2, World.size_alloc, z1]
  have b12 := (k2.block _ (Nat.zero_le _) (by omega)).trans b1
  have u0 : w2.cell? ⟨w.heap.size, 0, none⟩ = some (.slice p1 D.n c1) := cell_of b12 rfl
  have u1 : w2.cell? ⟨w.heap.size, 1, none⟩ = some (.slice p2 D.m c2) := cell_of b12 rfl
  have kw2 := k1.trans k2
  have HB : Hid (Kb 0 w w2 ∧ w2.heap[w.heap.size + 1]? = some (.cells #[.bool false, .int .i64 0, .int .i64 0, .int .i64 0] 46 (0, 0)) ∧ w2.heap.size = w.heap.size + 2) := (⟨kw2, b2, z2⟩ : _ ∧ _)
  have HW2 : Hid (w2 = (w.alloc (.cells #[.slice p1 D.n c1, .slice p2 D.m c2] 30)).alloc (.cells #[.bool false, .int .i64 0, .int .i64 0, .int .i64 0] 46)) := (by rw [hw2, hw1] : w2 = _)
  have HI := im_settled w2 (ha.keep kw2) hd hok
  clear hw1 hw2 k1 b1 z1 k2 b2 z2 b12 kw2 ha hd hok
  go_enter Try.func25, Try.ntmps25
  go_upto_region 1 with fail
  rw [← (show w2 = _ from HW2)]
  clear HW2
  go_wp2_with fail
  refine HI.mono ?_
  rintro e w3 ⟨dv, rfl, hD⟩
  have k3 := hD.kb
  clear HI u0 u1 hD
  obtain ⟨kw2, b2, z2⟩ := (show _ ∧ _ ∧ _ from HB)
  have bq := (k3.block _ (Nat.zero_le _) (by omega)).trans b2
  obtain ⟨WF, hWF, bF, zF⟩ := four_set (.bool false) (.int .i64 0) (.int .i64 0) (.int .i64 0) bq
  have f0 : WF.cell? ⟨w.heap.size + 1, 0, none⟩ = some (.bool false) := cell_of bF rfl
  have f1 : WF.cell? ⟨w.heap.size + 1, 1, none⟩ = some (.int .i64 0) := cell_of bF rfl
  have f2 : WF.cell? ⟨w.heap.size + 1, 2, none⟩ = some (.int .i64 0) := cell_of bF rfl
  have f3 : WF.cell? ⟨w.heap.size + 1, 3, none⟩ = some (.int .i64 0) := cell_of bF rfl
  have a0 : w3.cell? ⟨w.heap.size + 1, 0, none⟩ = some (.bool false) := cell_of bq rfl
  have a1 : w3.cell? ⟨w.heap.size + 1, 1, none⟩ = some (.int .i64 0) := cell_of bq rfl
  have a2 : w3.cell? ⟨w.heap.size + 1, 2, none⟩ = some (.int .i64 0) := cell_of bq rfl
  have a3 : w3.cell? ⟨w.heap.size + 1, 3, none⟩ = some (.int .i64 0) := cell_of bq rfl
  have fy : ∀ j, w3.frozen? ⟨w.heap.size + 1, j, none⟩ = false := fun j => frozen_of bq
  have HF : Hid (Kb 0 w WF) := zF.kb (kw2.trans k3) (by omega)
  have HWF : Hid (WF = _) := hWF
  clear hWF bF zF bq HB kw2 b2 z2 k3
  go_wp2_with fail
  rw [← (show WF = _ from HWF)]
  clear HWF
  refine bodyPost_ret (by simp [results, Try.results25, go_sem, f0, f1, f2, f3]; rfl) rfl ?_
  exact ⟨rfl, HF⟩
set_option maxHeartbeats 8000000 in
theorem im_ho_4 {v1 v2 : Value} {D : Dd} {b : Int} {ok : Bool} {g l s : Int} (w : World) (ha : RowD 0 w v1 v2 D) (hd : BdD D) (hok : Dok D) (hb : ¬ b < 0) (hb2 : ¬ 2 ≤ b) (hcall : ∀ w2 dv W, Dr w2 dv (stl (dpg D) D.Q D.m) 0 D.Q (.slice none 0 0) W → Calls Try.prog 61 #[.pointer (some ⟨dv, 0, none⟩), .int .i64 b] W fun e w' => e = .returned (.agg #[.bool ok, .int .i64 g, .int .i64 l, .int .i64 s]) ∧ Kb 0 W w') :
    Calls Try.prog 25 #[.agg #[v1, v2], .int .i64 b] w fun e w' => e = .returned (.agg #[.bool ok, .int .i64 g, .int .i64 l, .int .i64 s]) ∧ Kb 0 w w' := by
  obtain ⟨⟨p1, c1, rfl, -⟩, ⟨p2, c2, rfl, -⟩⟩ := id ha
  obtain ⟨w1, hw1⟩ : ∃ w1, w1 = w.alloc (.cells #[.slice p1 D.n c1, .slice p2 D.m c2] 30) := ⟨_, rfl⟩
  obtain ⟨w2, hw2⟩ : ∃ w2, w2 = w1.alloc (.cells #[.bool false, .int .i64 0, .int .i64 0, .int .i64 0] 46) := ⟨_, rfl⟩
  have k1 : Kb 0 w w1 := by rw [hw1]; exact kb_alloc _ _ _
  have b1 : w1.heap[w.heap.size]? = some (.cells #[.slice p1 D.n c1, .slice p2 D.m c2] 30 (0, 0)) := by rw [hw1]; exact alloc_new _ _ _
  have z1 : w1.heap.size = w.heap.size + 1 := by rw [hw1]; exact World.size_alloc _ _
  have k2 : Kb 0 w1 w2 := by rw [hw2]; exact kb_alloc _ _ _
  have b2 : w2.heap[w.heap.size + 1]? = some (.cells #[.bool false, .int .i64 0, .int .i64 0, .int .i64 0] 46 (0, 0)) := by rw [hw2, ← z1]; exact alloc_new _ _ _
  have z2 : w2.heap.size = w.heap.size + 2 := by rw [hw2, World.size_alloc, z1]
  have b12 := (k2.block _ (Nat.zero_le _) (by omega)).trans b1
  have u0 : w2.cell? ⟨w.heap.size, 0, none⟩ = some (.slice p1 D.n c1) := cell_of b12 rfl
  have u1 : w2.cell? ⟨w.heap.size, 1, none⟩ = some (.slice p2 D.m c2) := cell_of b12 rfl
  have kw2 := k1.trans k2
  have HB : Hid (Kb 0 w w2 ∧ w2.heap[w.heap.size + 1]? = some (.cells #[.bool false, .int .i64 0, .int .i64 0, .int .i64 0] 46 (0, 0)) ∧ w2.heap.size = w.heap.size + 2) := (⟨kw2, b2, z2⟩ : _ ∧ _)
  have HW2 : Hid (w2 = (w.alloc (.cells #[.slice p1 D.n c1, .slice p2 D.m c2] 30)).alloc (.cells #[.bool false, .int .i64 0, .int .i64 0, .int .i64 0] 46)) := (by rw [hw2, hw1] : w2 = _)
  have HI := im_settled w2 (ha.keep kw2) hd hok
  have HCA : Hid (∀ dv W, Dr w2 dv (stl (dpg D) D.Q D.m) 0 D.Q (.slice none 0 0) W → Calls Try.prog 61 #[.pointer (some ⟨dv, 0, none⟩), .int .i64 b] W fun e w' => e = .returned (.agg #[.bool ok, .int .i64 g, .int .i64 l, .int .i64 s]) ∧ Kb 0 W w') := (fun dv W h => hcall w2 dv W h : ∀ dv W, _)
  clear hw1 hw2 k1 b1 z1 k2 b2 z2 b12 kw2 ha hd hok hcall
  go_enter Try.func25, Try.ntmps25
  go_upto_region 1 with fail
  rw [← (show w2 = _ from HW2)]
  clear HW2
  go_wp2_with fail
  refine HI.mono ?_
  rintro e w3 ⟨dv, rfl, hD⟩
  have HK3 : Hid (Kb 0 w2 w3) := hD.kb
  have HC := (show ∀ dv W, _ from HCA) dv w3 hD
  clear HI u0 u1 hD HCA
  go_wp2_with fail
  refine HC.mono ?_
  rintro e w4 ⟨rfl, k4⟩
  have k24 := (show Kb 0 w2 w3 from HK3).trans k4
  clear HC k4 HK3
  obtain ⟨kw2, b2, z2⟩ := (show _ ∧ _ ∧ _ from HB)
  have bq := (k24.block _ (Nat.zero_le _) (by omega)).trans b2
  obtain ⟨WF, hWF, bF, zF⟩ := four_set (.bool ok) (.int .i64 g) (.int .i64 l) (.int .i64 s) bq
  have f0 : WF.cell? ⟨w.heap.size + 1, 0, none⟩ = some (.bool ok) := cell_of bF rfl
  have f1 : WF.cell? ⟨w.heap.size + 1, 1, none⟩ = some (.int .i64 g) := cell_of bF rfl
  have f2 : WF.cell? ⟨w.heap.size + 1, 2, none⟩ = some (.int .i64 l) := cell_of bF rfl
  have f3 : WF.cell? ⟨w.heap.size + 1, 3, none⟩ = some (.int .i64 s) := cell_of bF rfl
  have a0 : w4.cell? ⟨w.heap.size + 1, 0, none⟩ = some (.bool false) := cell_of bq rfl
  have a1 : w4.cell? ⟨w.heap.size + 1, 1, none⟩ = some (.int .i64 0) := cell_of bq rfl
  have a2 : w4.cell? ⟨w.heap.size + 1, 2, none⟩ = some (.int .i64 0) := cell_of bq rfl
  have a3 : w4.cell? ⟨w.heap.size + 1, 3, none⟩ = some (.int .i64 0) := cell_of bq rfl
  have fy : ∀ j, w4.frozen? ⟨w.heap.size + 1, j, none⟩ = false := fun j => frozen_of bq
  have HF : Hid (Kb 0 w WF) := zF.kb (kw2.trans k24) (by omega)
  have HWF : Hid (WF = _) := hWF
  clear hWF bF zF bq HB kw2 b2 z2 k24
  go_wp2_with fail
  rw [← (show WF = _ from HWF)]
  clear HWF
  refine bodyPost_ret (by simp [results, Try.results25, go_sem, f0, f1, f2, f3]; rfl) rfl ?_
  exact ⟨rfl, HF⟩
/-- bytes of a disk that are bytes -/
def RgD (D : Dd) : Prop := (∀ i, i < D.n → ∀ j, j < (D.B i).c → 0 ≤ (D.B i).A j ∧ (D.B i).A j ≤ 255) ∧ ∀ i, i < D.m → ∀ j, j < (D.Q i).c → 0 ≤ (D.Q i).A j ∧ (D.Q i).A j ≤ 255
theorem rdl_r8 {P : Nat → Nat → Int} {Q : Nat → Ed} {k : Nat} (hP : R8 (P k)) : ∀ m, (∀ i, i < m → R8 (Q i).A) → R8 (rdl P Q k m)
  | 0, _ => hP
  | m + 1, h => by
    rw [rdl]
    split
    · exact h m (by omega)
    · exact rdl_r8 hP m (fun i hi => h i (by omega))
theorem hdv_shape (A : Nat → Int) (g l s : Int) : ∃ (ok : Bool) (g' l' s' : Int), hdv A g l s = .agg #[.bool ok, .int .i64 g', .int .i64 l', .int .i64 s'] := by
  by_cases h : Hd A g l s
  · exact ⟨_, _, _, _, hdv_t h⟩
  · exact ⟨_, _, _, _, hdv_f h⟩
theorem head_any {D : Dd} (b : Int) (hd : BdD D) (hg : RgD D) : ∃ (ok : Bool) (g l s : Int), (∀ v1 v2 w, RowD 0 w v1 v2 D → Calls Try.prog 24 #[.agg #[v1, v2], .int .i64 b] w fun e w' => e = .returned (.agg #[.bool ok, .int .i64 g, .int .i64 l, .int .i64 s]) ∧ Kb 0 w w') ∧ (∀ v1 v2 w, RowD 0 w v1 v2 D → Calls Try.prog 25 #[.agg #[v1, v2], .int .i64 b] w fun e w' => e = .returned (.agg #[.bool ok, .int .i64 g, .int .i64 l, .int .i64 s]) ∧ Kb 0 w w') := by
  by_cases hok : Dok D
  · by_cases h1 : b < 0
    · exact ⟨_, _, _, _, fun v1 v2 w ha => sp_ho_2 w ha hd hok h1, fun v1 v2 w ha => im_ho_2 w ha hd hok h1⟩
    · by_cases h2 : 1 < b
      · exact ⟨_, _, _, _, fun v1 v2 w ha => sp_ho_3 w ha hd hok (by omega) h2, fun v1 v2 w ha => im_ho_3 w ha hd hok (by omega) (by omega)⟩
      · obtain ⟨k, rfl⟩ : ∃ k : Nat, b = (k : Int) := ⟨b.toNat, by omega⟩
        have hk : k < 258 := by omega
        have hr : R8 (rdl (dpg D) D.Q k D.m) := by
          refine rdl_r8 (fun j hj => ?_) _ (fun i hi j hj => ?_)
          · exact hg.1 k (by rw [hok.1]; exact hk) j (by rw [hok.2.2.1 k (by rw [hok.1]; exact hk)]; exact hj)
          · exact hg.2 i hi j (by rw [(hok.2.2.2 i hi).2.2]; exact hj)
        obtain ⟨y1, y2, y3, hy⟩ := nums_any (rdl (dpg D) D.Q k D.m)
        obtain ⟨ok, g, l, s, e⟩ := hdv_shape (rdl (dpg D) D.Q k D.m) (wrap64 (y1 : Int)) (wrap64 (y2 : Int)) (wrap64 (y3 : Int))
        refine ⟨ok, g, l, s, fun v1 v2 w ha => sp_ho_4 w ha hd hok h1 h2 (fun x1 x2 W hW => ?_), fun v1 v2 w ha => im_ho_4 w ha hd hok h1 (by omega) (fun w2 dv W hD => ?_)⟩
        · rw [← e]
          obtain ⟨n, Bf, m, Qf⟩ := D
          obtain rfl : n = 258 := hok.1
          exact sp_l54head k W hW hok hk rfl hr hy
        · have es := stl_rdl (dpg D) D.Q k D.m (fun j hj => (hok.2.2.2 j hj).1)
          have := im_dhead (y1 := y1) (y2 := y2) (y3 := y3) k W hD hk (by rw [es]; exact hr) (by rw [es]; exact hy)
          rw [es, e] at this
          exact this
  · exact ⟨_, _, _, _, fun v1 v2 w ha => sp_ho_1 w ha hd hok, fun v1 v2 w ha => im_ho_1 w ha hd hok⟩
set_option maxHeartbeats 4000000 in
theorem eq_head {ok : Bool} {g l s : Int} (w : World) : Calls Try.prog 26 #[.agg #[.bool ok, .int .i64 g, .int .i64 l, .int .i64 s], .agg #[.bool ok, .int .i64 g, .int .i64 l, .int .i64 s]] w fun e w' => e = .returned (.bool true) ∧ Kb 0 w w' := by
  go_enter Try.func26, Try.ntmps26
  go_wp2_with fail
  go_ret
  exact ⟨rfl, (kb_alloc 0 _ _).trans (kb_alloc 0 _ _)⟩
end Go.Proofs.Ytiojjejphdhpeaa.Fo
