import Derived.Test.YtiojjejphdhpeaaMDic
import Derived.Test.YtiojjejphdhpeaaMDgh
namespace Go.Proofs.Ytiojjejphdhpeaa.Fo
open Go.ChangeShapes Go.WideShapes Go.ChangeAt Go.RowKit
set_option linter.unusedVariables false
set_option maxRecDepth 100000
set_option linter.unusedSimpArgs false
set_option maxHeartbeats 8000000 in
theorem sp_app_1 {v1 v2 : Value} {D : Dd} {po : Option Addr} {no co : Nat} {b : Int} (w : World) (ha : RowD 0 w v1 v2 D) (hd : BdD D) (hok : ¬ Dok D) :
    Calls Try.prog 38 #[.agg #[v1, v2], .slice po no co, .int .i64 b] w fun e w' => e = .returned (.agg #[.slice none 0 0, .slice none 0 0]) ∧ Kb 0 w w' := by
  obtain ⟨⟨p1, c1, rfl, -⟩, ⟨p2, c2, rfl, -⟩⟩ := id ha
  obtain ⟨w2, hw2⟩ : ∃ w2, w2 = (w.alloc (.cells #[.slice p1 D.n c1, .slice p2 D.m c2] 30)).alloc (.cells #[.slice none 0 0, .slice none 0 0] 30) := ⟨_, rfl⟩
  obtain ⟨b0, b1, z2, k2⟩ := two_newD w _ _ _ _ w2 hw2
  have u0 : w2.cell? ⟨w.heap.size, 0, none⟩ = some (.slice p1 D.n c1) := cell_of b0 rfl
  have u1 : w2.cell? ⟨w.heap.size, 1, none⟩ = some (.slice p2 D.m c2) := cell_of b0 rfl
  have HB : Hid (Kb 0 w w2 ∧ w2.heap[w.heap.size]? = some (.cells #[.slice p1 D.n c1, .slice p2 D.m c2] 30 (0, 0)) ∧ w2.heap[w.heap.size + 1]? = some (.cells #[.slice none 0 0, .slice none 0 0] 30 (0, 0)) ∧ w2.heap.size = w.heap.size + 2) := (⟨k2, b0, b1, z2⟩ : _ ∧ _)
  have HW2 : Hid (w2 = (w.alloc (.cells #[.slice p1 D.n c1, .slice p2 D.m c2] 30)).alloc (.cells #[.slice none 0 0, .slice none 0 0] 30)) := hw2
  have HI : Calls Try.prog 43 #[.agg #[.slice p1 D.n c1, .slice p2 D.m c2]] w2 fun e w' => e = .returned (.bool false) ∧ Kb 0 w2 w' := by
    have := sp_dok w2 (ha.keep k2) hd
    rw [dc_f hok] at this
    exact this
  clear hw2 b0 b1 z2 k2 ha hd hok
  go_enter Try.func38, Try.ntmps38
  go_upto_region 1 with fail
  rw [← (show w2 = _ from HW2)]
  clear HW2
  go_wp2_with fail
  refine HI.mono ?_
  rintro e w3 ⟨rfl, k3⟩
  obtain ⟨kw2, b0, b1, z2⟩ := (show _ ∧ _ ∧ _ ∧ _ from HB)
  have r := (k3.block (w.heap.size + 1) (Nat.zero_le _) (by omega)).trans b1
  have a0 : w3.cell? ⟨w.heap.size + 1, 0, none⟩ = some (.slice none 0 0) := cell_of r rfl
  have a1 : w3.cell? ⟨w.heap.size + 1, 1, none⟩ = some (.slice none 0 0) := cell_of r rfl
  have fy : ∀ j, w3.frozen? ⟨w.heap.size + 1, j, none⟩ = false := fun j => frozen_of r
  obtain ⟨WF, hWF⟩ : ∃ WF, WF = (w3.setCell ⟨w.heap.size + 1, 0, none⟩ (.slice none 0 0)).setCell ⟨w.heap.size + 1, 1, none⟩ (.slice none 0 0) := ⟨_, rfl⟩
  have zF : WF.heap.size = w3.heap.size := by rw [hWF]; simp
  have bF : ∀ q, q ≠ w.heap.size + 1 → WF.heap[q]? = w3.heap[q]? := fun q hq => by
    rw [hWF, Below.heap_setCell _ _ _ _ (show q ≠ w.heap.size + 1 from hq), Below.heap_setCell _ _ _ _ (show q ≠ w.heap.size + 1 from hq)]
  have rF : WF.heap[w.heap.size + 1]? = some (.cells #[.slice none 0 0, .slice none 0 0] 30 (0, 0)) := by
    rw [hWF]
    exact set_known _ (set_known _ r)
  have f3 : WF.cell? ⟨w.heap.size + 1, 0, none⟩ = some (.slice none 0 0) := cell_of rF rfl
  have f4 : WF.cell? ⟨w.heap.size + 1, 1, none⟩ = some (.slice none 0 0) := cell_of rF rfl
  have kF : Kb 0 w WF := by rw [hWF]; exact ((kw2.trans k3).setCell _ (.inr (by show _ ≤ w.heap.size + 1; omega)) _).setCell _ (.inr (by show _ ≤ w.heap.size + 1; omega)) _
  have HF : Hid (Kb 0 w WF) := kF
  have HWF : Hid (WF = _) := hWF
  clear HI u0 u1 HB kw2 b0 b1 z2 r k3 zF bF rF kF hWF
  go_wp2_with fail
  rw [← (show WF = _ from HWF)]
  clear HWF
  refine bodyPost_ret (by simp [results, Try.results38, go_sem, f3, f4]; rfl) rfl ?_
  exact ⟨rfl, HF⟩
set_option maxHeartbeats 8000000 in
theorem sp_app_2 {v1 v2 : Value} {D : Dd} {po : Option Addr} {no co : Nat} {b : Int} (w : World) (ha : RowD 0 w v1 v2 D) (hd : BdD D) (hok : Dok D) (hb : b < 0) :
    Calls Try.prog 38 #[.agg #[v1, v2], .slice po no co, .int .i64 b] w fun e w' => e = .returned (.agg #[.slice none 0 0, .slice none 0 0]) ∧ Kb 0 w w' := by
  obtain ⟨⟨p1, c1, rfl, -⟩, ⟨p2, c2, rfl, -⟩⟩ := id ha
  obtain ⟨w2, hw2⟩ : ∃ w2, w2 = (w.alloc (.cells #[.slice p1 D.n c1, .slice p2 D.m c2] 30)).alloc (.cells #[.slice none 0 0, .slice none 0 0] 30) := ⟨_, rfl⟩
  obtain ⟨b0, b1, z2, k2⟩ := two_newD w _ _ _ _ w2 hw2
  have u0 : w2.cell? ⟨w.heap.size, 0, none⟩ = some (.slice p1 D.n c1) := cell_of b0 rfl
  have u1 : w2.cell? ⟨w.heap.size, 1, none⟩ = some (.slice p2 D.m c2) := cell_of b0 rfl
  have HB : Hid (Kb 0 w w2 ∧ w2.heap[w.heap.size]? = some (.cells #[.slice p1 D.n c1, .slice p2 D.m c2] 30 (0, 0)) ∧ w2.heap[w.heap.size + 1]? = some (.cells #[.slice none 0 0, .slice none 0 0] 30 (0, 0)) ∧ w2.heap.size = w.heap.size + 2) := (⟨k2, b0, b1, z2⟩ : _ ∧ _)
  have HW2 : Hid (w2 = (w.alloc (.cells #[.slice p1 D.n c1, .slice p2 D.m c2] 30)).alloc (.cells #[.slice none 0 0, .slice none 0 0] 30)) := hw2
  have HI : Calls Try.prog 43 #[.agg #[.slice p1 D.n c1, .slice p2 D.m c2]] w2 fun e w' => e = .returned (.bool true) ∧ Kb 0 w2 w' := by
    have := sp_dok w2 (ha.keep k2) hd
    rw [dc_t hok] at this
    exact this
  clear hw2 b0 b1 z2 k2 ha hd hok
  go_enter Try.func38, Try.ntmps38
  go_upto_region 1 with fail
  rw [← (show w2 = _ from HW2)]
  clear HW2
  go_wp2_with fail
  refine HI.mono ?_
  rintro e w3 ⟨rfl, k3⟩
  obtain ⟨kw2, b0, b1, z2⟩ := (show _ ∧ _ ∧ _ ∧ _ from HB)
  have r := (k3.block (w.heap.size + 1) (Nat.zero_le _) (by omega)).trans b1
  have a0 : w3.cell? ⟨w.heap.size + 1, 0, none⟩ = some (.slice none 0 0) := cell_of r rfl
  have a1 : w3.cell? ⟨w.heap.size + 1, 1, none⟩ = some (.slice none 0 0) := cell_of r rfl
  have fy : ∀ j, w3.frozen? ⟨w.heap.size + 1, j, none⟩ = false := fun j => frozen_of r
  obtain ⟨WF, hWF⟩ : ∃ WF, WF = (w3.setCell ⟨w.heap.size + 1, 0, none⟩ (.slice none 0 0)).setCell ⟨w.heap.size + 1, 1, none⟩ (.slice none 0 0) := ⟨_, rfl⟩
  have zF : WF.heap.size = w3.heap.size := by rw [hWF]; simp
  have bF : ∀ q, q ≠ w.heap.size + 1 → WF.heap[q]? = w3.heap[q]? := fun q hq => by
    rw [hWF, Below.heap_setCell _ _ _ _ (show q ≠ w.heap.size + 1 from hq), Below.heap_setCell _ _ _ _ (show q ≠ w.heap.size + 1 from hq)]
  have rF : WF.heap[w.heap.size + 1]? = some (.cells #[.slice none 0 0, .slice none 0 0] 30 (0, 0)) := by
    rw [hWF]
    exact set_known _ (set_known _ r)
  have f3 : WF.cell? ⟨w.heap.size + 1, 0, none⟩ = some (.slice none 0 0) := cell_of rF rfl
  have f4 : WF.cell? ⟨w.heap.size + 1, 1, none⟩ = some (.slice none 0 0) := cell_of rF rfl
  have kF : Kb 0 w WF := by rw [hWF]; exact ((kw2.trans k3).setCell _ (.inr (by show _ ≤ w.heap.size + 1; omega)) _).setCell _ (.inr (by show _ ≤ w.heap.size + 1; omega)) _
  have HF : Hid (Kb 0 w WF) := kF
  have HWF : Hid (WF = _) := hWF
  clear HI u0 u1 HB kw2 b0 b1 z2 r k3 zF bF rF kF hWF
  go_wp2_with fail
  rw [← (show WF = _ from HWF)]
  clear HWF
  refine bodyPost_ret (by simp [results, Try.results38, go_sem, f3, f4]; rfl) rfl ?_
  exact ⟨rfl, HF⟩
set_option maxHeartbeats 8000000 in
theorem sp_app_3 {v1 v2 : Value} {D : Dd} {po : Option Addr} {no co : Nat} {b : Int} (w : World) (ha : RowD 0 w v1 v2 D) (hd : BdD D) (hok : Dok D) (hb : 0 ≤ b) (hb2 : (no : Int) < b) :
    Calls Try.prog 38 #[.agg #[v1, v2], .slice po no co, .int .i64 b] w fun e w' => e = .returned (.agg #[.slice none 0 0, .slice none 0 0]) ∧ Kb 0 w w' := by
  obtain ⟨⟨p1, c1, rfl, -⟩, ⟨p2, c2, rfl, -⟩⟩ := id ha
  obtain ⟨w2, hw2⟩ : ∃ w2, w2 = (w.alloc (.cells #[.slice p1 D.n c1, .slice p2 D.m c2] 30)).alloc (.cells #[.slice none 0 0, .slice none 0 0] 30) := ⟨_, rfl⟩
  obtain ⟨b0, b1, z2, k2⟩ := two_newD w _ _ _ _ w2 hw2
  have u0 : w2.cell? ⟨w.heap.size, 0, none⟩ = some (.slice p1 D.n c1) := cell_of b0 rfl
  have u1 : w2.cell? ⟨w.heap.size, 1, none⟩ = some (.slice p2 D.m c2) := cell_of b0 rfl
  have HB : Hid (Kb 0 w w2 ∧ w2.heap[w.heap.size]? = some (.cells #[.slice p1 D.n c1, .slice p2 D.m c2] 30 (0, 0)) ∧ w2.heap[w.heap.size + 1]? = some (.cells #[.slice none 0 0, .slice none 0 0] 30 (0, 0)) ∧ w2.heap.size = w.heap.size + 2) := (⟨k2, b0, b1, z2⟩ : _ ∧ _)
  have HW2 : Hid (w2 = (w.alloc (.cells #[.slice p1 D.n c1, .slice p2 D.m c2] 30)).alloc (.cells #[.slice none 0 0, .slice none 0 0] 30)) := hw2
  have HI : Calls Try.prog 43 #[.agg #[.slice p1 D.n c1, .slice p2 D.m c2]] w2 fun e w' => e = .returned (.bool true) ∧ Kb 0 w2 w' := by
    have := sp_dok w2 (ha.keep k2) hd
    rw [dc_t hok] at this
    exact this
  clear hw2 b0 b1 z2 k2 ha hd hok
  go_enter Try.func38, Try.ntmps38
  go_upto_region 1 with fail
  rw [← (show w2 = _ from HW2)]
  clear HW2
  go_wp2_with fail
  refine HI.mono ?_
  rintro e w3 ⟨rfl, k3⟩
  obtain ⟨kw2, b0, b1, z2⟩ := (show _ ∧ _ ∧ _ ∧ _ from HB)
  have r := (k3.block (w.heap.size + 1) (Nat.zero_le _) (by omega)).trans b1
  have a0 : w3.cell? ⟨w.heap.size + 1, 0, none⟩ = some (.slice none 0 0) := cell_of r rfl
  have a1 : w3.cell? ⟨w.heap.size + 1, 1, none⟩ = some (.slice none 0 0) := cell_of r rfl
  have fy : ∀ j, w3.frozen? ⟨w.heap.size + 1, j, none⟩ = false := fun j => frozen_of r
  obtain ⟨WF, hWF⟩ : ∃ WF, WF = (w3.setCell ⟨w.heap.size + 1, 0, none⟩ (.slice none 0 0)).setCell ⟨w.heap.size + 1, 1, none⟩ (.slice none 0 0) := ⟨_, rfl⟩
  have zF : WF.heap.size = w3.heap.size := by rw [hWF]; simp
  have bF : ∀ q, q ≠ w.heap.size + 1 → WF.heap[q]? = w3.heap[q]? := fun q hq => by
    rw [hWF, Below.heap_setCell _ _ _ _ (show q ≠ w.heap.size + 1 from hq), Below.heap_setCell _ _ _ _ (show q ≠ w.heap.size + 1 from hq)]
  have rF : WF.heap[w.heap.size + 1]? = some (.cells #[.slice none 0 0, .slice none 0 0] 30 (0, 0)) := by
    rw [hWF]
    exact set_known _ (set_known _ r)
  have f3 : WF.cell? ⟨w.heap.size + 1, 0, none⟩ = some (.slice none 0 0) := cell_of rF rfl
  have f4 : WF.cell? ⟨w.heap.size + 1, 1, none⟩ = some (.slice none 0 0) := cell_of rF rfl
  have kF : Kb 0 w WF := by rw [hWF]; exact ((kw2.trans k3).setCell _ (.inr (by show _ ≤ w.heap.size + 1; omega)) _).setCell _ (.inr (by show _ ≤ w.heap.size + 1; omega)) _
  have HF : Hid (Kb 0 w WF) := kF
  have HWF : Hid (WF = _) := hWF
  clear HI u0 u1 HB kw2 b0 b1 z2 r k3 zF bF rF kF hWF
  go_wp2_with fail
  rw [← (show WF = _ from HWF)]
  clear HWF
  refine bodyPost_ret (by simp [results, Try.results38, go_sem, f3, f4]; rfl) rfl ?_
  exact ⟨rfl, HF⟩
set_option maxHeartbeats 8000000 in
theorem sp_app_y {v1 v2 : Value} {D D2 : Dd} {po : Option Addr} {no co N : Nat} (w : World) (ha : RowD 0 w v1 v2 D) (hd : BdD D) (hok : Dok D) (hN : N ≤ no) (hcall : ∀ x1 x2 W, Kb 0 w W → RowD 0 W x1 x2 D → Calls Try.prog 75 #[.agg #[x1, x2], .slice po no co, .int .i64 (N : Int)] W fun e w' => ∃ u1 u2, e = .returned (.tuple #[.agg #[u1, u2], .bool true]) ∧ OwD W.heap.size w'.heap.size w' u1 u2 D2 ∧ Kb 0 W w') :
    Calls Try.prog 38 #[.agg #[v1, v2], .slice po no co, .int .i64 (N : Int)] w fun e w' => ∃ u1 u2, e = .returned (.agg #[u1, u2]) ∧ OwD w.heap.size w'.heap.size w' u1 u2 D2 ∧ Kb 0 w w' := by
  obtain ⟨⟨p1, c1, rfl, -⟩, ⟨p2, c2, rfl, -⟩⟩ := id ha
  obtain ⟨w2, hw2⟩ : ∃ w2, w2 = (w.alloc (.cells #[.slice p1 D.n c1, .slice p2 D.m c2] 30)).alloc (.cells #[.slice none 0 0, .slice none 0 0] 30) := ⟨_, rfl⟩
  obtain ⟨b0, b1, z2, k2⟩ := two_newD w _ _ _ _ w2 hw2
  have u0 : w2.cell? ⟨w.heap.size, 0, none⟩ = some (.slice p1 D.n c1) := cell_of b0 rfl
  have u1 : w2.cell? ⟨w.heap.size, 1, none⟩ = some (.slice p2 D.m c2) := cell_of b0 rfl
  have HB : Hid (Kb 0 w w2 ∧ w2.heap[w.heap.size]? = some (.cells #[.slice p1 D.n c1, .slice p2 D.m c2] 30 (0, 0)) ∧ w2.heap[w.heap.size + 1]? = some (.cells #[.slice none 0 0, .slice none 0 0] 30 (0, 0)) ∧ w2.heap.size = w.heap.size + 2) := (⟨k2, b0, b1, z2⟩ : _ ∧ _)
  have HW2 : Hid (w2 = (w.alloc (.cells #[.slice p1 D.n c1, .slice p2 D.m c2] 30)).alloc (.cells #[.slice none 0 0, .slice none 0 0] 30)) := hw2
  have HI : Calls Try.prog 43 #[.agg #[.slice p1 D.n c1, .slice p2 D.m c2]] w2 fun e w' => e = .returned (.bool true) ∧ Kb 0 w2 w' := by
    have := sp_dok w2 (ha.keep k2) hd
    rw [dc_t hok] at this
    exact this
  have HCA : Hid (∀ W, Kb 0 w2 W → Calls Try.prog 75 #[.agg #[.slice p1 D.n c1, .slice p2 D.m c2], .slice po no co, .int .i64 (N : Int)] W fun e w' => ∃ u1 u2, e = .returned (.tuple #[.agg #[u1, u2], .bool true]) ∧ OwD W.heap.size w'.heap.size w' u1 u2 D2 ∧ Kb 0 W w') := (fun W k => hcall _ _ W (k2.trans k) (ha.keep (k2.trans k)) : ∀ W, _)
  have hN0 : ¬ (N : Int) < 0 := by omega
  have hN1 : ¬ (no : Int) < (N : Int) := by omega
  have hx : (decide ((N : Int) < 0) || decide ((no : Int) < (N : Int))) = false := by simp [hN0, hN1]
  clear hw2 b0 b1 z2 k2 ha hd hok hcall hN
  go_enter Try.func38, Try.ntmps38
  go_upto_region 1 with fail
  rw [← (show w2 = _ from HW2)]
  clear HW2
  go_wp2_with fail
  refine HI.mono ?_
  rintro e w3 ⟨rfl, k3⟩
  have u30 := k3.cell u0
  have u31 := k3.cell u1
  have HC := (show ∀ W, Kb 0 w2 W → _ from HCA) w3 k3
  have HK3 : Hid (Kb 0 w2 w3) := k3
  clear HI u0 u1 k3 HCA
  go_wp2_with fail
  refine HC.mono ?_
  rintro e w4 ⟨y1', y2', rfl, o4, k4⟩
  obtain ⟨y1, e1, y2, e2, rfl, rfl⟩ := o4.shape
  obtain ⟨P7, hP7⟩ : ∃ P7, P7 = w4.heap.size := ⟨_, rfl⟩
  obtain ⟨w5, hw5⟩ : ∃ w5, w5 = w4.alloc (.cells #[.slice y1 D2.n e1, .slice y2 D2.m e2] 30) := ⟨_, rfl⟩
  have k45 : Kb 0 w4 w5 := by rw [hw5]; exact kb_alloc _ _ _
  have k25 := ((show Kb 0 w2 w3 from HK3).trans k4).trans k45
  have b7 : w5.heap[P7]? = some (.cells #[.slice y1 D2.n e1, .slice y2 D2.m e2] 30 (0, 0)) := by rw [hw5, hP7]; exact alloc_new _ _ _
  have c0 : w5.cell? ⟨P7, 0, none⟩ = some (.slice y1 D2.n e1) := cell_of b7 rfl
  have c1 : w5.cell? ⟨P7, 1, none⟩ = some (.slice y2 D2.m e2) := cell_of b7 rfl
  have o5 : OwD w3.heap.size w4.heap.size w5 (.slice y1 D2.n e1) (.slice y2 D2.m e2) D2 := o4.block (fun q _ h2 => k45.block q (Nat.zero_le _) h2)
  have z5 : w5.heap.size = w4.heap.size + 1 := by rw [hw5]; exact World.size_alloc _ _
  obtain ⟨kw2, b0, b1, z2⟩ := (show _ ∧ _ ∧ _ ∧ _ from HB)
  have r := (k25.block (w.heap.size + 1) (Nat.zero_le _) (by omega)).trans b1
  have a0 : w5.cell? ⟨w.heap.size + 1, 0, none⟩ = some (.slice none 0 0) := cell_of r rfl
  have a1 : w5.cell? ⟨w.heap.size + 1, 1, none⟩ = some (.slice none 0 0) := cell_of r rfl
  have fy : ∀ j, w5.frozen? ⟨w.heap.size + 1, j, none⟩ = false := fun j => frozen_of r
  obtain ⟨WF, hWF⟩ : ∃ WF, WF = (w5.setCell ⟨w.heap.size + 1, 0, none⟩ (.slice y1 D2.n e1)).setCell ⟨w.heap.size + 1, 1, none⟩ (.slice y2 D2.m e2) := ⟨_, rfl⟩
  have zF : WF.heap.size = w5.heap.size := by rw [hWF]; simp
  have bF : ∀ q, q ≠ w.heap.size + 1 → WF.heap[q]? = w5.heap[q]? := fun q hq => by
    rw [hWF, Below.heap_setCell _ _ _ _ (show q ≠ w.heap.size + 1 from hq), Below.heap_setCell _ _ _ _ (show q ≠ w.heap.size + 1 from hq)]
  have rF : WF.heap[w.heap.size + 1]? = some (.cells #[.slice y1 D2.n e1, .slice y2 D2.m e2] 30 (0, 0)) := by
    rw [hWF]
    exact set_known _ (set_known _ r)
  have f3 : WF.cell? ⟨w.heap.size + 1, 0, none⟩ = some (.slice y1 D2.n e1) := cell_of rF rfl
  have f4 : WF.cell? ⟨w.heap.size + 1, 1, none⟩ = some (.slice y2 D2.m e2) := cell_of rF rfl
  have kF : Kb 0 w WF := by rw [hWF]; exact ((kw2.trans k25).setCell _ (.inr (by show _ ≤ w.heap.size + 1; omega)) _).setCell _ (.inr (by show _ ≤ w.heap.size + 1; omega)) _
  have oF : OwD w.heap.size WF.heap.size WF (.slice y1 D2.n e1) (.slice y2 D2.m e2) D2 := by
    rw [zF]
    have := (show Kb 0 w2 w3 from HK3).size
    exact (o5.block (fun q h1 h2 => bF q (by omega))).wide (by omega) (by omega)
  have HF : Hid (OwD w.heap.size WF.heap.size WF (.slice y1 D2.n e1) (.slice y2 D2.m e2) D2 ∧ Kb 0 w WF) := (⟨oF, kF⟩ : _ ∧ _)
  have HWF : Hid (WF = _) := hWF
  have HW5 : Hid (w5 = w4.alloc (.cells #[.slice y1 D2.n e1, .slice y2 D2.m e2] 30) ∧ P7 = w4.heap.size) := (⟨hw5, hP7⟩ : _ ∧ _)
  clear HC k4 k45 k25 b7 o4 o5 z5 hw5 hP7 kw2 b0 b1 z2 r zF bF rF hWF oF kF HB HK3 u30 u31
  go_upto_region 4 with fail
  rw [← (show _ ∧ _ from HW5).1, ← (show _ ∧ _ from HW5).2]
  clear HW5
  go_wp2_with fail
  rw [← (show WF = _ from HWF)]
  clear HWF
  refine bodyPost_ret (by simp [results, Try.results38, go_sem, f3, f4]; rfl) rfl ?_
  exact ⟨_, _, rfl, HF⟩
set_option maxHeartbeats 8000000 in
theorem sp_app_n {v1 v2 : Value} {D D2 : Dd} {po : Option Addr} {no co N : Nat} (w : World) (ha : RowD 0 w v1 v2 D) (hd : BdD D) (hok : Dok D) (hN : N ≤ no) (hcall : ∀ x1 x2 W, Kb 0 w W → RowD 0 W x1 x2 D → Calls Try.prog 75 #[.agg #[x1, x2], .slice po no co, .int .i64 (N : Int)] W fun e w' => e = .returned (.tuple #[.agg #[.slice none 0 0, .slice none 0 0], .bool false]) ∧ Kb 0 W w') :
    Calls Try.prog 38 #[.agg #[v1, v2], .slice po no co, .int .i64 (N : Int)] w fun e w' => e = .returned (.agg #[.slice none 0 0, .slice none 0 0]) ∧ Kb 0 w w' := by
  obtain ⟨⟨p1, c1, rfl, -⟩, ⟨p2, c2, rfl, -⟩⟩ := id ha
  obtain ⟨w2, hw2⟩ : ∃ w2, w2 = (w.alloc (.cells #[.slice p1 D.n c1, .slice p2 D.m c2] 30)).alloc (.cells #[.slice none 0 0, .slice none 0 0] 30) := ⟨_, rfl⟩
  obtain ⟨b0, b1, z2, k2⟩ := two_newD w _ _ _ _ w2 hw2
  have u0 : w2.cell? ⟨w.heap.size, 0, none⟩ = some (.slice p1 D.n c1) := cell_of b0 rfl
  have u1 : w2.cell? ⟨w.heap.size, 1, none⟩ = some (.slice p2 D.m c2) := cell_of b0 rfl
  have HB : Hid (Kb 0 w w2 ∧ w2.heap[w.heap.size]? = some (.cells #[.slice p1 D.n c1, .slice p2 D.m c2] 30 (0, 0)) ∧ w2.heap[w.heap.size + 1]? = some (.cells #[.slice none 0 0, .slice none 0 0] 30 (0, 0)) ∧ w2.heap.size = w.heap.size + 2) := (⟨k2, b0, b1, z2⟩ : _ ∧ _)
  have HW2 : Hid (w2 = (w.alloc (.cells #[.slice p1 D.n c1, .slice p2 D.m c2] 30)).alloc (.cells #[.slice none 0 0, .slice none 0 0] 30)) := hw2
  have HI : Calls Try.prog 43 #[.agg #[.slice p1 D.n c1, .slice p2 D.m c2]] w2 fun e w' => e = .returned (.bool true) ∧ Kb 0 w2 w' := by
    have := sp_dok w2 (ha.keep k2) hd
    rw [dc_t hok] at this
    exact this
  have HCA : Hid (∀ W, Kb 0 w2 W → Calls Try.prog 75 #[.agg #[.slice p1 D.n c1, .slice p2 D.m c2], .slice po no co, .int .i64 (N : Int)] W fun e w' => e = .returned (.tuple #[.agg #[.slice none 0 0, .slice none 0 0], .bool false]) ∧ Kb 0 W w') := (fun W k => hcall _ _ W (k2.trans k) (ha.keep (k2.trans k)) : ∀ W, _)
  have hN0 : ¬ (N : Int) < 0 := by omega
  have hN1 : ¬ (no : Int) < (N : Int) := by omega
  have hx : (decide ((N : Int) < 0) || decide ((no : Int) < (N : Int))) = false := by simp [hN0, hN1]
  clear hw2 b0 b1 z2 k2 ha hd hok hcall hN
  go_enter Try.func38, Try.ntmps38
  go_upto_region 1 with fail
  rw [← (show w2 = _ from HW2)]
  clear HW2
  go_wp2_with fail
  refine HI.mono ?_
  rintro e w3 ⟨rfl, k3⟩
  have u30 := k3.cell u0
  have u31 := k3.cell u1
  have HC := (show ∀ W, Kb 0 w2 W → _ from HCA) w3 k3
  have HK3 : Hid (Kb 0 w2 w3) := k3
  clear HI u0 u1 k3 HCA
  go_wp2_with fail
  refine HC.mono ?_
  rintro e w4 ⟨rfl, k4⟩
  obtain ⟨w5, hw5⟩ : ∃ w5, w5 = w4.alloc (.cells #[.slice none 0 0, .slice none 0 0] 30) := ⟨_, rfl⟩
  have k45 : Kb 0 w4 w5 := by rw [hw5]; exact kb_alloc _ _ _
  have k25 := ((show Kb 0 w2 w3 from HK3).trans k4).trans k45
  obtain ⟨kw2, b0, b1, z2⟩ := (show _ ∧ _ ∧ _ ∧ _ from HB)
  have r := (k25.block (w.heap.size + 1) (Nat.zero_le _) (by omega)).trans b1
  have a0 : w5.cell? ⟨w.heap.size + 1, 0, none⟩ = some (.slice none 0 0) := cell_of r rfl
  have a1 : w5.cell? ⟨w.heap.size + 1, 1, none⟩ = some (.slice none 0 0) := cell_of r rfl
  have fy : ∀ j, w5.frozen? ⟨w.heap.size + 1, j, none⟩ = false := fun j => frozen_of r
  obtain ⟨WF, hWF⟩ : ∃ WF, WF = (w5.setCell ⟨w.heap.size + 1, 0, none⟩ (.slice none 0 0)).setCell ⟨w.heap.size + 1, 1, none⟩ (.slice none 0 0) := ⟨_, rfl⟩
  have zF : WF.heap.size = w5.heap.size := by rw [hWF]; simp
  have bF : ∀ q, q ≠ w.heap.size + 1 → WF.heap[q]? = w5.heap[q]? := fun q hq => by
    rw [hWF, Below.heap_setCell _ _ _ _ (show q ≠ w.heap.size + 1 from hq), Below.heap_setCell _ _ _ _ (show q ≠ w.heap.size + 1 from hq)]
  have rF : WF.heap[w.heap.size + 1]? = some (.cells #[.slice none 0 0, .slice none 0 0] 30 (0, 0)) := by
    rw [hWF]
    exact set_known _ (set_known _ r)
  have f3 : WF.cell? ⟨w.heap.size + 1, 0, none⟩ = some (.slice none 0 0) := cell_of rF rfl
  have f4 : WF.cell? ⟨w.heap.size + 1, 1, none⟩ = some (.slice none 0 0) := cell_of rF rfl
  have kF : Kb 0 w WF := by rw [hWF]; exact ((kw2.trans k25).setCell _ (.inr (by show _ ≤ w.heap.size + 1; omega)) _).setCell _ (.inr (by show _ ≤ w.heap.size + 1; omega)) _
  have HF : Hid (Kb 0 w WF) := kF
  have HWF : Hid (WF = _) := hWF
  have HW5 : Hid (w5 = w4.alloc (.cells #[.slice none 0 0, .slice none 0 0] 30)) := hw5
  clear HC k4 k45 k25 hw5 kw2 b0 b1 z2 r zF bF rF hWF kF HB HK3 u30 u31
  go_upto_region 4 with fail
  rw [← (show w5 = _ from HW5)]
  clear HW5
  go_wp2_with fail
  rw [← (show WF = _ from HWF)]
  clear HWF
  refine bodyPost_ret (by simp [results, Try.results38, go_sem, f3, f4]; rfl) rfl ?_
  exact ⟨rfl, HF⟩
/-- the disk behind some ops, as both give it -/
theorem apply_any {D : Dd} {no : Nat} {F : Nat → Ed} (b : Int) (hd : BdD D) (hno : no ≤ 1048576) (hF : ∀ i, i < no → (F i).c ≤ 1048576) : ∃ D', BdD D' ∧ (∀ v1 v2 vo w, RowD 0 w v1 v2 D → RowE 3 0 w vo no F → Calls Try.prog 38 #[.agg #[v1, v2], vo, .int .i64 b] w (DsP D' w)) ∧ (∀ v1 v2 vo w, RowD 0 w v1 v2 D → RowE 3 0 w vo no F → Calls Try.prog 40 #[.agg #[v1, v2], vo, .int .i64 b] w (DsP D' w)) := by
  have fin : ∀ {w w' : World} {e : Ending}, e = .returned (.agg #[.slice none 0 0, .slice none 0 0]) ∧ Kb 0 w w' → DsP ⟨0, fun _ => zE, 0, fun _ => zE⟩ w e w' := fun ⟨h1, h2⟩ => ds_none h1 h2
  by_cases h1 : b < 0
  · refine ⟨_, bd_none, fun v1 v2 vo w ha ho => ?_, fun v1 v2 vo w ha ho => ?_⟩
    · obtain ⟨po, co, rfl, -⟩ := id ho
      by_cases hok : Dok D
      · exact (sp_app_2 w ha hd hok h1).mono (fun e w' q => fin q)
      · exact (sp_app_1 w ha hd hok).mono (fun e w' q => fin q)
    · obtain ⟨po, co, rfl, -⟩ := id ho
      exact (im_app_o1 w ha h1).mono (fun e w' q => fin q)
  · by_cases h2 : (no : Int) < b
    · refine ⟨_, bd_none, fun v1 v2 vo w ha ho => ?_, fun v1 v2 vo w ha ho => ?_⟩
      · obtain ⟨po, co, rfl, -⟩ := id ho
        by_cases hok : Dok D
        · exact (sp_app_3 w ha hd hok (by omega) h2).mono (fun e w' q => fin q)
        · exact (sp_app_1 w ha hd hok).mono (fun e w' q => fin q)
      · obtain ⟨po, co, rfl, -⟩ := id ho
        exact (im_app_o2 w ha (by omega) h2).mono (fun e w' q => fin q)
    · obtain ⟨N, rfl⟩ : ∃ N : Nat, b = (N : Int) := ⟨b.toNat, by omega⟩
      have hN : N ≤ no := by omega
      by_cases hok : Dok D
      · rcases first_bad (fun i => Vo (sqD D F i) (F i)) N with hv | ⟨K, hK, hv, hbad⟩
        · have hokN := dok_sq hok N hv
          refine ⟨_, bd_waits (dpg (sqD D F N)) (sqD D F N).m (sqD D F N).Q hokN.2.1, fun v1 v2 vo w ha ho => ?_, fun v1 v2 vo w ha ho => ?_⟩
          · obtain ⟨po, co, rfl, -⟩ := id ho
            refine (sp_app_y w ha hd hok hN (fun x1 x2 W k hW => sp_lapply_yes W hW (ho.keep (.inr (.inr rfl)) k) hno hF hN hok hv)).mono ?_
            rintro e w' ⟨u1, u2, q1, q2, q3⟩
            exact ⟨u1, u2, q1, q2.congr hokN.1 rfl (fun i hi => ⟨rfl, hokN.2.2.1 i hi, fun j _ => rfl⟩) (fun i hi => ⟨rfl, (hokN.2.2.2 i hi).2.2, fun j _ => rfl⟩), q3⟩
          · obtain ⟨po, co, rfl, -⟩ := id ho
            exact im_Apply_yes w ha hd ho hno hN hok hv
        · refine ⟨_, bd_none, fun v1 v2 vo w ha ho => ?_, fun v1 v2 vo w ha ho => ?_⟩
          · obtain ⟨po, co, rfl, -⟩ := id ho
            exact (sp_app_n (D2 := D) w ha hd hok hN (fun x1 x2 W k hW => sp_lapply_bad W hW (ho.keep (.inr (.inr rfl)) k) hno hF hN hok hK hv hbad)).mono (fun e w' q => fin q)
          · obtain ⟨po, co, rfl, -⟩ := id ho
            exact (im_Apply_bad w ha hd ho hno hF hN hok hK hv hbad).mono (fun e w' q => fin q)
      · refine ⟨_, bd_none, fun v1 v2 vo w ha ho => ?_, fun v1 v2 vo w ha ho => ?_⟩
        · obtain ⟨po, co, rfl, -⟩ := id ho
          exact (sp_app_1 w ha hd hok).mono (fun e w' q => fin q)
        · obtain ⟨po, co, rfl, -⟩ := id ho
          exact (im_Apply_no w ha hd ho hno hN hok).mono (fun e w' q => fin q)
end Go.Proofs.Ytiojjejphdhpeaa.Fo
