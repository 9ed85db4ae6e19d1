import Derived.Test.YtiojjejphdhpeaaMDef
import Derived.Test.YtiojjejphdhpeaaMDce
namespace Go.Proofs.Ytiojjejphdhpeaa.Fo
open Go.ChangeShapes Go.WideShapes Go.ChangeAt Go.RowKit
set_option linter.unusedVariables false
set_option maxRecDepth 100000
set_option linter.unusedSimpArgs false
set_option maxHeartbeats 8000000 in
theorem im_behind_no {v1 v2 : Value} {D : Dd} {vs : Value} (w : World) (ha : RowD 0 w v1 v2 D) (hd : BdD D) (hno : ¬ Dok D) :
    Calls Try.prog 48 #[.agg #[v1, v2], vs] w fun e w' => e = .returned (.agg #[.slice none 0 0, .slice none 0 0]) ∧ Kb 0 w w' := by
  obtain ⟨⟨p1, c1, rfl, -⟩, ⟨p2, c2, rfl, -⟩⟩ := id ha
  obtain ⟨w2, hw2⟩ : ∃ w2, w2 = (w.alloc (.cells #[.slice p1 D.n c1, .slice p2 D.m c2] 30)).alloc (.cells #[.slice none 0 0, .slice none 0 0] 30) := ⟨_, rfl⟩
  obtain ⟨b0, b1, z2, k2⟩ := two_newD w _ _ _ _ w2 hw2
  have u0 : w2.cell? ⟨w.heap.size, 0, none⟩ = some (.slice p1 D.n c1) := cell_of b0 rfl
  have u1 : w2.cell? ⟨w.heap.size, 1, none⟩ = some (.slice p2 D.m c2) := cell_of b0 rfl
  have HB : Hid (Kb 0 w w2 ∧ w2.heap[w.heap.size]? = some (.cells #[.slice p1 D.n c1, .slice p2 D.m c2] 30 (0, 0)) ∧ w2.heap[w.heap.size + 1]? = some (.cells #[.slice none 0 0, .slice none 0 0] 30 (0, 0)) ∧ w2.heap.size = w.heap.size + 2) := (⟨k2, b0, b1, z2⟩ : _ ∧ _)
  have HW2 : Hid (w2 = (w.alloc (.cells #[.slice p1 D.n c1, .slice p2 D.m c2] 30)).alloc (.cells #[.slice none 0 0, .slice none 0 0] 30)) := hw2
  have HI := im_drive_no w2 (ha.keep k2) hd hno
  clear hw2 b0 b1 z2 k2 ha hd hno
  go_enter Try.func48, Try.ntmps48
  go_upto_region 1 with fail
  rw [← (show w2 = _ from HW2)]
  clear HW2
  go_wp2_with fail
  refine HI.mono ?_
  rintro e w3 ⟨rfl, k3⟩
  obtain ⟨kw2, b0, b1, z2⟩ := (show _ ∧ _ ∧ _ ∧ _ from HB)
  have r := (k3.block (w.heap.size + 1) (Nat.zero_le _) (by omega)).trans b1
  have a0 : w3.cell? ⟨w.heap.size + 1, 0, none⟩ = some (.slice none 0 0) := cell_of r rfl
  have a1 : w3.cell? ⟨w.heap.size + 1, 1, none⟩ = some (.slice none 0 0) := cell_of r rfl
  have fy : ∀ j, w3.frozen? ⟨w.heap.size + 1, j, none⟩ = false := fun j => frozen_of r
  obtain ⟨WF, hWF⟩ : ∃ WF, WF = (w3.setCell ⟨w.heap.size + 1, 0, none⟩ (.slice none 0 0)).setCell ⟨w.heap.size + 1, 1, none⟩ (.slice none 0 0) := ⟨_, rfl⟩
  have zF : WF.heap.size = w3.heap.size := by rw [hWF]; simp
  have bF : ∀ q, q ≠ w.heap.size + 1 → WF.heap[q]? = w3.heap[q]? := fun q hq => by
    rw [hWF, Below.heap_setCell _ _ _ _ (show q ≠ w.heap.size + 1 from hq), Below.heap_setCell _ _ _ _ (show q ≠ w.heap.size + 1 from hq)]
  have rF : WF.heap[w.heap.size + 1]? = some (.cells #[.slice none 0 0, .slice none 0 0] 30 (0, 0)) := by
    rw [hWF]
    exact set_known _ (set_known _ r)
  have f3 : WF.cell? ⟨w.heap.size + 1, 0, none⟩ = some (.slice none 0 0) := cell_of rF rfl
  have f4 : WF.cell? ⟨w.heap.size + 1, 1, none⟩ = some (.slice none 0 0) := cell_of rF rfl
  have kF : Kb 0 w WF := by rw [hWF]; exact ((kw2.trans k3).setCell _ (.inr (by show _ ≤ w.heap.size + 1; omega)) _).setCell _ (.inr (by show _ ≤ w.heap.size + 1; omega)) _
  have HF : Hid (Kb 0 w WF) := kF
  have HWF : Hid (WF = _) := hWF
  clear HI u0 u1 HB kw2 b0 b1 z2 r k3 zF bF rF kF hWF
  go_wp2_with fail
  rw [← (show WF = _ from HWF)]
  clear HWF
  refine bodyPost_ret (by simp [results, Try.results48, go_sem, f3, f4]; rfl) rfl ?_
  exact ⟨rfl, HF⟩
set_option maxHeartbeats 16000000 in
theorem im_behind_sync {v1 v2 : Value} {D : Dd} {sb : Nat} (w : World) (ha : RowD 0 w v1 v2 D) (hd : BdD D) (hok : Dok D) (hs : w.cell? ⟨sb, 0, none⟩ = some (.func (.func 88) #[] #[])) :
    Calls Try.prog 48 #[.agg #[v1, v2], .slice (some ⟨sb, 0, none⟩) 1 1] w fun e w' => ∃ u1 u2, e = .returned (.agg #[u1, u2]) ∧ OwD w.heap.size w'.heap.size w' u1 u2 ⟨258, pE (stl (dpg D) D.Q D.m), 0, fun _ => zE⟩ ∧ Kb 0 w w' := by
  obtain ⟨⟨p1, c1, rfl, -⟩, ⟨p2, c2, rfl, -⟩⟩ := id ha
  obtain ⟨w2, hw2⟩ : ∃ w2, w2 = (w.alloc (.cells #[.slice p1 D.n c1, .slice p2 D.m c2] 30)).alloc (.cells #[.slice none 0 0, .slice none 0 0] 30) := ⟨_, rfl⟩
  obtain ⟨b0, b1, z2, k2⟩ := two_newD w _ _ _ _ w2 hw2
  have u0 : w2.cell? ⟨w.heap.size, 0, none⟩ = some (.slice p1 D.n c1) := cell_of b0 rfl
  have u1 : w2.cell? ⟨w.heap.size, 1, none⟩ = some (.slice p2 D.m c2) := cell_of b0 rfl
  have HB : Hid (Kb 0 w w2 ∧ w2.heap[w.heap.size]? = some (.cells #[.slice p1 D.n c1, .slice p2 D.m c2] 30 (0, 0)) ∧ w2.heap[w.heap.size + 1]? = some (.cells #[.slice none 0 0, .slice none 0 0] 30 (0, 0)) ∧ w2.heap.size = w.heap.size + 2) := (⟨k2, b0, b1, z2⟩ : _ ∧ _)
  have HW2 : Hid (w2 = (w.alloc (.cells #[.slice p1 D.n c1, .slice p2 D.m c2] 30)).alloc (.cells #[.slice none 0 0, .slice none 0 0] 30)) := hw2
  have HI := im_drive w2 (ha.keep k2) hd hok
  have HSY : Hid (∀ (dv : Nat) (vw : Value) (W : World), Dr w2 dv (dpg D) D.m D.Q vw W → Calls Try.prog 88 #[.pointer (some ⟨dv, 0, none⟩)] W fun e w' => e = .returned (.bool true) ∧ Dr w2 dv (stl (dpg D) D.Q D.m) 0 (fun _ => zE) (.slice none 0 0) w') := (fun dv vw W h => im_sync1 W h hok.2.1 (fun j hj => ⟨(hok.2.2.2 j hj).1, (hok.2.2.2 j hj).2.1⟩) (fun _ => zE) : ∀ (dv : Nat) (vw : Value) (W : World), _)
  have HSB : Hid (∀ W, Kb 0 w2 W → W.cell? ⟨sb, 0, none⟩ = some (.func (.func 88) #[] #[])) := (fun W k => (k2.trans k).cell hs : ∀ W, _)
  clear hw2 b0 b1 z2 k2 ha hd hok hs
  go_enter Try.func48, Try.ntmps48
  go_upto_region 1 with fail
  rw [← (show w2 = _ from HW2)]
  clear HW2
  go_wp2_with fail
  refine HI.mono ?_
  rintro e w3 ⟨dv, vw, rfl, hD⟩
  have HD0 : Hid (∃ vw, Dr w2 dv (dpg D) D.m D.Q vw w3) := (⟨vw, hD⟩ : ∃ vw, Dr w2 dv (dpg D) D.m D.Q vw w3)
  clear HI u0 u1 hD
  go_wp2_with fail
  go_loopw [15] (fun s15 wr => ∃ i : Nat, s15 = .int .i64 (i : Int) ∧ i ≤ 1 ∧ Hid ((i = 0 ∧ ∃ vw, Dr w2 dv (dpg D) D.m D.Q vw wr) ∨ (i = 1 ∧ Dr w2 dv (stl (dpg D) D.Q D.m) 0 (fun _ => zE) (.slice none 0 0) wr))) (fun s15 _ => 1 - (intOf s15).toNat)
  case atStart => exact ⟨0, rfl, Nat.zero_le _, .inl ⟨rfl, HD0⟩⟩
  case round =>
    clear HD0
    obtain ⟨i, rfl, hil, HX⟩ := hrel
    rcases (show ((i = 0 ∧ ∃ vw, Dr w2 dv (dpg D) D.m D.Q vw wr) ∨ (i = 1 ∧ Dr w2 dv (stl (dpg D) D.Q D.m) 0 (fun _ => zE) (.slice none 0 0) wr)) from HX) with ⟨rfl, vw, hD⟩ | ⟨rfl, hD⟩
    · clear HX
      have c0 := (show ∀ W, Kb 0 w2 W → _ from HSB) wr hD.kb
      have HS := (show ∀ (dv : Nat) (vw : Value) (W : World), _ from HSY) dv vw wr hD
      rw [show ((0 : Nat) : Int) = (0 : Int) from rfl]
      clear hD HSY hil
      go_wp2_with fail
      refine HS.mono ?_
      rintro e w4 ⟨rfl, hD⟩
      have HN : Hid (Dr w2 dv (stl (dpg D) D.Q D.m) 0 (fun _ => zE) (.slice none 0 0) w4) := hD
      clear HS hD c0
      go_wp2_with fail
      go_roundw
      case rel => exact ⟨1, by go_num, by omega, .inr ⟨rfl, HN⟩⟩
      case measure => simp [intOf]
    · clear HX
      rw [show ((1 : Nat) : Int) = (1 : Int) from rfl]
      have HC := im_disk0 wr dv hD.rg hD.wt (fun _ => zE)
      have HKR : Hid (Kb 0 w2 wr) := hD.kb
      clear hD HSY HSB hil
      go_wp2_with fail
      refine HC.mono ?_
      rintro e w4 ⟨y1, y2, rfl, o4, k4⟩
      obtain ⟨s1, e1, s2, e2, rfl, rfl⟩ := o4.shape
      dsimp only at o4 ⊢
      have k24 := (show Kb 0 w2 wr from HKR).trans k4
      obtain ⟨kw2, b0, b1, z2⟩ := (show _ ∧ _ ∧ _ ∧ _ from HB)
      have r := (k24.block (w.heap.size + 1) (Nat.zero_le _) (by omega)).trans b1
      have a0 : w4.cell? ⟨w.heap.size + 1, 0, none⟩ = some (.slice none 0 0) := cell_of r rfl
      have a1 : w4.cell? ⟨w.heap.size + 1, 1, none⟩ = some (.slice none 0 0) := cell_of r rfl
      have fy : ∀ j, w4.frozen? ⟨w.heap.size + 1, j, none⟩ = false := fun j => frozen_of r
      obtain ⟨WF, hWF⟩ : ∃ WF, WF = (w4.setCell ⟨w.heap.size + 1, 0, none⟩ (.slice s1 258 e1)).setCell ⟨w.heap.size + 1, 1, none⟩ (.slice s2 0 e2) := ⟨_, rfl⟩
      have zF : WF.heap.size = w4.heap.size := by rw [hWF]; simp
      have bF : ∀ q, q ≠ w.heap.size + 1 → WF.heap[q]? = w4.heap[q]? := fun q hq => by
        rw [hWF, Below.heap_setCell _ _ _ _ (show q ≠ w.heap.size + 1 from hq), Below.heap_setCell _ _ _ _ (show q ≠ w.heap.size + 1 from hq)]
      have rF : WF.heap[w.heap.size + 1]? = some (.cells #[.slice s1 258 e1, .slice s2 0 e2] 30 (0, 0)) := by
        rw [hWF]
        exact set_known _ (set_known _ r)
      have f3 : WF.cell? ⟨w.heap.size + 1, 0, none⟩ = some (.slice s1 258 e1) := cell_of rF rfl
      have f4 : WF.cell? ⟨w.heap.size + 1, 1, none⟩ = some (.slice s2 0 e2) := cell_of rF rfl
      have kF : Kb 0 w WF := by rw [hWF]; exact ((kw2.trans k24).setCell _ (.inr (by show _ ≤ w.heap.size + 1; omega)) _).setCell _ (.inr (by show _ ≤ w.heap.size + 1; omega)) _
      have oF : OwD w.heap.size WF.heap.size WF (.slice s1 258 e1) (.slice s2 0 e2) ⟨258, pE (stl (dpg D) D.Q D.m), 0, fun _ => zE⟩ := by
        rw [zF]
        have := (show Kb 0 w2 wr from HKR).size
        exact (o4.block (fun q h1 h2 => bF q (by omega))).wide (by omega) (Nat.le_refl _)
      have HF : Hid (OwD w.heap.size WF.heap.size WF (.slice s1 258 e1) (.slice s2 0 e2) ⟨258, pE (stl (dpg D) D.Q D.m), 0, fun _ => zE⟩ ∧ Kb 0 w WF) := (⟨oF, kF⟩ : _ ∧ _)
      have HWF : Hid (WF = _) := hWF
      clear HC o4 k4 k24 kw2 b0 b1 z2 r zF bF rF hWF oF kF HB HKR
      go_wp2_with fail
      rw [← (show WF = _ from HWF)]
      clear HWF
      refine bodyPost_ret (by simp [results, Try.results48, go_sem, f3, f4]; rfl) rfl ?_
      exact ⟨_, _, rfl, HF⟩
end Go.Proofs.Ytiojjejphdhpeaa.Fo
