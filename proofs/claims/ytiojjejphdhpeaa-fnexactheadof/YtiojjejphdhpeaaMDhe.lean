import Derived.Deep.RegionHeld3
import Derived.Test.YtiojjejphdhpeaaMDhd
import Derived.Test.YtiojjejphdhpeaaMDag
namespace Go.Proofs.Ytiojjejphdhpeaa.Fo
open Go.ChangeShapes Go.WideShapes Go.ChangeAt Go.RowKit
set_option linter.unusedVariables false
set_option maxRecDepth 100000
set_option linter.unusedSimpArgs false
set_option maxHeartbeats 16000000 in
theorem law_headof {v1 v2 : Value} {D : Dd} (b : Int) (w : World) (ha : RowD 0 w v1 v2 D) (hn : (D.n : Int) < 140737488355328) (hB : ∀ i, i < D.n → ((D.B i).c : Int) < 140737488355328) (hm : (D.m : Int) < 140737488355328) (hQ : ∀ i, i < D.m → ((D.Q i).c : Int) < 140737488355328) (hg : RgD D) :
    Calls Try.prog 5 #[.agg #[v1, v2], .int .i64 b] w fun e w' => e = .returned (.bool true) ∧ Kb 0 w w' := by
  obtain ⟨⟨p1, c1, rfl, -⟩, ⟨p2, c2, rfl, -⟩⟩ := id ha
  obtain ⟨w0, hw0⟩ : ∃ w0, w0 = w.alloc (.cells #[.slice p1 D.n c1, .slice p2 D.m c2] 25) := ⟨_, rfl⟩
  have k0 : Kb 0 w w0 := by rw [hw0]; exact kb_alloc _ _ _
  have b0 : w0.heap[w.heap.size]? = some (.cells #[.slice p1 D.n c1, .slice p2 D.m c2] 25 (0, 0)) := by rw [hw0]; exact alloc_new _ _ _
  have HS := sz_disk w0 1048576 (ha.keep k0) hn hB hm hQ (by omega) (by omega)
  have u0 : w0.cell? ⟨w.heap.size, 0, none⟩ = some (.slice p1 D.n c1) := cell_of b0 rfl
  have u1 : w0.cell? ⟨w.heap.size, 1, none⟩ = some (.slice p2 D.m c2) := cell_of b0 rfl
  have HB : Hid (Kb 0 w w0 ∧ w0.heap[w.heap.size]? = some (.cells #[.slice p1 D.n c1, .slice p2 D.m c2] 25 (0, 0)) ∧ w.heap.size < w0.heap.size ∧ RowD 0 w (.slice p1 D.n c1) (.slice p2 D.m c2) D) := (⟨k0, b0, by rw [hw0]; simp, ha⟩ : _ ∧ _)
  have HW0 : Hid (w0 = _) := hw0
  have HGD : Hid (RgD D) := hg
  clear hw0 k0 b0 hn hB hm hQ ha hg
  go_enter Try.func5, Try.ntmps5
  go_upto_region 2 with fail
  rw [← (show w0 = _ from HW0)]
  clear HW0
  go_wp2_with fail
  refine HS.mono ?_
  rintro e w1 ⟨r, rfl, hr1, hr2, hr3, k1⟩
  clear HS
  obtain ⟨k0, b0, z0, ha⟩ := (show _ ∧ _ ∧ _ ∧ _ from HB)
  rcases Int.lt_or_le r 0 with h | h
  · have HF : Hid (Kb 0 w w1) := k0.trans k1
    clear HB k0 b0 z0 ha k1 hr1 u0 u1
    go_wp2_with fail
    go_ret
    exact ⟨rfl, HF⟩
  have h' : ¬ r < 0 := by omega
  have hbd : BdD D := bd_of (by have := hr1 h; omega)
  have b1 := (k1.block _ (Nat.zero_le _) z0).trans b0
  have kw1 := k0.trans k1
  have HTO : Hid (∀ W, Kb 0 w W → Calls Try.prog 11 #[.agg #[.slice p1 D.n c1, .slice p2 D.m c2]] W fun e w' => ∃ x1 x2, e = .returned (.agg #[x1, x2]) ∧ OwD W.heap.size w'.heap.size w' x1 x2 D ∧ Kb 0 W w') := (fun W k => to_disk W (ha.keep k) hbd : ∀ W, _)
  have HEQ : Hid (∀ (W : World) x1 x2 y1 y2, RowD 0 W x1 x2 D → RowD 0 W y1 y2 D → Calls Try.prog 14 #[.agg #[x1, x2], .agg #[y1, y2]] W fun e w' => e = .returned (.bool true) ∧ Kb 0 W w') := (fun W x1 x2 y1 y2 h1 h2 => eq_disk W h1 h2 hbd : ∀ (W : World) x1 x2 y1 y2, _)
  have HBD : Hid (BdD D) := hbd
  have H1 : Hid (Kb 0 w w1 ∧ w1.heap[w.heap.size]? = some (.cells #[.slice p1 D.n c1, .slice p2 D.m c2] 25 (0, 0)) ∧ w.heap.size < w1.heap.size) := (⟨kw1, b1, by have := k1.size; omega⟩ : _ ∧ _)
  obtain ⟨ok, g, l, s, hSP, hIM⟩ := head_any b hbd HGD
  have HSP : Hid (∀ v1 v2 w, RowD 0 w v1 v2 D → Calls Try.prog 24 #[.agg #[v1, v2], .int .i64 b] w fun e w' => e = .returned (.agg #[.bool ok, .int .i64 g, .int .i64 l, .int .i64 s]) ∧ Kb 0 w w') := hSP
  have HIM : Hid (∀ v1 v2 w, RowD 0 w v1 v2 D → Calls Try.prog 25 #[.agg #[v1, v2], .int .i64 b] w fun e w' => e = .returned (.agg #[.bool ok, .int .i64 g, .int .i64 l, .int .i64 s]) ∧ Kb 0 w w') := hIM
  clear hSP hIM
  have HT1 := (show ∀ W, Kb 0 w W → _ from HTO) w1 kw1
  clear u0 u1
  have u0 : w1.cell? ⟨w.heap.size, 0, none⟩ = some (.slice p1 D.n c1) := cell_of b1 rfl
  have u1 : w1.cell? ⟨w.heap.size, 1, none⟩ = some (.slice p2 D.m c2) := cell_of b1 rfl
  clear HB k0 b0 z0 ha k1 hr1 hbd b1 kw1
  go_wp2_with fail
  refine HT1.mono ?_
  rintro e w2 ⟨x1, x2, rfl, o2, k2⟩
  obtain ⟨q1, d1, q2, d2, rfl, rfl⟩ := o2.shape
  have HS2 := (show ∀ v1 v2 w, _ from HSP) _ _ w2 (o2.rowD.mono (Nat.zero_le _))
  have H2 : Hid (Kb 0 w1 w2) := k2
  clear HT1 o2 k2 u0 u1
  go_wp2_with fail
  refine HS2.mono ?_
  rintro e w33 ⟨rfl, k33⟩
  obtain ⟨kw1, b1, z1⟩ := (show _ ∧ _ ∧ _ from H1)
  obtain ⟨P3, hP3⟩ : ∃ P3, P3 = w33.heap.size := ⟨_, rfl⟩
  obtain ⟨w3, hw3⟩ : ∃ w3, w3 = w33.alloc (.cells #[.bool ok, .int .i64 g, .int .i64 l, .int .i64 s] 46) := ⟨_, rfl⟩
  have k3 : Kb 0 w2 w3 := k33.trans (by rw [hw3]; exact kb_alloc _ _ _)
  have d3 : w3.heap[P3]? = some (.cells #[.bool ok, .int .i64 g, .int .i64 l, .int .i64 s] 46 (0, 0)) := by rw [hw3, hP3]; exact alloc_new _ _ _
  have HD3 : Hid (w3.heap[P3]? = some (.cells #[.bool ok, .int .i64 g, .int .i64 l, .int .i64 s] 46 (0, 0))) := d3
  have HW3 : Hid (w3 = w33.alloc (.cells #[.bool ok, .int .i64 g, .int .i64 l, .int .i64 s] 46) ∧ P3 = w33.heap.size) := (⟨hw3, hP3⟩ : _ ∧ _)
  have k13 := (show Kb 0 w1 w2 from H2).trans k3
  have b3 := (k13.block _ (Nat.zero_le _) z1).trans b1
  have kw3 := kw1.trans k13
  have HT3 := (show ∀ W, Kb 0 w W → _ from HTO) w3 kw3
  have u0 : w3.cell? ⟨w.heap.size, 0, none⟩ = some (.slice p1 D.n c1) := cell_of b3 rfl
  have u1 : w3.cell? ⟨w.heap.size, 1, none⟩ = some (.slice p2 D.m c2) := cell_of b3 rfl
  have H3 : Hid (Kb 0 w w3 ∧ w3.heap[w.heap.size]? = some (.cells #[.slice p1 D.n c1, .slice p2 D.m c2] 25 (0, 0)) ∧ w.heap.size < w3.heap.size) := (⟨kw3, b3, by have := k13.size; omega⟩ : _ ∧ _)
  clear HS2 H1 H2 kw1 b1 z1 k13 b3 kw3 k3 k33 hP3 hw3 d3
  go_upto_region 6 with fail
  rw [← (show _ ∧ _ from HW3).1, ← (show _ ∧ _ from HW3).2]
  clear HW3
  go_wp2_with fail
  refine HT3.mono ?_
  rintro e w4 ⟨x1, x2, rfl, o4, k4⟩
  obtain ⟨q1, d1, q2, d2, rfl, rfl⟩ := o4.shape
  clear u0 u1 HT3
  obtain ⟨P5, hP5⟩ : ∃ P5, P5 = w4.heap.size := ⟨_, rfl⟩
  obtain ⟨w5, hw5⟩ : ∃ w5, w5 = w4.alloc (.cells #[.slice q1 D.n d1, .slice q2 D.m d2] 30) := ⟨_, rfl⟩
  have k45 : Kb 0 w4 w5 := by rw [hw5]; exact kb_alloc _ _ _
  have b5 : w5.heap[P5]? = some (.cells #[.slice q1 D.n d1, .slice q2 D.m d2] 30 (0, 0)) := by rw [hw5, hP5]; exact alloc_new _ _ _
  obtain ⟨kw3, b3, z3⟩ := (show _ ∧ _ ∧ _ from H3)
  have r5 := (o4.rowD.mono (Nat.zero_le _)).keep k45
  have HI5 := (show ∀ v1 v2 w, _ from HIM) _ _ w5 r5
  have d35 := ((k4.trans k45).block _ (Nat.zero_le _) (Array.getElem?_eq_some_iff.1 (show w3.heap[P3]? = _ from HD3)).1).trans (show w3.heap[P3]? = _ from HD3)
  have HD5 : Hid (w5.heap[P3]? = some (.cells #[.bool ok, .int .i64 g, .int .i64 l, .int .i64 s] 46 (0, 0))) := d35
  have b35 := ((k4.trans k45).block _ (Nat.zero_le _) z3).trans b3
  have H5 : Hid (Kb 0 w w5 ∧ w5.heap[w.heap.size]? = some (.cells #[.slice p1 D.n c1, .slice p2 D.m c2] 25 (0, 0)) ∧ w5.heap[P5]? = some (.cells #[.slice q1 D.n d1, .slice q2 D.m d2] 30 (0, 0)) ∧ RowD 0 w5 (.slice q1 D.n d1) (.slice q2 D.m d2) D) := (⟨kw3.trans (k4.trans k45), b35, b5, r5⟩ : _ ∧ _)
  have x0 : w5.cell? ⟨P5, 0, none⟩ = some (.slice q1 D.n d1) := cell_of b5 rfl
  have x1 : w5.cell? ⟨P5, 1, none⟩ = some (.slice q2 D.m d2) := cell_of b5 rfl
  have HW5 : Hid (w5 = w4.alloc (.cells #[.slice q1 D.n d1, .slice q2 D.m d2] 30) ∧ P5 = w4.heap.size) := (⟨hw5, hP5⟩ : _ ∧ _)
  clear o4 k4 hP5 hw5 k45 b5 kw3 b3 z3 r5 b35 H3 d35 HD3
  go_upto_region 7 with fail
  rw [← (show _ ∧ _ from HW5).1, ← (show _ ∧ _ from HW5).2]
  clear HW5
  go_wp2_with fail
  refine HI5.mono ?_
  rintro e w66 ⟨rfl, k66⟩
  clear HI5 x0 x1
  obtain ⟨P6, hP6⟩ : ∃ P6, P6 = w66.heap.size := ⟨_, rfl⟩
  obtain ⟨w67, hw67⟩ : ∃ w67, w67 = w66.alloc (.cells #[.bool ok, .int .i64 g, .int .i64 l, .int .i64 s] 46) := ⟨_, rfl⟩
  have k67 : Kb 0 w5 w67 := k66.trans (by rw [hw67]; exact kb_alloc _ _ _)
  have d6 : w67.heap[P6]? = some (.cells #[.bool ok, .int .i64 g, .int .i64 l, .int .i64 s] 46 (0, 0)) := by rw [hw67, hP6]; exact alloc_new _ _ _
  have d3 := (k67.block _ (Nat.zero_le _) (Array.getElem?_eq_some_iff.1 (show w5.heap[P3]? = _ from HD5)).1).trans (show w5.heap[P3]? = _ from HD5)
  have g0 : w67.cell? ⟨P6, 0, none⟩ = some (.bool ok) := cell_of d6 rfl
  have g1 : w67.cell? ⟨P6, 1, none⟩ = some (.int .i64 g) := cell_of d6 rfl
  have g2 : w67.cell? ⟨P6, 2, none⟩ = some (.int .i64 l) := cell_of d6 rfl
  have g3 : w67.cell? ⟨P6, 3, none⟩ = some (.int .i64 s) := cell_of d6 rfl
  have s0 : w67.cell? ⟨P3, 0, none⟩ = some (.bool ok) := cell_of d3 rfl
  have s1 : w67.cell? ⟨P3, 1, none⟩ = some (.int .i64 g) := cell_of d3 rfl
  have s2 : w67.cell? ⟨P3, 2, none⟩ = some (.int .i64 l) := cell_of d3 rfl
  have s3 : w67.cell? ⟨P3, 3, none⟩ = some (.int .i64 s) := cell_of d3 rfl
  have HK67 : Hid (Kb 0 w5 w67) := k67
  have HW67 : Hid (w67 = w66.alloc (.cells #[.bool ok, .int .i64 g, .int .i64 l, .int .i64 s] 46) ∧ P6 = w66.heap.size) := (⟨hw67, hP6⟩ : _ ∧ _)
  have HEH := eq_head (ok := ok) (g := g) (l := l) (s := s) w67
  clear k66 hP6 hw67 k67 d6 d3
  go_upto_region 8 with fail
  rw [← (show _ ∧ _ from HW67).1, ← (show _ ∧ _ from HW67).2]
  clear HW67
  go_wp2_with fail
  refine HEH.mono ?_
  rintro e w6 ⟨rfl, k676⟩
  have k6 := (show Kb 0 w5 w67 from HK67).trans k676
  clear HEH k676 HK67 g0 g1 g2 g3 s0 s1 s2 s3 HD5
  obtain ⟨kw5, b05, b55, r5⟩ := (show _ ∧ _ ∧ _ ∧ _ from H5)
  have b06 := (k6.block _ (Nat.zero_le _) (Array.getElem?_eq_some_iff.1 b05).1).trans b05
  have b56 := (k6.block _ (Nat.zero_le _) (Array.getElem?_eq_some_iff.1 b55).1).trans b55
  have u0 : ∀ W, Kb 0 w6 W → W.cell? ⟨w.heap.size, 0, none⟩ = some (.slice p1 D.n c1) := fun W k => k.cell (cell_of b06 rfl)
  have u1 : ∀ W, Kb 0 w6 W → W.cell? ⟨w.heap.size, 1, none⟩ = some (.slice p2 D.m c2) := fun W k => k.cell (cell_of b06 rfl)
  have x0 : ∀ W, Kb 0 w6 W → W.cell? ⟨P5, 0, none⟩ = some (.slice q1 D.n d1) := fun W k => k.cell (cell_of b56 rfl)
  have x1 : ∀ W, Kb 0 w6 W → W.cell? ⟨P5, 1, none⟩ = some (.slice q2 D.m d2) := fun W k => k.cell (cell_of b56 rfl)
  have HALL : Hid (∀ W, Kb 0 w6 W → W.cell? ⟨w.heap.size, 0, none⟩ = some (.slice p1 D.n c1) ∧ W.cell? ⟨w.heap.size, 1, none⟩ = some (.slice p2 D.m c2) ∧ W.cell? ⟨P5, 0, none⟩ = some (.slice q1 D.n d1) ∧ W.cell? ⟨P5, 1, none⟩ = some (.slice q2 D.m d2)) := (fun W k => ⟨u0 W k, u1 W k, x0 W k, x1 W k⟩ : ∀ W, _)
  have H6 : Hid (Kb 0 w w6 ∧ RowD 0 w6 (.slice q1 D.n d1) (.slice q2 D.m d2) D) := (⟨kw5.trans k6, r5.keep k6⟩ : _ ∧ _)
  have a0 := u0 w6 (Kb.refl _ _)
  have a1 := u1 w6 (Kb.refl _ _)
  have a2 := x0 w6 (Kb.refl _ _)
  have a3 := x1 w6 (Kb.refl _ _)
  clear kw5 b05 b55 r5 b06 b56 u0 u1 x0 x1 k6 H5
  have HT6 : Hid (∀ W', W'.heap = w6.heap → W'.os = w6.os → W'.output = w6.output → Calls Try.prog 11 #[.agg #[.slice p1 D.n c1, .slice p2 D.m c2]] W' fun e w' => ∃ y1 y2, e = .returned (.agg #[y1, y2]) ∧ RowD 0 w' y1 y2 D ∧ Kb 0 w6 w') := (fun W' h0 h1 h2 => by
    have kk : Kb 0 w6 W' := ⟨h1, h2, by rw [h0]; exact Nat.le_refl _, fun k _ _ => by rw [h0]⟩
    refine ((show ∀ W, Kb 0 w W → _ from HTO) W' ((show _ ∧ _ from H6).1.trans kk)).mono ?_
    rintro e w' ⟨y1, y2, rfl, o, k⟩
    exact ⟨y1, y2, rfl, o.rowD.mono (Nat.zero_le _), kk.trans k⟩ : ∀ W', _)
  go_upto_region 10 with fail
  go_region_held3 (fun W' => W'.cell? ⟨w.heap.size, 0, none⟩ = some (.slice p1 D.n c1) ∧ W'.cell? ⟨w.heap.size, 1, none⟩ = some (.slice p2 D.m c2) ∧ W'.cell? ⟨P5, 0, none⟩ = some (.slice q1 D.n d1) ∧ W'.cell? ⟨P5, 1, none⟩ = some (.slice q2 D.m d2)) (first | exact ⟨a0, a1, a2, a3⟩ | exact (show ∀ W, Kb 0 w6 W → _ from HALL) _ k7 | exact (show ∀ W, Kb 0 w6 W → _ from HALL) _ k8) ((first | (go_at_call 11; refine ((show ∀ W', _ from HT6) _ (by exact rfl) (by exact rfl) (by exact rfl)).mono ?_; rintro e w7 ⟨y1, y2, rfl, r7, k7⟩) | (go_at_call 14; refine ((show ∀ (W : World) x1 x2 y1 y2, _ from HEQ) _ _ _ _ _ ((show _ ∧ _ from H6).2.keep k7) r7).mono ?_; rintro e w8 ⟨rfl, k78⟩; have k8 := k7.trans k78)))
  all_goals
    have HF : Hid (Kb 0 w w8) := (show _ ∧ _ from H6).1.trans k8
    clear r7 k7 k8 k78 H6 HALL HT6 HTO HEQ a0 a1 a2 a3
    go_wp2_with fail
    go_ret
    exact ⟨rfl, HF⟩
end Go.Proofs.Ytiojjejphdhpeaa.Fo
