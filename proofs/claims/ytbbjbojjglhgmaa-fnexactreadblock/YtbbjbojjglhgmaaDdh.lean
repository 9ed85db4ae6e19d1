import Derived.Test.YtbbjbojjglhgmaaDdg
import Derived.Test.YtbbjbojjglhgmaaDag
import Derived.Test.YtbbjbojjglhgmaaDch
import Derived.Deep.RegionHeld3
namespace Go.Proofs.Ytbbjbojjglhgmaa.Fo
open Go.ChangeShapes Go.WideShapes Go.ChangeAt Go.RowKit
set_option linter.unusedVariables false
set_option maxRecDepth 100000
/-- what ReadBlock leaves -/
def RdP (N : Nat) (A : Nat → Int) (w : World) (e : Ending) (w' : World) : Prop := ∃ v g, e = .returned v ∧ OwnR w' v g N (ub A) ∧ (0 < N → w.heap.size ≤ g ∧ g < w'.heap.size) ∧ Kb 0 w w'
theorem rd_nil {A : Nat → Int} (w : World) : OwnR w (.slice none 0 0) 0 0 (ub A) := ⟨⟨none, 0, rfl, fun h => by omega⟩, fun i hi => by omega, fun h => by omega⟩
theorem rd_any {D : Dd} (b : Int) (hd : BdD D) : ∃ (N : Nat) (A : Nat → Int), N ≤ 64 ∧ (∀ v1 v2 w, RowD 0 w v1 v2 D → Calls Try.prog 36 #[.agg #[v1, v2], .int .i64 b] w (RdP N A w)) ∧ (∀ v1 v2 w, RowD 0 w v1 v2 D → Calls Try.prog 37 #[.agg #[v1, v2], .int .i64 b] w (RdP N A w)) := by
  by_cases h : Rbk D b
  · refine ⟨64, rbA D b, by omega, fun v1 v2 w ha => (sp_read_yes b w ha hd h).mono ?_, fun v1 v2 w ha => (im_read_yes b w ha hd h).mono ?_⟩
    · rintro e w' ⟨v, g, e1, o1, l1, k1⟩
      exact ⟨v, g, e1, o1, fun _ => l1, k1⟩
    · rintro e w' ⟨g, e1, o1, l1, k1⟩
      exact ⟨_, g, e1, o1, fun _ => l1, k1⟩
  · refine ⟨0, fun _ => 0, by omega, fun v1 v2 w ha => (sp_read_no b w ha hd h).mono ?_, fun v1 v2 w ha => (im_read_no b w ha hd h).mono ?_⟩
    · rintro e w' ⟨e1, k1⟩
      exact ⟨_, 0, e1, rd_nil w', fun q => by omega, k1⟩
    · rintro e w' ⟨e1, k1⟩
      exact ⟨_, 0, e1, rd_nil w', fun q => by omega, k1⟩
set_option maxHeartbeats 16000000 in
theorem law_read {v1 v2 : Value} {D : Dd} (b : Int) (w : World) (ha : RowD 0 w v1 v2 D) (hn : (D.n : Int) < 140737488355328) (hB : ∀ i, i < D.n → ((D.B i).c : Int) < 140737488355328) (hm : (D.m : Int) < 140737488355328) (hQ : ∀ i, i < D.m → ((D.Q i).c : Int) < 140737488355328) :
    Calls Try.prog 8 #[.agg #[v1, v2], .int .i64 b] w fun e w' => e = .returned (.bool true) ∧ Kb 0 w w' := by
  obtain ⟨⟨p1, c1, rfl, -⟩, ⟨p2, c2, rfl, -⟩⟩ := id ha
  obtain ⟨w0, hw0⟩ : ∃ w0, w0 = w.alloc (.cells #[.slice p1 D.n c1, .slice p2 D.m c2] 47) := ⟨_, rfl⟩
  have k0 : Kb 0 w w0 := by rw [hw0]; exact kb_alloc _ _ _
  have b0 : w0.heap[w.heap.size]? = some (.cells #[.slice p1 D.n c1, .slice p2 D.m c2] 47 (0, 0)) := by rw [hw0]; exact alloc_new _ _ _
  have HS := sz_disk w0 1048576 (ha.keep k0) hn hB hm hQ (by omega) (by omega)
  have u0 : w0.cell? ⟨w.heap.size, 0, none⟩ = some (.slice p1 D.n c1) := cell_of b0 rfl
  have u1 : w0.cell? ⟨w.heap.size, 1, none⟩ = some (.slice p2 D.m c2) := cell_of b0 rfl
  have HB : Hid (Kb 0 w w0 ∧ w0.heap[w.heap.size]? = some (.cells #[.slice p1 D.n c1, .slice p2 D.m c2] 47 (0, 0)) ∧ w.heap.size < w0.heap.size ∧ RowD 0 w (.slice p1 D.n c1) (.slice p2 D.m c2) D) := (⟨k0, b0, by rw [hw0]; simp, ha⟩ : _ ∧ _)
  have HW0 : Hid (w0 = _) := hw0
  clear hw0 k0 b0 hn hB hm hQ ha
  go_enter Try.func8, Try.ntmps8
  go_upto_region 2 with fail
  rw [← (show w0 = _ from HW0)]
  clear HW0
  go_wp2_with fail
  refine HS.mono ?_
  rintro e w1 ⟨r, rfl, hr1, hr2, hr3, k1⟩
  clear HS
  obtain ⟨k0, b0, z0, ha⟩ := (show _ ∧ _ ∧ _ ∧ _ from HB)
  rcases Int.lt_or_le r 0 with h | h
  · have HF : Hid (Kb 0 w w1) := k0.trans k1
    clear HB k0 b0 z0 ha k1 hr1 u0 u1
    go_wp2_with fail
    go_ret
    exact ⟨rfl, HF⟩
  have h' : ¬ r < 0 := by omega
  have hbd : BdD D := bd_of (by have := hr1 h; omega)
  have b1 := (k1.block _ (Nat.zero_le _) z0).trans b0
  have kw1 := k0.trans k1
  have HTO : Hid (∀ W, Kb 0 w W → Calls Try.prog 30 #[.agg #[.slice p1 D.n c1, .slice p2 D.m c2]] W fun e w' => ∃ x1 x2, e = .returned (.agg #[x1, x2]) ∧ OwD W.heap.size w'.heap.size w' x1 x2 D ∧ Kb 0 W w') := (fun W k => to_disk W (ha.keep k) hbd : ∀ W, _)
  have HEQ : Hid (∀ (W : World) x1 x2 y1 y2, RowD 0 W x1 x2 D → RowD 0 W y1 y2 D → Calls Try.prog 25 #[.agg #[x1, x2], .agg #[y1, y2]] W fun e w' => e = .returned (.bool true) ∧ Kb 0 W w') := (fun W x1 x2 y1 y2 h1 h2 => eq_disk W h1 h2 hbd : ∀ (W : World) x1 x2 y1 y2, _)
  have HBD : Hid (BdD D) := hbd
  have H1 : Hid (Kb 0 w w1 ∧ w1.heap[w.heap.size]? = some (.cells #[.slice p1 D.n c1, .slice p2 D.m c2] 47 (0, 0)) ∧ w.heap.size < w1.heap.size) := (⟨kw1, b1, by have := k1.size; omega⟩ : _ ∧ _)
  obtain ⟨N, A, hN64, hSP, hIM⟩ := rd_any b (show BdD D from HBD)
  have HSP : Hid (∀ v1 v2 w, RowD 0 w v1 v2 D → Calls Try.prog 36 #[.agg #[v1, v2], .int .i64 b] w (RdP N A w)) := hSP
  have HIM : Hid (∀ v1 v2 w, RowD 0 w v1 v2 D → Calls Try.prog 37 #[.agg #[v1, v2], .int .i64 b] w (RdP N A w)) := hIM
  clear hSP hIM
  have HEB : Hid (∀ (W : World) v v', RowV W v N (ub A) → RowV W v' N (ub A) → Calls Try.prog 19 #[v, v'] W fun e w' => e = .returned (.bool true) ∧ Kb 0 W w') := (fun W v v' h1 h2 => eq_bytsK W h1.rowB h2.rowB (by omega) : ∀ (W : World) v v', _)
  have HT1 := (show ∀ W, Kb 0 w W → _ from HTO) w1 kw1
  clear u0 u1
  have u0 : w1.cell? ⟨w.heap.size, 0, none⟩ = some (.slice p1 D.n c1) := cell_of b1 rfl
  have u1 : w1.cell? ⟨w.heap.size, 1, none⟩ = some (.slice p2 D.m c2) := cell_of b1 rfl
  clear HB k0 b0 z0 ha k1 hr1 hbd b1 kw1
  go_wp2_with fail
  refine HT1.mono ?_
  rintro e w2 ⟨x1, x2, rfl, o2, k2⟩
  obtain ⟨q1, d1, q2, d2, rfl, rfl⟩ := o2.shape
  have HS2 := (show ∀ v1 v2 w, _ from HSP) _ _ w2 (o2.rowD.mono (Nat.zero_le _))
  have H2 : Hid (Kb 0 w1 w2) := k2
  clear HT1 o2 k2 u0 u1
  go_wp2_with fail
  refine HS2.mono ?_
  rintro e w3 ⟨vs, gs, rfl, os3, ls3, k3⟩
  obtain ⟨ps, cs, rfl, -⟩ := id os3.sl
  obtain ⟨kw1, b1, z1⟩ := (show _ ∧ _ ∧ _ from H1)
  have k13 := (show Kb 0 w1 w2 from H2).trans k3
  have b3 := (k13.block _ (Nat.zero_le _) z1).trans b1
  have kw3 := kw1.trans k13
  have HT3 := (show ∀ W, Kb 0 w W → _ from HTO) w3 kw3
  have u0 : w3.cell? ⟨w.heap.size, 0, none⟩ = some (.slice p1 D.n c1) := cell_of b3 rfl
  have u1 : w3.cell? ⟨w.heap.size, 1, none⟩ = some (.slice p2 D.m c2) := cell_of b3 rfl
  have H3 : Hid (Kb 0 w w3 ∧ w3.heap[w.heap.size]? = some (.cells #[.slice p1 D.n c1, .slice p2 D.m c2] 47 (0, 0)) ∧ w.heap.size < w3.heap.size ∧ OwnR w3 (.slice ps N cs) gs N (ub A) ∧ (0 < N → gs < w3.heap.size)) := (⟨kw3, b3, by have := k13.size; omega, os3, fun h => (ls3 h).2⟩ : _ ∧ _)
  clear HS2 H1 H2 kw1 b1 z1 k13 b3 kw3 k3 os3 ls3
  go_wp2_with fail
  refine HT3.mono ?_
  rintro e w4 ⟨x1, x2, rfl, o4, k4⟩
  obtain ⟨q1, d1, q2, d2, rfl, rfl⟩ := o4.shape
  clear u0 u1 HT3
  obtain ⟨P5, hP5⟩ : ∃ P5, P5 = w4.heap.size := ⟨_, rfl⟩
  obtain ⟨w5, hw5⟩ : ∃ w5, w5 = w4.alloc (.cells #[.slice q1 D.n d1, .slice q2 D.m d2] 40) := ⟨_, rfl⟩
  have k45 : Kb 0 w4 w5 := by rw [hw5]; exact kb_alloc _ _ _
  have b5 : w5.heap[P5]? = some (.cells #[.slice q1 D.n d1, .slice q2 D.m d2] 40 (0, 0)) := by rw [hw5, hP5]; exact alloc_new _ _ _
  have z5 : w5.heap.size = P5 + 1 := by rw [hw5, hP5]; exact World.size_alloc _ _
  have z34 := k4.size
  have o5 : OwD w3.heap.size P5 w5 (.slice q1 D.n d1) (.slice q2 D.m d2) D := by rw [hP5]; exact o4.block (fun q _ h2 => k45.block q (Nat.zero_le _) h2)
  have r5 := (o4.rowD.mono (Nat.zero_le _)).keep k45
  have HI5 := (show ∀ v1 v2 w, _ from HIM) _ _ w5 r5
  have H5 : Hid (Kb 0 w3 w5 ∧ w5.heap[P5]? = some (.cells #[.slice q1 D.n d1, .slice q2 D.m d2] 40 (0, 0)) ∧ w5.heap.size = P5 + 1 ∧ w3.heap.size ≤ P5 ∧ OwD w3.heap.size P5 w5 (.slice q1 D.n d1) (.slice q2 D.m d2) D ∧ RowD 0 w5 (.slice q1 D.n d1) (.slice q2 D.m d2) D) := (⟨k4.trans k45, b5, z5, by omega, o5, r5⟩ : _ ∧ _)
  have x0 : w5.cell? ⟨P5, 0, none⟩ = some (.slice q1 D.n d1) := cell_of b5 rfl
  have x1 : w5.cell? ⟨P5, 1, none⟩ = some (.slice q2 D.m d2) := cell_of b5 rfl
  have HW5 : Hid (w5 = w4.alloc (.cells #[.slice q1 D.n d1, .slice q2 D.m d2] 40) ∧ P5 = w4.heap.size) := (⟨hw5, hP5⟩ : _ ∧ _)
  clear o4 k4 hP5 hw5 k45 b5 z5 z34 o5 r5
  go_upto_region 7 with fail
  rw [← (show _ ∧ _ from HW5).1, ← (show _ ∧ _ from HW5).2]
  clear HW5
  go_wp2_with fail
  refine HI5.mono ?_
  rintro e w6 ⟨vg, gg, rfl, og6, lg6, k6⟩
  obtain ⟨pg, cg, rfl, -⟩ := id og6.sl
  clear HI5 x0 x1
  obtain ⟨kw3, b3, z3, os3, ls3⟩ := (show _ ∧ _ ∧ _ ∧ _ ∧ _ from H3)
  obtain ⟨k35, b5, z5, zl, o5, r5⟩ := (show _ ∧ _ ∧ _ ∧ _ ∧ _ ∧ _ from H5)
  have k36 := k35.trans k6
  have zz6 := k6.size
  have os6 : OwnR w6 (.slice ps N cs) gs N (ub A) := os3.kb (fun h => k36.block gs (Nat.zero_le _) (ls3 (by omega)))
  have HE6 := (show ∀ (W : World) v v', _ from HEB) w6 _ _ og6.row os6.row
  have H6 : Hid (Kb 0 w w6 ∧ Kb 0 w3 w6 ∧ Kb 0 w5 w6 ∧ OwnR w6 (.slice pg N cg) gg N (ub A) ∧ (0 < N → P5 < gg ∧ gg < w6.heap.size)) := (⟨kw3.trans k36, k36, k6, og6, fun h => by have := lg6 h; omega⟩ : _ ∧ _)
  clear kw3 b3 z3 os3 ls3 k35 b5 z5 zl o5 r5 k36 zz6 os6 og6 lg6 k6
  go_wp2_with fail
  refine HE6.mono ?_
  rintro e w7 ⟨rfl, k7⟩
  clear HE6
  obtain ⟨kw6, k36, k56, og6, lg6⟩ := (show _ ∧ _ ∧ _ ∧ _ ∧ _ from H6)
  obtain ⟨kw3, b3, z3, os3, ls3⟩ := (show _ ∧ _ ∧ _ ∧ _ ∧ _ from H3)
  obtain ⟨k35, b5, z5, zl, o5, r5⟩ := (show _ ∧ _ ∧ _ ∧ _ ∧ _ ∧ _ from H5)
  have kw7 := kw6.trans k7
  have b07 := ((k36.trans k7).block _ (Nat.zero_le _) z3).trans b3
  have b57 := ((k56.trans k7).block P5 (Nat.zero_le _) (by omega)).trans b5
  have HALL : Hid (∀ W, Kb 0 w7 W → W.cell? ⟨w.heap.size, 0, none⟩ = some (.slice p1 D.n c1) ∧ W.cell? ⟨w.heap.size, 1, none⟩ = some (.slice p2 D.m c2) ∧ W.cell? ⟨P5, 0, none⟩ = some (.slice q1 D.n d1) ∧ W.cell? ⟨P5, 1, none⟩ = some (.slice q2 D.m d2)) := (fun W k => ⟨k.cell (cell_of b07 rfl), k.cell (cell_of b07 rfl), k.cell (cell_of b57 rfl), k.cell (cell_of b57 rfl)⟩ : ∀ W, _)
  obtain ⟨a0, a1, a2, a3⟩ := (show ∀ W, Kb 0 w7 W → _ from HALL) w7 (Kb.refl _ _)
  have H7 : Hid (Kb 0 w w7 ∧ RowD 0 w7 (.slice q1 D.n d1) (.slice q2 D.m d2) D ∧ Kb 0 w6 w7) := (⟨kw7, r5.keep (k56.trans k7), k7⟩ : _ ∧ _)
  have HT7 : Hid (∀ W', W'.heap = w7.heap → W'.os = w7.os → W'.output = w7.output → Calls Try.prog 30 #[.agg #[.slice p1 D.n c1, .slice p2 D.m c2]] W' fun e w' => ∃ y1 y2, e = .returned (.agg #[y1, y2]) ∧ RowD 0 w' y1 y2 D ∧ Kb 0 w7 w') := (fun W' h0 h1 h2 => by
    have kk : Kb 0 w7 W' := ⟨h1, h2, by rw [h0]; exact Nat.le_refl _, fun k _ _ => by rw [h0]⟩
    refine ((show ∀ W, Kb 0 w W → _ from HTO) W' (kw7.trans kk)).mono ?_
    rintro e w' ⟨y1, y2, rfl, o, k⟩
    exact ⟨y1, y2, rfl, o.rowD.mono (Nat.zero_le _), kk.trans k⟩ : ∀ W', _)
  clear kw6 k36 k56 og6 lg6 kw3 b3 z3 os3 ls3 k35 b5 z5 zl o5 r5 kw7 b07 b57 k7
  go_upto_region 10 with fail
  go_region_held3 (fun W' => W'.cell? ⟨w.heap.size, 0, none⟩ = some (.slice p1 D.n c1) ∧ W'.cell? ⟨w.heap.size, 1, none⟩ = some (.slice p2 D.m c2) ∧ W'.cell? ⟨P5, 0, none⟩ = some (.slice q1 D.n d1) ∧ W'.cell? ⟨P5, 1, none⟩ = some (.slice q2 D.m d2)) (first | exact ⟨a0, a1, a2, a3⟩ | exact (show ∀ W, Kb 0 w7 W → _ from HALL) _ k77 | exact (show ∀ W, Kb 0 w7 W → _ from HALL) _ k8) ((first | (go_at_call 30; refine ((show ∀ W', _ from HT7) _ (by exact rfl) (by exact rfl) (by exact rfl)).mono ?_; rintro e w77 ⟨y1, y2, rfl, r77, k77⟩) | (go_at_call 25; refine ((show ∀ (W : World) x1 x2 y1 y2, _ from HEQ) _ _ _ _ _ ((show _ ∧ _ ∧ _ from H7).2.1.keep k77) r77).mono ?_; rintro e w8 ⟨rfl, k78⟩; have k8 := k77.trans k78)))
  all_goals
    have H8 : Hid (Kb 0 w6 w8) := (show _ ∧ _ ∧ _ from H7).2.2.trans k8
    clear r77 k77 k8 k78 H7 HALL HT7 a0 a1 a2 a3
    obtain ⟨kw6, k36, k56, og6, lg6⟩ := (show _ ∧ _ ∧ _ ∧ _ ∧ _ from H6)
    obtain ⟨k35, b5, z5, zl, o5, r5⟩ := (show _ ∧ _ ∧ _ ∧ _ ∧ _ ∧ _ from H5)
    have k68 := (show Kb 0 w6 w8 from H8)
    have k58 := k56.trans k68
    have z58 := k58.size
    have b58 := (k58.block P5 (Nat.zero_le _) (by omega)).trans b5
    have HM := mark_disk w8 1 (o5.block (fun q _ h2 => k58.block q (Nat.zero_le _) (by omega))) (by omega) HBD (by omega) (by omega)
    obtain ⟨KG, hKG⟩ : ∃ KG : Int, KG = 1 + (dmk D : Int) := ⟨_, rfl⟩
    rw [← hKG] at HM
    have hKG0 : ¬ KG < 0 := by omega
    have x0 : w8.cell? ⟨P5, 0, none⟩ = some (.slice q1 D.n d1) := cell_of b58 rfl
    have x1 : w8.cell? ⟨P5, 1, none⟩ = some (.slice q2 D.m d2) := cell_of b58 rfl
    clear kw6 k36 k56 og6 lg6 k35 b5 z5 zl o5 r5 k68 k58 z58 b58 hKG
    go_wp2_with fail
    refine HM.mono ?_
    rintro e w9 ⟨rfl, kq9, -⟩
    clear HM x0 x1
    obtain ⟨kw6, k36, k56, og6, lg6⟩ := (show _ ∧ _ ∧ _ ∧ _ ∧ _ from H6)
    obtain ⟨kw3, b3, z3, os3, ls3⟩ := (show _ ∧ _ ∧ _ ∧ _ ∧ _ from H3)
    obtain ⟨k35, b5, z5, zl, o5, r5⟩ := (show _ ∧ _ ∧ _ ∧ _ ∧ _ ∧ _ from H5)
    have k68 := (show Kb 0 w6 w8 from H8)
    have k39 : Kb 0 w3 w9 := (k36.trans k68).mkB kq9 (fun q hq => .inr hq.1)
    have k69 : Kb P5 w6 w9 := (k68.low (Nat.zero_le _)).mkB kq9 (fun q hq => .inl hq.2)
    have og9 : OwnR w9 (.slice pg N cg) gg N (ub A) := og6.kb (fun h => k69.block gg (by have := lg6 (by omega); omega) (lg6 (by omega)).2)
    have os9 : OwnR w9 (.slice ps N cs) gs N (ub A) := os3.kb (fun h => k39.block gs (Nat.zero_le _) (ls3 (by omega)))
    have z69 := k69.size
    have HE9 := (show ∀ (W : World) v v', _ from HEB) w9 _ _ og9.row os9.row
    have H9 : Hid (Kb 0 w3 w9 ∧ OwnR w9 (.slice pg N cg) gg N (ub A) ∧ (0 < N → w3.heap.size ≤ gg ∧ gg < w9.heap.size)) := (⟨k39, og9, fun h => by have := lg6 h; omega⟩ : _ ∧ _)
    clear kw6 k36 k56 og6 lg6 kw3 b3 z3 os3 ls3 k35 b5 z5 zl o5 r5 k68 k39 k69 og9 os9 z69 kq9 H5 H6 H8
    go_wp2_with fail
    refine HE9.mono ?_
    rintro e w10 ⟨rfl, k10⟩
    clear HE9
    obtain ⟨k39, og9, lg9⟩ := (show _ ∧ _ ∧ _ from H9)
    have HM := mark_byts w10 1 (og9.kb (fun h => k10.block gg (Nat.zero_le _) (lg9 (by omega)).2)) (by omega) (by omega) (by omega)
    obtain ⟨KB, hKB⟩ : ∃ KB : Int, KB = 1 + (N : Int) := ⟨_, rfl⟩
    rw [← hKB] at HM
    have hKB0 : ¬ KB < 0 := by omega
    have hKB1 : (KB != KB) = false := by simp
    have HKB : Hid (KB = 1 + (N : Int)) := hKB
    have H10 : Hid (Kb 0 w3 w10 ∧ (0 < N → w3.heap.size ≤ gg ∧ gg < w10.heap.size)) := (⟨k39.trans k10, fun h => by have := lg9 h; have := k10.size; omega⟩ : _ ∧ _)
    clear k39 og9 lg9 k10 hKB H9
    go_wp2_with fail
    refine HM.mono ?_
    rintro e w11 ⟨rfl, kq11, md11⟩
    clear HM
    obtain ⟨k310, lg10⟩ := (show _ ∧ _ from H10)
    have k311 : Kb 0 w3 w11 := k310.mkB kq11 (fun q hq => .inr (by have := lg10 hq.1; omega))
    have z11 := kq11.size
    have HHB : Hid (∀ W, Kb 0 w11 W → Calls Try.prog 38 #[.slice pg N cg, .int .i64 1] W fun e w' => e = .returned (.int .i64 KB) ∧ Kb 0 W w') := (fun W k => by
      rw [show KB = _ from HKB]
      exact (held_byts W 1 (md11.kb (fun h => k.block gg (Nat.zero_le _) (by have := lg10 (by omega); omega))).row (by omega) (by omega) (by omega)).mono (fun e w' ⟨h1, h2⟩ => ⟨h1, kb_drewN h2⟩) : ∀ W, _)
    have HH11 := (show ∀ W, Kb 0 w11 W → _ from HHB) w11 (Kb.refl _ _)
    have H11 : Hid (Kb 0 w3 w11) := k311
    clear k310 lg10 k311 z11 kq11 md11 H10
    go_wp2_with fail
    refine HH11.mono ?_
    rintro e w12 ⟨rfl, k12⟩
    clear HH11
    obtain ⟨kw3, b3, z3, os3, ls3⟩ := (show _ ∧ _ ∧ _ ∧ _ ∧ _ from H3)
    have k312 := (show Kb 0 w3 w11 from H11).trans k12
    have b12 := (k312.block _ (Nat.zero_le _) z3).trans b3
    have HT12 := (show ∀ W, Kb 0 w W → _ from HTO) w12 (kw3.trans k312)
    have u0 : w12.cell? ⟨w.heap.size, 0, none⟩ = some (.slice p1 D.n c1) := cell_of b12 rfl
    have u1 : w12.cell? ⟨w.heap.size, 1, none⟩ = some (.slice p2 D.m c2) := cell_of b12 rfl
    have H12 : Hid (Kb 0 w11 w12) := k12
    clear kw3 b3 z3 os3 ls3 k312 b12 k12
    go_wp2_with fail
    refine HT12.mono ?_
    rintro e w13 ⟨x1, x2, rfl, o13, k13⟩
    obtain ⟨r1, f1, r2, f2, rfl, rfl⟩ := o13.shape
    have HI13 := (show ∀ v1 v2 w, _ from HIM) _ _ w13 (o13.rowD.mono (Nat.zero_le _))
    have H13 : Hid (Kb 0 w11 w13) := (show Kb 0 w11 w12 from H12).trans k13
    clear HT12 o13 k13 u0 u1 H12
    go_wp2_with fail
    refine HI13.mono ?_
    rintro e w14 ⟨vh, gh, rfl, oh14, lh14, k14⟩
    obtain ⟨ph, ch, rfl, -⟩ := id oh14.sl
    clear HI13
    obtain ⟨kw3, b3, z3, os3, ls3⟩ := (show _ ∧ _ ∧ _ ∧ _ ∧ _ from H3)
    have k1114 := (show Kb 0 w11 w13 from H13).trans k14
    have k314 := (show Kb 0 w3 w11 from H11).trans k1114
    have HE14 := (show ∀ (W : World) v v', _ from HEB) w14 _ _ oh14.row (os3.kb (fun h => k314.block gs (Nat.zero_le _) (ls3 (by omega)))).row
    have H14 : Hid (Kb 0 w w14 ∧ Kb 0 w11 w14) := (⟨kw3.trans k314, k1114⟩ : _ ∧ _)
    clear kw3 b3 z3 os3 ls3 k1114 k314 oh14 lh14 k14 H13
    go_wp2_with fail
    refine HE14.mono ?_
    rintro e w15 ⟨rfl, k15⟩
    clear HE14
    obtain ⟨kw14, k1114⟩ := (show _ ∧ _ from H14)
    have HH15 := (show ∀ W, Kb 0 w11 W → _ from HHB) w15 (k1114.trans k15)
    have H15 : Hid (Kb 0 w w15) := kw14.trans k15
    clear kw14 k1114 k15 H14 H11 H3 HHB HTO HEQ HEB HSP HIM
    go_wp2_with fail
    refine HH15.mono ?_
    rintro e w16 ⟨rfl, k16⟩
    have HF : Hid (Kb 0 w w16) := (show Kb 0 w w15 from H15).trans k16
    clear HH15 H15 k16
    go_wp2_with fail
    go_ret
    exact ⟨rfl, HF⟩
end Go.Proofs.Ytbbjbojjglhgmaa.Fo
