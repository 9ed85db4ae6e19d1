import Derived.Test.YtaggciimacanbaaMDjd
namespace Go.Proofs.Ytaggciimacanbaa.Fo
open Go.ChangeShapes Go.WideShapes Go.ChangeAt Go.RowKit
set_option linter.unusedVariables false
set_option maxRecDepth 100000
set_option linter.unusedSimpArgs false
noncomputable def nsel (X Y : Ki) : Ki := if dc (Y.ok = true ∧ (X.ok = false ∨ X.G < Y.G)) = true then Y else X
theorem nsel_t {X Y : Ki} (h : Y.ok = true ∧ (X.ok = false ∨ X.G < Y.G)) : nsel X Y = Y := by unfold nsel; rw [if_pos (dc_t h)]
theorem nsel_f {X Y : Ki} (h : ¬ (Y.ok = true ∧ (X.ok = false ∨ X.G < Y.G))) : nsel X Y = X := by unfold nsel; rw [dc_f h]; rfl
theorem xk_nsel {Y : Nat → Ki} (h0 : (Y 0).ok = true → 1 ≤ (Y 0).G) (h0' : (Y 0).ok = false → Y 0 = zK) (h1 : (Y 1).ok = true → 1 ≤ (Y 1).G) (h1' : (Y 1).ok = false → Y 1 = zK) : xk Y 2 = nsel (Y 0) (Y 1) := by
  have e1 : xk Y 1 = Y 0 := by
    show (if zK.G < (Y 0).G then Y 0 else zK) = Y 0
    cases h : (Y 0).ok with
    | true => exact if_pos (by have := h0 h; show (0 : Int) < _; omega)
    | false => rw [h0' h]; exact ite_self _
  show (if (xk Y 1).G < (Y 1).G then Y 1 else xk Y 1) = _
  rw [e1]
  cases hb : (Y 1).ok with
  | false =>
    rw [nsel_f (fun q => by rw [hb] at q; cases q.1), h1' hb]
    refine if_neg ?_
    show ¬ (Y 0).G < 0
    cases ha : (Y 0).ok with
    | true => have := h0 ha; omega
    | false => rw [h0' ha]; show ¬ (0 : Int) < 0; omega
  | true =>
    cases ha : (Y 0).ok with
    | false =>
      rw [nsel_t ⟨hb, .inl ha⟩]
      refine if_pos ?_
      rw [h0' ha]
      have := h1 hb
      show (0 : Int) < _
      omega
    | true =>
      by_cases hl : (Y 0).G < (Y 1).G
      · rw [nsel_t ⟨hb, .inr hl⟩, if_pos hl]
      · rw [nsel_f (fun q => by rcases q.2 with r | r; rw [ha] at r; cases r; exact hl r), if_neg hl]
set_option maxHeartbeats 16000000 in
theorem sp_lnew {v1 v2 : Value} {D : Dd} {X Y : Ki} (w : World) (ha : RowD 0 w v1 v2 D) (hX : ∀ x1 x2 W, RowD 0 W x1 x2 D → Calls Try.prog 98 #[.agg #[x1, x2], .int .i64 0] W (KP X W)) (hY : ∀ x1 x2 W, RowD 0 W x1 x2 D → Calls Try.prog 98 #[.agg #[x1, x2], .int .i64 1] W (KP Y W)) :
    Calls Try.prog 62 #[.agg #[v1, v2]] w (KP (nsel X Y) w) := by
  obtain ⟨⟨p1, c1, rfl, -⟩, ⟨p2, c2, rfl, -⟩⟩ := id ha
  obtain ⟨w1, hw1⟩ : ∃ w1, w1 = w.alloc (.cells #[.slice p1 D.n c1, .slice p2 D.m c2] 30) := ⟨_, rfl⟩
  obtain ⟨w2, hw2⟩ : ∃ w2, w2 = w1.alloc (.cells #[.bool false, .int .i64 0, .int .i64 0, .slice none 0 0] 51) := ⟨_, rfl⟩
  have k1 : Kb 0 w w1 := by rw [hw1]; exact kb_alloc _ _ _
  have b1 : w1.heap[w.heap.size]? = some (.cells #[.slice p1 D.n c1, .slice p2 D.m c2] 30 (0, 0)) := by rw [hw1]; exact alloc_new _ _ _
  have z1 : w1.heap.size = w.heap.size + 1 := by rw [hw1]; exact World.size_alloc _ _
  have k2 : Kb 0 w1 w2 := by rw [hw2]; exact kb_alloc _ _ _
  have b2 : w2.heap[w.heap.size + 1]? = some (.cells #[.bool false, .int .i64 0, .int .i64 0, .slice none 0 0] 51 (0, 0)) := by rw [hw2, ← z1]; exact alloc_new _ _ _
  have z2 : w2.heap.size = w.heap.size + 2 := by rw [hw2, World.size_alloc, z1]
  have b12 := (k2.block _ (Nat.zero_le _) (by omega)).trans b1
  have u0 : w2.cell? ⟨w.heap.size, 0, none⟩ = some (.slice p1 D.n c1) := cell_of b12 rfl
  have u1 : w2.cell? ⟨w.heap.size, 1, none⟩ = some (.slice p2 D.m c2) := cell_of b12 rfl
  have kw2 := k1.trans k2
  have HB : Hid (Kb 0 w w2 ∧ w2.heap[w.heap.size + 1]? = some (.cells #[.bool false, .int .i64 0, .int .i64 0, .slice none 0 0] 51 (0, 0)) ∧ w2.heap.size = w.heap.size + 2) := (⟨kw2, b2, z2⟩ : _ ∧ _)
  have HW2 : Hid (w2 = (w.alloc (.cells #[.slice p1 D.n c1, .slice p2 D.m c2] 30)).alloc (.cells #[.bool false, .int .i64 0, .int .i64 0, .slice none 0 0] 51)) := (by rw [hw2, hw1] : w2 = _)
  have HAC := hX _ _ w2 (ha.keep kw2)
  have HBX : Hid (∀ W, Kb 0 w2 W → Calls Try.prog 98 #[.agg #[.slice p1 D.n c1, .slice p2 D.m c2], .int .i64 1] W (KP Y W)) := (fun W k => hY _ _ W (ha.keep (kw2.trans k)) : ∀ W, _)
  have HU : Hid (∀ W, Kb 0 w2 W → W.cell? ⟨w.heap.size, 0, none⟩ = some (.slice p1 D.n c1) ∧ W.cell? ⟨w.heap.size, 1, none⟩ = some (.slice p2 D.m c2)) := (fun W k => ⟨k.cell u0, k.cell u1⟩ : ∀ W, _)
  clear hw1 hw2 k1 b1 z1 k2 b2 z2 b12 kw2 ha hX hY
  go_enter Try.func62, Try.ntmps62
  go_upto_region 1 with fail
  rw [← (show w2 = _ from HW2)]
  clear HW2
  go_wp2_with fail
  refine HAC.mono ?_
  rintro e wta ⟨va, ga, rfl, oa, hga, ka⟩
  obtain ⟨pa, ca, rfl, -⟩ := oa.sl
  obtain ⟨ao, hao⟩ : ∃ x, x = X.ok := ⟨_, rfl⟩
  obtain ⟨ag, hag⟩ : ∃ x, x = X.G := ⟨_, rfl⟩
  obtain ⟨sa, has⟩ : ∃ x, x = X.sl := ⟨_, rfl⟩
  obtain ⟨na, han⟩ : ∃ x, x = X.N := ⟨_, rfl⟩
  rw [← hao, ← hag, ← has, ← han]
  obtain ⟨P3, hP3⟩ : ∃ P, P = wta.heap.size := ⟨_, rfl⟩
  obtain ⟨w3, hw3⟩ : ∃ W, W = wta.alloc (.cells #[.bool ao, .int .i64 ag, .int .i64 sa, .slice pa na ca] 51) := ⟨_, rfl⟩
  have kax : Kb 0 wta w3 := by rw [hw3]; exact kb_alloc _ _ _
  have ab : w3.heap[P3]? = some (.cells #[.bool ao, .int .i64 ag, .int .i64 sa, .slice pa na ca] 51 (0, 0)) := by rw [hw3, hP3]; exact alloc_new _ _ _
  have zw3 : w3.heap.size = P3 + 1 := by rw [hw3, World.size_alloc, hP3]
  have k23 := ka.trans kax
  have oa3 := oa.block (W' := w3) (fun hn => kax.block ga (Nat.zero_le _) (hga hn).2)
  obtain ⟨u0', u1'⟩ := (show ∀ W, Kb 0 w2 W → _ from HU) w3 k23
  have HBC := (show ∀ W, Kb 0 w2 W → _ from HBX) w3 k23
  have H3 : Hid (Kb 0 w2 w3 ∧ w3.heap[P3]? = some (.cells #[.bool ao, .int .i64 ag, .int .i64 sa, .slice pa na ca] 51 (0, 0)) ∧ P3 < w3.heap.size ∧ OwnR w3 (.slice pa na ca) ga X.N (ub X.A) ∧ (0 < X.N → w2.heap.size ≤ ga ∧ ga < w3.heap.size)) := (⟨k23, ab, by omega, by rw [han]; exact oa3, fun hn => ⟨(hga hn).1, by have := (hga hn).2; have := kax.size; omega⟩⟩ : _ ∧ _)
  have HEA : Hid (ao = X.ok ∧ ag = X.G ∧ sa = X.sl) := (⟨hao, hag, has⟩ : _ ∧ _)
  have HW3 : Hid (w3 = wta.alloc (.cells #[.bool ao, .int .i64 ag, .int .i64 sa, .slice pa na ca] 51) ∧ P3 = wta.heap.size) := (⟨hw3, hP3⟩ : _ ∧ _)
  have HNA : Hid (ao = X.ok ∧ ag = X.G ∧ sa = X.sl ∧ na = X.N) := (⟨hao, hag, has, han⟩ : _ ∧ _)
  clear HAC u0 u1 oa hga ka hao hag has han hP3 hw3 kax ab zw3 k23 oa3
  go_upto_region 2 with fail
  try rw [← (show _ ∧ _ ∧ _ ∧ _ from HNA).1]
  try rw [← (show _ ∧ _ ∧ _ ∧ _ from HNA).2.1]
  try rw [← (show _ ∧ _ ∧ _ ∧ _ from HNA).2.2.1]
  try rw [← (show _ ∧ _ ∧ _ ∧ _ from HNA).2.2.2]
  rw [← (show _ ∧ _ from HW3).1, ← (show _ ∧ _ from HW3).2]
  clear HW3 HNA
  go_wp2_with fail
  refine HBC.mono ?_
  rintro e wtb ⟨vb, gb, rfl, ob, hgb, kb⟩
  obtain ⟨pb, cb, rfl, -⟩ := ob.sl
  obtain ⟨bo, hbo⟩ : ∃ x, x = Y.ok := ⟨_, rfl⟩
  obtain ⟨bg, hbg⟩ : ∃ x, x = Y.G := ⟨_, rfl⟩
  obtain ⟨sb, hbs⟩ : ∃ x, x = Y.sl := ⟨_, rfl⟩
  obtain ⟨nb, hbn⟩ : ∃ x, x = Y.N := ⟨_, rfl⟩
  rw [← hbo, ← hbg, ← hbs, ← hbn]
  obtain ⟨P4, hP4⟩ : ∃ P, P = wtb.heap.size := ⟨_, rfl⟩
  obtain ⟨w5, hw5⟩ : ∃ W, W = wtb.alloc (.cells #[.bool bo, .int .i64 bg, .int .i64 sb, .slice pb nb cb] 51) := ⟨_, rfl⟩
  have kbx : Kb 0 wtb w5 := by rw [hw5]; exact kb_alloc _ _ _
  have bb : w5.heap[P4]? = some (.cells #[.bool bo, .int .i64 bg, .int .i64 sb, .slice pb nb cb] 51 (0, 0)) := by rw [hw5, hP4]; exact alloc_new _ _ _
  have zw5 : w5.heap.size = P4 + 1 := by rw [hw5, World.size_alloc, hP4]
  obtain ⟨k23, ab, lP3, oa3, ga3⟩ := (show _ ∧ _ ∧ _ ∧ _ ∧ _ from H3)
  have k35 := kb.trans kbx
  have z35 := k35.size
  have ob5 := ob.block (W' := w5) (fun hn => kbx.block gb (Nat.zero_le _) (hgb hn).2)
  have ab5 := (k35.block _ (Nat.zero_le _) lP3).trans ab
  have HK5 : Hid (Kb 0 w2 w5) := k23.trans k35
  have HOA : Hid (OwnR w5 (.slice pa na ca) ga X.N (ub X.A) ∧ (0 < X.N → w2.heap.size ≤ ga ∧ ga < w5.heap.size)) := (⟨oa3.block (fun hn => k35.block ga (Nat.zero_le _) (ga3 hn).2), fun hn => ⟨(ga3 hn).1, by have := (ga3 hn).2; omega⟩⟩ : _ ∧ _)
  have HOB : Hid (OwnR w5 (.slice pb nb cb) gb Y.N (ub Y.A) ∧ (0 < Y.N → w2.heap.size ≤ gb ∧ gb < w5.heap.size)) := (⟨by rw [hbn]; exact ob5, fun hn => ⟨by have := (hgb hn).1; have := k23.size; omega, by have := (hgb hn).2; have := kbx.size; omega⟩⟩ : _ ∧ _)
  have HEB : Hid (bo = Y.ok ∧ bg = Y.G ∧ sb = Y.sl) := (⟨hbo, hbg, hbs⟩ : _ ∧ _)
  have HNB : Hid (bo = Y.ok ∧ bg = Y.G ∧ sb = Y.sl ∧ nb = Y.N) := (⟨hbo, hbg, hbs, hbn⟩ : _ ∧ _)
  have HW5 : Hid (w5 = wtb.alloc (.cells #[.bool bo, .int .i64 bg, .int .i64 sb, .slice pb nb cb] 51) ∧ P4 = wtb.heap.size) := (⟨hw5, hP4⟩ : _ ∧ _)
  have b0 : w5.cell? ⟨P4, 0, none⟩ = some (.bool bo) := cell_of bb rfl
  have b1 : w5.cell? ⟨P4, 1, none⟩ = some (.int .i64 bg) := cell_of bb rfl
  have b2 : w5.cell? ⟨P4, 2, none⟩ = some (.int .i64 sb) := cell_of bb rfl
  have b3 : w5.cell? ⟨P4, 3, none⟩ = some (.slice pb nb cb) := cell_of bb rfl
  have a0' : w5.cell? ⟨P3, 0, none⟩ = some (.bool ao) := cell_of ab5 rfl
  have a1' : w5.cell? ⟨P3, 1, none⟩ = some (.int .i64 ag) := cell_of ab5 rfl
  have a2' : w5.cell? ⟨P3, 2, none⟩ = some (.int .i64 sa) := cell_of ab5 rfl
  have a3' : w5.cell? ⟨P3, 3, none⟩ = some (.slice pa na ca) := cell_of ab5 rfl
  clear HBC u0' u1' ob hgb kb hbo hbg hbs hbn hP4 hw5 kbx bb zw5 k23 ab lP3 oa3 ga3 k35 z35 ob5 ab5 H3 HBX HU
  go_upto_region 3 with fail
  try rw [← (show _ ∧ _ ∧ _ ∧ _ from HNB).1]
  try rw [← (show _ ∧ _ ∧ _ ∧ _ from HNB).2.1]
  try rw [← (show _ ∧ _ ∧ _ ∧ _ from HNB).2.2.1]
  try rw [← (show _ ∧ _ ∧ _ ∧ _ from HNB).2.2.2]
  rw [← (show _ ∧ _ from HW5).1, ← (show _ ∧ _ from HW5).2]
  clear HW5 HNB
  cases hbo : bo with
  | false =>
    rw [hbo] at b0
    subst hbo
    have k5 := (show Kb 0 w2 w5 from HK5)
    obtain ⟨kw2, b2, z2⟩ := (show _ ∧ _ ∧ _ from HB)
    have bq := (k5.block _ (Nat.zero_le _) (by omega)).trans b2
    obtain ⟨WF, hWF, bF, zF⟩ := four_set (.bool ao) (.int .i64 ag) (.int .i64 sa) (.slice pa na ca) bq
    have f0 : WF.cell? ⟨w.heap.size + 1, 0, none⟩ = some (.bool ao) := cell_of bF rfl
    have f1 : WF.cell? ⟨w.heap.size + 1, 1, none⟩ = some (.int .i64 ag) := cell_of bF rfl
    have f2 : WF.cell? ⟨w.heap.size + 1, 2, none⟩ = some (.int .i64 sa) := cell_of bF rfl
    have f3 : WF.cell? ⟨w.heap.size + 1, 3, none⟩ = some (.slice pa na ca) := cell_of bF rfl
    have a0 : w5.cell? ⟨w.heap.size + 1, 0, none⟩ = some (.bool false) := cell_of bq rfl
    have a1 : w5.cell? ⟨w.heap.size + 1, 1, none⟩ = some (.int .i64 0) := cell_of bq rfl
    have a2 : w5.cell? ⟨w.heap.size + 1, 2, none⟩ = some (.int .i64 0) := cell_of bq rfl
    have a3 : w5.cell? ⟨w.heap.size + 1, 3, none⟩ = some (.slice none 0 0) := cell_of bq rfl
    have fy : ∀ j, w5.frozen? ⟨w.heap.size + 1, j, none⟩ = false := fun j => frozen_of bq
    have HF : Hid (Kb 0 w WF ∧ (∀ q, q ≠ w.heap.size + 1 → WF.heap[q]? = w5.heap[q]?) ∧ WF.heap.size = w5.heap.size ∧ w2.heap.size = w.heap.size + 2) := (⟨zF.kb (kw2.trans k5) (by omega), zF.block, zF.size, z2⟩ : _ ∧ _)
    have HWF : Hid (WF = _) := hWF
    clear hWF bF zF bq HB kw2 b2 z2 k5 HK5
    go_wp2_with fail
    rw [← (show WF = _ from HWF)]
    clear HWF
    refine bodyPost_ret (by simp [results, Try.results62, go_sem, f0, f1, f2, f3]; rfl) rfl ?_
    obtain ⟨kf, bf, sf, zz⟩ := (show _ ∧ _ ∧ _ ∧ _ from HF)
    rw [show nsel X Y = X from nsel_f (fun q => by have := (show _ ∧ _ ∧ _ from HEB).1; rw [q.1] at this; cases this)]
    obtain ⟨q1, q2, q3⟩ := (show _ ∧ _ ∧ _ from HEA)
    obtain ⟨oo, gg⟩ := (show _ ∧ _ from HOA)
    exact ⟨_, ga, by rw [q1, q2, q3], oo.block (fun hn => bf ga (by have := (gg hn).1; omega)), fun hn => ⟨by have := (gg hn).1; omega, by rw [sf]; exact (gg hn).2⟩, kf⟩
  | true =>
    subst hbo
    cases hao : ao with
    | false =>
      subst hao
      have k5 := (show Kb 0 w2 w5 from HK5)
      obtain ⟨kw2, b2, z2⟩ := (show _ ∧ _ ∧ _ from HB)
      have bq := (k5.block _ (Nat.zero_le _) (by omega)).trans b2
      obtain ⟨WF, hWF, bF, zF⟩ := four_set (.bool true) (.int .i64 bg) (.int .i64 sb) (.slice pb nb cb) bq
      have f0 : WF.cell? ⟨w.heap.size + 1, 0, none⟩ = some (.bool true) := cell_of bF rfl
      have f1 : WF.cell? ⟨w.heap.size + 1, 1, none⟩ = some (.int .i64 bg) := cell_of bF rfl
      have f2 : WF.cell? ⟨w.heap.size + 1, 2, none⟩ = some (.int .i64 sb) := cell_of bF rfl
      have f3 : WF.cell? ⟨w.heap.size + 1, 3, none⟩ = some (.slice pb nb cb) := cell_of bF rfl
      have a0 : w5.cell? ⟨w.heap.size + 1, 0, none⟩ = some (.bool false) := cell_of bq rfl
      have a1 : w5.cell? ⟨w.heap.size + 1, 1, none⟩ = some (.int .i64 0) := cell_of bq rfl
      have a2 : w5.cell? ⟨w.heap.size + 1, 2, none⟩ = some (.int .i64 0) := cell_of bq rfl
      have a3 : w5.cell? ⟨w.heap.size + 1, 3, none⟩ = some (.slice none 0 0) := cell_of bq rfl
      have fy : ∀ j, w5.frozen? ⟨w.heap.size + 1, j, none⟩ = false := fun j => frozen_of bq
      have HF : Hid (Kb 0 w WF ∧ (∀ q, q ≠ w.heap.size + 1 → WF.heap[q]? = w5.heap[q]?) ∧ WF.heap.size = w5.heap.size ∧ w2.heap.size = w.heap.size + 2) := (⟨zF.kb (kw2.trans k5) (by omega), zF.block, zF.size, z2⟩ : _ ∧ _)
      have HWF : Hid (WF = _) := hWF
      clear hWF bF zF bq HB kw2 b2 z2 k5 HK5
      go_wp2_with fail
      rw [← (show WF = _ from HWF)]
      clear HWF
      refine bodyPost_ret (by simp [results, Try.results62, go_sem, f0, f1, f2, f3]; rfl) rfl ?_
      obtain ⟨kf, bf, sf, zz⟩ := (show _ ∧ _ ∧ _ ∧ _ from HF)
      rw [show nsel X Y = Y from nsel_t ⟨(show _ ∧ _ ∧ _ from HEB).1.symm, .inl (show _ ∧ _ ∧ _ from HEA).1.symm⟩]
      obtain ⟨q1, q2, q3⟩ := (show _ ∧ _ ∧ _ from HEB)
      obtain ⟨oo, gg⟩ := (show _ ∧ _ from HOB)
      exact ⟨_, gb, by rw [q1, q2, q3], oo.block (fun hn => bf gb (by have := (gg hn).1; omega)), fun hn => ⟨by have := (gg hn).1; omega, by rw [sf]; exact (gg hn).2⟩, kf⟩
    | true =>
      subst hao
      by_cases hlt : ag < bg
      · skip
        have k5 := (show Kb 0 w2 w5 from HK5)
        obtain ⟨kw2, b2, z2⟩ := (show _ ∧ _ ∧ _ from HB)
        have bq := (k5.block _ (Nat.zero_le _) (by omega)).trans b2
        obtain ⟨WF, hWF, bF, zF⟩ := four_set (.bool true) (.int .i64 bg) (.int .i64 sb) (.slice pb nb cb) bq
        have f0 : WF.cell? ⟨w.heap.size + 1, 0, none⟩ = some (.bool true) := cell_of bF rfl
        have f1 : WF.cell? ⟨w.heap.size + 1, 1, none⟩ = some (.int .i64 bg) := cell_of bF rfl
        have f2 : WF.cell? ⟨w.heap.size + 1, 2, none⟩ = some (.int .i64 sb) := cell_of bF rfl
        have f3 : WF.cell? ⟨w.heap.size + 1, 3, none⟩ = some (.slice pb nb cb) := cell_of bF rfl
        have a0 : w5.cell? ⟨w.heap.size + 1, 0, none⟩ = some (.bool false) := cell_of bq rfl
        have a1 : w5.cell? ⟨w.heap.size + 1, 1, none⟩ = some (.int .i64 0) := cell_of bq rfl
        have a2 : w5.cell? ⟨w.heap.size + 1, 2, none⟩ = some (.int .i64 0) := cell_of bq rfl
        have a3 : w5.cell? ⟨w.heap.size + 1, 3, none⟩ = some (.slice none 0 0) := cell_of bq rfl
        have fy : ∀ j, w5.frozen? ⟨w.heap.size + 1, j, none⟩ = false := fun j => frozen_of bq
        have HF : Hid (Kb 0 w WF ∧ (∀ q, q ≠ w.heap.size + 1 → WF.heap[q]? = w5.heap[q]?) ∧ WF.heap.size = w5.heap.size ∧ w2.heap.size = w.heap.size + 2) := (⟨zF.kb (kw2.trans k5) (by omega), zF.block, zF.size, z2⟩ : _ ∧ _)
        have HWF : Hid (WF = _) := hWF
        clear hWF bF zF bq HB kw2 b2 z2 k5 HK5
        go_wp2_with fail
        rw [← (show WF = _ from HWF)]
        clear HWF
        refine bodyPost_ret (by simp [results, Try.results62, go_sem, f0, f1, f2, f3]; rfl) rfl ?_
        obtain ⟨kf, bf, sf, zz⟩ := (show _ ∧ _ ∧ _ ∧ _ from HF)
        rw [show nsel X Y = Y from nsel_t ⟨(show _ ∧ _ ∧ _ from HEB).1.symm, .inr (by rw [← (show _ ∧ _ ∧ _ from HEA).2.1, ← (show _ ∧ _ ∧ _ from HEB).2.1]; omega)⟩]
        obtain ⟨q1, q2, q3⟩ := (show _ ∧ _ ∧ _ from HEB)
        obtain ⟨oo, gg⟩ := (show _ ∧ _ from HOB)
        exact ⟨_, gb, by rw [q1, q2, q3], oo.block (fun hn => bf gb (by have := (gg hn).1; omega)), fun hn => ⟨by have := (gg hn).1; omega, by rw [sf]; exact (gg hn).2⟩, kf⟩
      · skip
        have k5 := (show Kb 0 w2 w5 from HK5)
        obtain ⟨kw2, b2, z2⟩ := (show _ ∧ _ ∧ _ from HB)
        have bq := (k5.block _ (Nat.zero_le _) (by omega)).trans b2
        obtain ⟨WF, hWF, bF, zF⟩ := four_set (.bool true) (.int .i64 ag) (.int .i64 sa) (.slice pa na ca) bq
        have f0 : WF.cell? ⟨w.heap.size + 1, 0, none⟩ = some (.bool true) := cell_of bF rfl
        have f1 : WF.cell? ⟨w.heap.size + 1, 1, none⟩ = some (.int .i64 ag) := cell_of bF rfl
        have f2 : WF.cell? ⟨w.heap.size + 1, 2, none⟩ = some (.int .i64 sa) := cell_of bF rfl
        have f3 : WF.cell? ⟨w.heap.size + 1, 3, none⟩ = some (.slice pa na ca) := cell_of bF rfl
        have a0 : w5.cell? ⟨w.heap.size + 1, 0, none⟩ = some (.bool false) := cell_of bq rfl
        have a1 : w5.cell? ⟨w.heap.size + 1, 1, none⟩ = some (.int .i64 0) := cell_of bq rfl
        have a2 : w5.cell? ⟨w.heap.size + 1, 2, none⟩ = some (.int .i64 0) := cell_of bq rfl
        have a3 : w5.cell? ⟨w.heap.size + 1, 3, none⟩ = some (.slice none 0 0) := cell_of bq rfl
        have fy : ∀ j, w5.frozen? ⟨w.heap.size + 1, j, none⟩ = false := fun j => frozen_of bq
        have HF : Hid (Kb 0 w WF ∧ (∀ q, q ≠ w.heap.size + 1 → WF.heap[q]? = w5.heap[q]?) ∧ WF.heap.size = w5.heap.size ∧ w2.heap.size = w.heap.size + 2) := (⟨zF.kb (kw2.trans k5) (by omega), zF.block, zF.size, z2⟩ : _ ∧ _)
        have HWF : Hid (WF = _) := hWF
        clear hWF bF zF bq HB kw2 b2 z2 k5 HK5
        go_wp2_with fail
        rw [← (show WF = _ from HWF)]
        clear HWF
        refine bodyPost_ret (by simp [results, Try.results62, go_sem, f0, f1, f2, f3]; rfl) rfl ?_
        obtain ⟨kf, bf, sf, zz⟩ := (show _ ∧ _ ∧ _ ∧ _ from HF)
        rw [show nsel X Y = X from nsel_f (fun q => by rcases q.2 with r | r; rw [← (show _ ∧ _ ∧ _ from HEA).1] at r; cases r; rw [← (show _ ∧ _ ∧ _ from HEA).2.1, ← (show _ ∧ _ ∧ _ from HEB).2.1] at r; omega)]
        obtain ⟨q1, q2, q3⟩ := (show _ ∧ _ ∧ _ from HEA)
        obtain ⟨oo, gg⟩ := (show _ ∧ _ from HOA)
        exact ⟨_, ga, by rw [q1, q2, q3], oo.block (fun hn => bf ga (by have := (gg hn).1; omega)), fun hn => ⟨by have := (gg hn).1; omega, by rw [sf]; exact (gg hn).2⟩, kf⟩
set_option maxHeartbeats 8000000 in
theorem sp_new_no {v1 v2 : Value} {D : Dd} (w : World) (ha : RowD 0 w v1 v2 D) (hd : BdD D) (hok : ¬ Dok D) :
    Calls Try.prog 27 #[.agg #[v1, v2]] w (KP zK w) := by
  obtain ⟨⟨p1, c1, rfl, -⟩, ⟨p2, c2, rfl, -⟩⟩ := id ha
  obtain ⟨w1, hw1⟩ : ∃ w1, w1 = w.alloc (.cells #[.slice p1 D.n c1, .slice p2 D.m c2] 30) := ⟨_, rfl⟩
  obtain ⟨w2, hw2⟩ : ∃ w2, w2 = w1.alloc (.cells #[.bool false, .int .i64 0, .int .i64 0, .slice none 0 0] 51) := ⟨_, rfl⟩
  have k1 : Kb 0 w w1 := by rw [hw1]; exact kb_alloc _ _ _
  have b1 : w1.heap[w.heap.size]? = some (.cells #[.slice p1 D.n c1, .slice p2 D.m c2] 30 (0, 0)) := by rw [hw1]; exact alloc_new _ _ _
  have z1 : w1.heap.size = w.heap.size + 1 := by rw [hw1]; exact World.size_alloc _ _
  have k2 : Kb 0 w1 w2 := by rw [hw2]; exact kb_alloc _ _ _
  have b2 : w2.heap[w.heap.size + 1]? = some (.cells #[.bool false, .int .i64 0, .int .i64 0, .slice none 0 0] 51 (0, 0)) := by rw [hw2, ← z1]; exact alloc_new _ _ _
  have z2 : w2.heap.size = w.heap.size + 2 := by rw [hw2, World.size_alloc, z1]
  have b12 := (k2.block _ (Nat.zero_le _) (by omega)).trans b1
  have u0 : w2.cell? ⟨w.heap.size, 0, none⟩ = some (.slice p1 D.n c1) := cell_of b12 rfl
  have u1 : w2.cell? ⟨w.heap.size, 1, none⟩ = some (.slice p2 D.m c2) := cell_of b12 rfl
  have kw2 := k1.trans k2
  have HB : Hid (Kb 0 w w2 ∧ w2.heap[w.heap.size + 1]? = some (.cells #[.bool false, .int .i64 0, .int .i64 0, .slice none 0 0] 51 (0, 0)) ∧ w2.heap.size = w.heap.size + 2) := (⟨kw2, b2, z2⟩ : _ ∧ _)
  have HW2 : Hid (w2 = (w.alloc (.cells #[.slice p1 D.n c1, .slice p2 D.m c2] 30)).alloc (.cells #[.bool false, .int .i64 0, .int .i64 0, .slice none 0 0] 51)) := (by rw [hw2, hw1] : w2 = _)
  have HI : Calls Try.prog 43 #[.agg #[.slice p1 D.n c1, .slice p2 D.m c2]] w2 fun e w' => e = .returned (.bool false) ∧ Kb 0 w2 w' := by
    have := sp_dok w2 (ha.keep kw2) hd
    rw [dc_f hok] at this
    exact this
  clear hw1 hw2 k1 b1 z1 k2 b2 z2 b12 kw2 ha hd hok
  go_enter Try.func27, Try.ntmps27
  go_upto_region 1 with fail
  rw [← (show w2 = _ from HW2)]
  clear HW2
  go_wp2_with fail
  refine HI.mono ?_
  rintro e w3 ⟨rfl, k3⟩
  clear HI u0 u1
  obtain ⟨kw2, b2, z2⟩ := (show _ ∧ _ ∧ _ from HB)
  have bq := (k3.block _ (Nat.zero_le _) (by omega)).trans b2
  obtain ⟨WF, hWF, bF, zF⟩ := four_set (.bool false) (.int .i64 0) (.int .i64 0) (.slice none 0 0) bq
  have f0 : WF.cell? ⟨w.heap.size + 1, 0, none⟩ = some (.bool false) := cell_of bF rfl
  have f1 : WF.cell? ⟨w.heap.size + 1, 1, none⟩ = some (.int .i64 0) := cell_of bF rfl
  have f2 : WF.cell? ⟨w.heap.size + 1, 2, none⟩ = some (.int .i64 0) := cell_of bF rfl
  have f3 : WF.cell? ⟨w.heap.size + 1, 3, none⟩ = some (.slice none 0 0) := cell_of bF rfl
  have a0 : w3.cell? ⟨w.heap.size + 1, 0, none⟩ = some (.bool false) := cell_of bq rfl
  have a1 : w3.cell? ⟨w.heap.size + 1, 1, none⟩ = some (.int .i64 0) := cell_of bq rfl
  have a2 : w3.cell? ⟨w.heap.size + 1, 2, none⟩ = some (.int .i64 0) := cell_of bq rfl
  have a3 : w3.cell? ⟨w.heap.size + 1, 3, none⟩ = some (.slice none 0 0) := cell_of bq rfl
  have fy : ∀ j, w3.frozen? ⟨w.heap.size + 1, j, none⟩ = false := fun j => frozen_of bq
  have HF : Hid (Kb 0 w WF) := zF.kb (kw2.trans k3) (by omega)
  have HWF : Hid (WF = _) := hWF
  clear hWF bF zF bq HB kw2 b2 z2 k3
  go_wp2_with fail
  rw [← (show WF = _ from HWF)]
  clear HWF
  refine bodyPost_ret (by simp [results, Try.results27, go_sem, f0, f1, f2, f3]; rfl) rfl ?_
  exact ⟨_, 0, rfl, rd_nil2 _, fun h => absurd h (Nat.lt_irrefl 0), HF⟩
set_option maxHeartbeats 8000000 in
theorem sp_new_yes {v1 v2 : Value} {D : Dd} {Z : Ki} (w : World) (ha : RowD 0 w v1 v2 D) (hd : BdD D) (hok : Dok D) (hZ : ∀ x1 x2 W, RowD 0 W x1 x2 D → Calls Try.prog 62 #[.agg #[x1, x2]] W (KP Z W)) :
    Calls Try.prog 27 #[.agg #[v1, v2]] w (KP Z w) := by
  obtain ⟨⟨p1, c1, rfl, -⟩, ⟨p2, c2, rfl, -⟩⟩ := id ha
  obtain ⟨w1, hw1⟩ : ∃ w1, w1 = w.alloc (.cells #[.slice p1 D.n c1, .slice p2 D.m c2] 30) := ⟨_, rfl⟩
  obtain ⟨w2, hw2⟩ : ∃ w2, w2 = w1.alloc (.cells #[.bool false, .int .i64 0, .int .i64 0, .slice none 0 0] 51) := ⟨_, rfl⟩
  have k1 : Kb 0 w w1 := by rw [hw1]; exact kb_alloc _ _ _
  have b1 : w1.heap[w.heap.size]? = some (.cells #[.slice p1 D.n c1, .slice p2 D.m c2] 30 (0, 0)) := by rw [hw1]; exact alloc_new _ _ _
  have z1 : w1.heap.size = w.heap.size + 1 := by rw [hw1]; exact World.size_alloc _ _
  have k2 : Kb 0 w1 w2 := by rw [hw2]; exact kb_alloc _ _ _
  have b2 : w2.heap[w.heap.size + 1]? = some (.cells #[.bool false, .int .i64 0, .int .i64 0, .slice none 0 0] 51 (0, 0)) := by rw [hw2, ← z1]; exact alloc_new _ _ _
  have z2 : w2.heap.size = w.heap.size + 2 := by rw [hw2, World.size_alloc, z1]
  have b12 := (k2.block _ (Nat.zero_le _) (by omega)).trans b1
  have u0 : w2.cell? ⟨w.heap.size, 0, none⟩ = some (.slice p1 D.n c1) := cell_of b12 rfl
  have u1 : w2.cell? ⟨w.heap.size, 1, none⟩ = some (.slice p2 D.m c2) := cell_of b12 rfl
  have kw2 := k1.trans k2
  have HB : Hid (Kb 0 w w2 ∧ w2.heap[w.heap.size + 1]? = some (.cells #[.bool false, .int .i64 0, .int .i64 0, .slice none 0 0] 51 (0, 0)) ∧ w2.heap.size = w.heap.size + 2) := (⟨kw2, b2, z2⟩ : _ ∧ _)
  have HW2 : Hid (w2 = (w.alloc (.cells #[.slice p1 D.n c1, .slice p2 D.m c2] 30)).alloc (.cells #[.bool false, .int .i64 0, .int .i64 0, .slice none 0 0] 51)) := (by rw [hw2, hw1] : w2 = _)
  have HI : Calls Try.prog 43 #[.agg #[.slice p1 D.n c1, .slice p2 D.m c2]] w2 fun e w' => e = .returned (.bool true) ∧ Kb 0 w2 w' := by
    have := sp_dok w2 (ha.keep kw2) hd
    rw [dc_t hok] at this
    exact this
  have HZC : Hid (∀ W, Kb 0 w2 W → Calls Try.prog 62 #[.agg #[.slice p1 D.n c1, .slice p2 D.m c2]] W (KP Z W)) := (fun W k => hZ _ _ W (ha.keep (kw2.trans k)) : ∀ W, _)
  clear hw1 hw2 k1 b1 z1 k2 b2 z2 b12 kw2 ha hd hok hZ
  go_enter Try.func27, Try.ntmps27
  go_upto_region 1 with fail
  rw [← (show w2 = _ from HW2)]
  clear HW2
  go_wp2_with fail
  refine HI.mono ?_
  rintro e w3 ⟨rfl, k3⟩
  have u30 := k3.cell u0
  have u31 := k3.cell u1
  have HC := (show ∀ W, Kb 0 w2 W → _ from HZC) w3 k3
  have HK3 : Hid (Kb 0 w2 w3) := k3
  clear HI u0 u1 k3 HZC
  go_wp2_with fail
  refine HC.mono ?_
  rintro e w4 ⟨vz, gz, rfl, oz, hgz, kz⟩
  obtain ⟨pz, cz, rfl, -⟩ := oz.sl
  obtain ⟨zo, hzo⟩ : ∃ x, x = Z.ok := ⟨_, rfl⟩
  obtain ⟨zg, hzg⟩ : ∃ x, x = Z.G := ⟨_, rfl⟩
  obtain ⟨zs, hzs⟩ : ∃ x, x = Z.sl := ⟨_, rfl⟩
  obtain ⟨zn, hzn⟩ : ∃ x, x = Z.N := ⟨_, rfl⟩
  rw [← hzo, ← hzg, ← hzs, ← hzn]
  have HZZ : Hid (zo = Z.ok ∧ zg = Z.G ∧ zs = Z.sl ∧ zn = Z.N) := (⟨hzo, hzg, hzs, hzn⟩ : _ ∧ _)
  have k24 := (show Kb 0 w2 w3 from HK3).trans kz
  have z23 := (show Kb 0 w2 w3 from HK3).size
  have HOZ : Hid (OwnR w4 (.slice pz zn cz) gz Z.N (ub Z.A) ∧ (0 < Z.N → w2.heap.size ≤ gz ∧ gz < w4.heap.size)) := (⟨by rw [hzn]; exact oz, fun hn => ⟨by have := (hgz hn).1; omega, (hgz hn).2⟩⟩ : _ ∧ _)
  clear HC kz oz hgz u30 u31 hzo hzg hzs hzn HK3 z23
  obtain ⟨kw2, b2, z2⟩ := (show _ ∧ _ ∧ _ from HB)
  have bq := (k24.block _ (Nat.zero_le _) (by omega)).trans b2
  obtain ⟨WF, hWF, bF, zF⟩ := four_set (.bool zo) (.int .i64 zg) (.int .i64 zs) (.slice pz zn cz) bq
  have f0 : WF.cell? ⟨w.heap.size + 1, 0, none⟩ = some (.bool zo) := cell_of bF rfl
  have f1 : WF.cell? ⟨w.heap.size + 1, 1, none⟩ = some (.int .i64 zg) := cell_of bF rfl
  have f2 : WF.cell? ⟨w.heap.size + 1, 2, none⟩ = some (.int .i64 zs) := cell_of bF rfl
  have f3 : WF.cell? ⟨w.heap.size + 1, 3, none⟩ = some (.slice pz zn cz) := cell_of bF rfl
  have a0 : w4.cell? ⟨w.heap.size + 1, 0, none⟩ = some (.bool false) := cell_of bq rfl
  have a1 : w4.cell? ⟨w.heap.size + 1, 1, none⟩ = some (.int .i64 0) := cell_of bq rfl
  have a2 : w4.cell? ⟨w.heap.size + 1, 2, none⟩ = some (.int .i64 0) := cell_of bq rfl
  have a3 : w4.cell? ⟨w.heap.size + 1, 3, none⟩ = some (.slice none 0 0) := cell_of bq rfl
  have fy : ∀ j, w4.frozen? ⟨w.heap.size + 1, j, none⟩ = false := fun j => frozen_of bq
  have HF : Hid (Kb 0 w WF ∧ (∀ q, q ≠ w.heap.size + 1 → WF.heap[q]? = w4.heap[q]?) ∧ WF.heap.size = w4.heap.size ∧ w2.heap.size = w.heap.size + 2) := (⟨zF.kb (kw2.trans k24) (by omega), zF.block, zF.size, z2⟩ : _ ∧ _)
  have HWF : Hid (WF = _) := hWF
  clear hWF bF zF bq HB kw2 b2 z2 k24
  go_wp2_with fail
  try rw [← (show _ ∧ _ ∧ _ ∧ _ from HZZ).1]
  try rw [← (show _ ∧ _ ∧ _ ∧ _ from HZZ).2.1]
  try rw [← (show _ ∧ _ ∧ _ ∧ _ from HZZ).2.2.1]
  try rw [← (show _ ∧ _ ∧ _ ∧ _ from HZZ).2.2.2]
  rw [← (show WF = _ from HWF)]
  clear HWF
  refine bodyPost_ret (by simp [results, Try.results27, go_sem, f0, f1, f2, f3]; rfl) rfl ?_
  obtain ⟨kf, bf, sf, zz⟩ := (show _ ∧ _ ∧ _ ∧ _ from HF)
  obtain ⟨q1, q2, q3, q4⟩ := (show _ ∧ _ ∧ _ ∧ _ from HZZ)
  obtain ⟨oo, gg⟩ := (show _ ∧ _ from HOZ)
  exact ⟨_, gz, by rw [q1, q2, q3], oo.block (fun hn => bf gz (by have := (gg hn).1; omega)), fun hn => ⟨by have := (gg hn).1; omega, by rw [sf]; exact (gg hn).2⟩, kf⟩
theorem slot_any0 {D : Dd} (hok : Dok D) (hg : RgD D) : ∃ Y : Ki, (Y.ok = true → 1 ≤ Y.G ∧ Y.G ≤ 1000000000000 ∧ Y.sl = 0) ∧ (Y.ok = false → Y = zK) ∧ Y.N ≤ 8192 ∧ (∀ v1 v2 W, RowD 0 W v1 v2 D → Calls Try.prog 98 #[.agg #[v1, v2], .int .i64 0] W (KP Y W)) ∧ (∀ w2 dv W, Dr w2 dv (stl (dpg D) D.Q D.m) 0 D.Q (.slice none 0 0) W → Calls Try.prog 63 #[.pointer (some ⟨dv, 0, none⟩), .int .i64 0] W (KP Y W)) := by
  have eP : stl (dpg D) D.Q D.m = (fun i => rdl (dpg D) D.Q i D.m) := funext fun k => stl_rdl (dpg D) D.Q k D.m (fun j hj => (hok.2.2.2 j hj).1)
  have hr : ∀ k, k < 258 → R8 (rdl (dpg D) D.Q k D.m) := fun k hk => by
    refine rdl_r8 (fun j hj => ?_) _ (fun i hi j hj => ?_)
    · exact hg.1 k (by rw [hok.1]; exact hk) j (by rw [hok.2.2.1 k (by rw [hok.1]; exact hk)]; exact hj)
    · exact hg.2 i hi j (by rw [(hok.2.2.2 i hi).2.2]; exact hj)
  have hb : ∀ j, j < 8192 → 0 ≤ img (fun i => rdl (dpg D) D.Q i D.m) 2 j ∧ img (fun i => rdl (dpg D) D.Q i D.m) 2 j ≤ 255 := fun j hj => hr (2 + j / 64) (by omega) (j % 64) (by omega)
  obtain ⟨y1, y2, y3, hy⟩ := nums_any (rdl (dpg D) D.Q 0 D.m)
  have hhd : ∀ x1 x2 W, RowD 0 W x1 x2 D → Calls Try.prog 59 #[.agg #[x1, x2], .int .i64 0] W fun e w' => e = .returned (hdv (rdl (dpg D) D.Q 0 D.m) (wrap64 (y1 : Int)) (wrap64 (y2 : Int)) (wrap64 (y3 : Int))) ∧ Kb 0 W w' := fun x1 x2 W hW => by
    have hr0 := hr 0 (by decide)
    obtain ⟨n, Bf, m, Qf⟩ := D
    obtain rfl : n = 258 := hok.1
    exact sp_l54head 0 W hW hok (by decide) rfl hr0 hy
  by_cases h : Hd (rdl (dpg D) D.Q 0 D.m) (wrap64 (y1 : Int)) (wrap64 (y2 : Int)) (wrap64 (y3 : Int))
  · rw [hdv_t h] at hhd
    obtain ⟨-, g1, g2, l1, l2⟩ := h.1
    obtain ⟨LN, hL⟩ : ∃ LN : Nat, wrap64 (y2 : Int) = (LN : Int) := ⟨(wrap64 (y2 : Int)).toNat, by omega⟩
    have hl1 : 0 < LN := by omega
    have hl2 : LN ≤ 8192 := by omega
    by_cases hs : sgz (img (fun i => rdl (dpg D) D.Q i D.m) 2) LN = wrap64 (y3 : Int)
    · refine ⟨⟨true, wrap64 (y1 : Int), 0, LN, img (fun i => rdl (dpg D) D.Q i D.m) 2⟩, fun _ => ⟨g1, g2, rfl⟩, (by intro q; cases q), by show LN ≤ 8192; omega, fun v1 v2 W ha => ?_, fun w2 dv W hD => ?_⟩
      · exact sp_img_c0 W ha hok hl1 hl2 hb hs (fun x1 x2 W hW => by have := hhd x1 x2 W hW; rw [hL] at this; exact this)
      · rw [eP] at hD
        exact im_kept_c0 W hD (hr 0 (by decide)) hy rfl hL rfl h hl2 hb hs
    · refine ⟨zK, (by intro q; cases q), fun _ => rfl, Nat.zero_le _, fun v1 v2 W ha => ?_, fun w2 dv W hD => ?_⟩
      · exact sp_img_b0 W ha hok hl1 hl2 hb hs (fun x1 x2 W hW => by have := hhd x1 x2 W hW; rw [hL] at this; exact this)
      · rw [eP] at hD
        exact im_kept_b0 W hD (hr 0 (by decide)) hy rfl hL rfl h hl2 hb hs
  · rw [hdv_f h] at hhd
    refine ⟨zK, (by intro q; cases q), fun _ => rfl, Nat.zero_le _, fun v1 v2 W ha => ?_, fun w2 dv W hD => ?_⟩
    · exact sp_img_a0 W ha hhd
    · rw [eP] at hD
      exact im_kept_a0 W hD (hr 0 (by decide)) hy h
theorem slot_any1 {D : Dd} (hok : Dok D) (hg : RgD D) : ∃ Y : Ki, (Y.ok = true → 1 ≤ Y.G ∧ Y.G ≤ 1000000000000 ∧ Y.sl = 1) ∧ (Y.ok = false → Y = zK) ∧ Y.N ≤ 8192 ∧ (∀ v1 v2 W, RowD 0 W v1 v2 D → Calls Try.prog 98 #[.agg #[v1, v2], .int .i64 1] W (KP Y W)) ∧ (∀ w2 dv W, Dr w2 dv (stl (dpg D) D.Q D.m) 0 D.Q (.slice none 0 0) W → Calls Try.prog 63 #[.pointer (some ⟨dv, 0, none⟩), .int .i64 1] W (KP Y W)) := by
  have eP : stl (dpg D) D.Q D.m = (fun i => rdl (dpg D) D.Q i D.m) := funext fun k => stl_rdl (dpg D) D.Q k D.m (fun j hj => (hok.2.2.2 j hj).1)
  have hr : ∀ k, k < 258 → R8 (rdl (dpg D) D.Q k D.m) := fun k hk => by
    refine rdl_r8 (fun j hj => ?_) _ (fun i hi j hj => ?_)
    · exact hg.1 k (by rw [hok.1]; exact hk) j (by rw [hok.2.2.1 k (by rw [hok.1]; exact hk)]; exact hj)
    · exact hg.2 i hi j (by rw [(hok.2.2.2 i hi).2.2]; exact hj)
  have hb : ∀ j, j < 8192 → 0 ≤ img (fun i => rdl (dpg D) D.Q i D.m) 130 j ∧ img (fun i => rdl (dpg D) D.Q i D.m) 130 j ≤ 255 := fun j hj => hr (130 + j / 64) (by omega) (j % 64) (by omega)
  obtain ⟨y1, y2, y3, hy⟩ := nums_any (rdl (dpg D) D.Q 1 D.m)
  have hhd : ∀ x1 x2 W, RowD 0 W x1 x2 D → Calls Try.prog 59 #[.agg #[x1, x2], .int .i64 1] W fun e w' => e = .returned (hdv (rdl (dpg D) D.Q 1 D.m) (wrap64 (y1 : Int)) (wrap64 (y2 : Int)) (wrap64 (y3 : Int))) ∧ Kb 0 W w' := fun x1 x2 W hW => by
    have hr0 := hr 1 (by decide)
    obtain ⟨n, Bf, m, Qf⟩ := D
    obtain rfl : n = 258 := hok.1
    exact sp_l54head 1 W hW hok (by decide) rfl hr0 hy
  by_cases h : Hd (rdl (dpg D) D.Q 1 D.m) (wrap64 (y1 : Int)) (wrap64 (y2 : Int)) (wrap64 (y3 : Int))
  · rw [hdv_t h] at hhd
    obtain ⟨-, g1, g2, l1, l2⟩ := h.1
    obtain ⟨LN, hL⟩ : ∃ LN : Nat, wrap64 (y2 : Int) = (LN : Int) := ⟨(wrap64 (y2 : Int)).toNat, by omega⟩
    have hl1 : 0 < LN := by omega
    have hl2 : LN ≤ 8192 := by omega
    by_cases hs : sgz (img (fun i => rdl (dpg D) D.Q i D.m) 130) LN = wrap64 (y3 : Int)
    · refine ⟨⟨true, wrap64 (y1 : Int), 1, LN, img (fun i => rdl (dpg D) D.Q i D.m) 130⟩, fun _ => ⟨g1, g2, rfl⟩, (by intro q; cases q), by show LN ≤ 8192; omega, fun v1 v2 W ha => ?_, fun w2 dv W hD => ?_⟩
      · exact sp_img_c1 W ha hok hl1 hl2 hb hs (fun x1 x2 W hW => by have := hhd x1 x2 W hW; rw [hL] at this; exact this)
      · rw [eP] at hD
        exact im_kept_c1 W hD (hr 1 (by decide)) hy rfl hL rfl h hl2 hb hs
    · refine ⟨zK, (by intro q; cases q), fun _ => rfl, Nat.zero_le _, fun v1 v2 W ha => ?_, fun w2 dv W hD => ?_⟩
      · exact sp_img_b1 W ha hok hl1 hl2 hb hs (fun x1 x2 W hW => by have := hhd x1 x2 W hW; rw [hL] at this; exact this)
      · rw [eP] at hD
        exact im_kept_b1 W hD (hr 1 (by decide)) hy rfl hL rfl h hl2 hb hs
  · rw [hdv_f h] at hhd
    refine ⟨zK, (by intro q; cases q), fun _ => rfl, Nat.zero_le _, fun v1 v2 W ha => ?_, fun w2 dv W hD => ?_⟩
    · exact sp_img_a1 W ha hhd
    · rw [eP] at hD
      exact im_kept_a1 W hD (hr 1 (by decide)) hy h
/-- the newest image of a sound disk, as both give it -/
theorem newest_ok {D : Dd} (hd : BdD D) (hok : Dok D) (hg : RgD D) : ∃ X : Ki, (X.ok = true → 1 ≤ X.G ∧ X.G ≤ 1000000000000 ∧ (X.sl = 0 ∨ X.sl = 1)) ∧ (X.ok = false → X = zK) ∧ X.N ≤ 8192 ∧ (∀ v1 v2 w, RowD 0 w v1 v2 D → Calls Try.prog 62 #[.agg #[v1, v2]] w (KP X w)) ∧ (∀ v1 v2 w, RowD 0 w v1 v2 D → Calls Try.prog 28 #[.agg #[v1, v2]] w (KP X w)) := by
  obtain ⟨Y0, a1, a2, a3, a4, a5⟩ := slot_any0 hok hg
  obtain ⟨Y1, b1, b2, b3, b4, b5⟩ := slot_any1 hok hg
  obtain ⟨Y, hY⟩ : ∃ Y : Nat → Ki, Y = fun i => if i = 0 then Y0 else Y1 := ⟨_, rfl⟩
  have e0 : Y 0 = Y0 := by rw [hY]; rfl
  have e1 : Y 1 = Y1 := by rw [hY]; rfl
  have ex : xk Y 2 = nsel Y0 Y1 := by
    have := xk_nsel (Y := Y) (by rw [e0]; exact fun h => (a1 h).1) (by rw [e0]; exact a2) (by rw [e1]; exact fun h => (b1 h).1) (by rw [e1]; exact b2)
    rw [e0, e1] at this
    exact this
  have hsel : nsel Y0 Y1 = Y1 ∨ nsel Y0 Y1 = Y0 := by
    unfold nsel
    split
    · exact .inl rfl
    · exact .inr rfl
  refine ⟨nsel Y0 Y1, ?_, ?_, ?_, fun v1 v2 w ha => sp_lnew w ha a4 b4, fun v1 v2 w ha => ?_⟩
  · rcases hsel with e | e
    · rw [e]; exact fun h => ⟨(b1 h).1, (b1 h).2.1, .inr (b1 h).2.2⟩
    · rw [e]; exact fun h => ⟨(a1 h).1, (a1 h).2.1, .inl (a1 h).2.2⟩
  · rcases hsel with e | e
    · rw [e]; exact b2
    · rw [e]; exact a2
  · rcases hsel with e | e
    · rw [e]; exact b3
    · rw [e]; exact a3
  · rw [← ex]
    refine im_new_yes w ha hd hok (fun i hi w2 dv W hD => ?_)
    obtain rfl | rfl : i = 0 ∨ i = 1 := by omega
    · rw [e0]; exact a5 w2 dv W hD
    · rw [e1]; exact b5 w2 dv W hD
theorem newest_any {D : Dd} (hd : BdD D) (hg : RgD D) : ∃ X : Ki, X.N ≤ 8192 ∧ (∀ v1 v2 w, RowD 0 w v1 v2 D → Calls Try.prog 27 #[.agg #[v1, v2]] w (KP X w)) ∧ (∀ v1 v2 w, RowD 0 w v1 v2 D → Calls Try.prog 28 #[.agg #[v1, v2]] w (KP X w)) := by
  by_cases hok : Dok D
  · obtain ⟨X, -, -, h3, h4, h5⟩ := newest_ok hd hok hg
    exact ⟨X, h3, fun v1 v2 w ha => sp_new_yes w ha hd hok h4, h5⟩
  · exact ⟨zK, Nat.zero_le _, fun v1 v2 w ha => sp_new_no w ha hd hok, fun v1 v2 w ha => im_new_no w ha hd hok⟩
end Go.Proofs.Ytaggciimacanbaa.Fo
