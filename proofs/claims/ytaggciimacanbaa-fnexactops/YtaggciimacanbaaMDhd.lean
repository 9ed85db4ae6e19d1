import Derived.Test.YtaggciimacanbaaMDha
import Derived.Test.YtaggciimacanbaaMDdg
import Derived.Test.YtaggciimacanbaaMKae
import Derived.Test.YtaggciimacanbaaMDhb
namespace Go.Proofs.Ytaggciimacanbaa.Fo
open Go.ChangeShapes Go.WideShapes Go.ChangeAt Go.RowKit
set_option linter.unusedVariables false
set_option maxRecDepth 100000
set_option linter.unusedSimpArgs false
theorem w64_lo {y : Nat} (h : y ≤ 1000000000000) : wrap64 (y : Int) = (y : Int) := by unfold wrap64; omega
theorem hok_w1 {y1 y2 : Nat} (h : y1 < 18446744073709551616) (h1 : 1000000000000 < y1) : ¬ Hok true (wrap64 (y1 : Int)) (wrap64 (y2 : Int)) := by
  rintro ⟨-, a, b, -⟩
  unfold wrap64 at a b
  omega
theorem hok_w2 {y1 y2 : Nat} (h : y2 < 18446744073709551616) (h1 : 8192 < y2) : ¬ Hok true (wrap64 (y1 : Int)) (wrap64 (y2 : Int)) := by
  rintro ⟨-, -, -, a, b⟩
  unfold wrap64 at a b
  omega
set_option maxHeartbeats 32000000 in
theorem sp_l54head {v1 v2 : Value} {m : Nat} {B Q : Nat → Ed} {A : Nat → Int} {y1 y2 y3 : Nat} (sl : Nat) (w : World) (ha : RowD 0 w v1 v2 ⟨258, B, m, Q⟩) (hok : Dok ⟨258, B, m, Q⟩) (hs : sl < 258) (hA : A = rdl (fun i => (B i).A) Q sl m) (hr : R8 A) (hy : Nums (m8 A) y1 y2 y3) :
    Calls Try.prog 59 #[.agg #[v1, v2], .int .i64 (sl : Int)] w fun e w' => e = .returned (hdv A (wrap64 (y1 : Int)) (wrap64 (y2 : Int)) (wrap64 (y3 : Int))) ∧ Kb 0 w w' := by
  obtain ⟨⟨p1, c1, rfl, -⟩, ⟨p2, c2, rfl, -⟩⟩ := id ha
  obtain ⟨w1, hw1⟩ : ∃ w1, w1 = w.alloc (.cells #[.slice p1 258 c1, .slice p2 m c2] 30) := ⟨_, rfl⟩
  obtain ⟨w2, hw2⟩ : ∃ w2, w2 = w1.alloc (.cells #[.bool false, .int .i64 0, .int .i64 0, .int .i64 0] 46) := ⟨_, rfl⟩
  have k1 : Kb 0 w w1 := by rw [hw1]; exact kb_alloc _ _ _
  have b1 : w1.heap[w.heap.size]? = some (.cells #[.slice p1 258 c1, .slice p2 m c2] 30 (0, 0)) := by rw [hw1]; exact alloc_new _ _ _
  have z1 : w1.heap.size = w.heap.size + 1 := by rw [hw1]; exact World.size_alloc _ _
  have k2 : Kb 0 w1 w2 := by rw [hw2]; exact kb_alloc _ _ _
  have b2 : w2.heap[w.heap.size + 1]? = some (.cells #[.bool false, .int .i64 0, .int .i64 0, .int .i64 0] 46 (0, 0)) := by rw [hw2, ← z1]; exact alloc_new _ _ _
  have z2 : w2.heap.size = w.heap.size + 2 := by rw [hw2, World.size_alloc, z1]
  have b12 := (k2.block _ (Nat.zero_le _) (by omega)).trans b1
  have u0 : w2.cell? ⟨w.heap.size, 0, none⟩ = some (.slice p1 258 c1) := cell_of b12 rfl
  have u1 : w2.cell? ⟨w.heap.size, 1, none⟩ = some (.slice p2 m c2) := cell_of b12 rfl
  have kw2 := k1.trans k2
  have HR := sp_l53read sl w2 (ha.keep kw2) hok hs
  rw [← hA] at HR
  have HB : Hid (Kb 0 w w2 ∧ w2.heap[w.heap.size + 1]? = some (.cells #[.bool false, .int .i64 0, .int .i64 0, .int .i64 0] 46 (0, 0)) ∧ w2.heap.size = w.heap.size + 2) := (⟨kw2, b2, z2⟩ : _ ∧ _)
  have HW2 : Hid (w2 = (w.alloc (.cells #[.slice p1 258 c1, .slice p2 m c2] 30)).alloc (.cells #[.bool false, .int .i64 0, .int .i64 0, .int .i64 0] 46)) := (by rw [hw2, hw1] : w2 = _)
  obtain ⟨M, hM⟩ : ∃ M, M = m8 A := ⟨_, rfl⟩
  rw [← hM] at hy
  have HY : Hid (Nums M y1 y2 y3 ∧ M.length = 64 ∧ M = m8 A ∧ R8 A) := (⟨hy, by rw [hM]; exact m8_len A, hM, hr⟩ : _ ∧ _)
  clear hw1 hw2 k1 b1 z1 k2 b2 z2 b12 kw2 ha hok hA hr hy hM
  go_enter Try.func59, Try.ntmps59
  go_upto_region 1 with fail
  rw [← (show w2 = _ from HW2)]
  clear HW2
  go_wp2_with fail
  refine HR.mono ?_
  rintro e w3 ⟨v, g, rfl, o3, ⟨hg1, hg2⟩, k3⟩
  obtain ⟨pg, cg, rfl, hpc⟩ := o3.sl
  obtain ⟨rfl, hcg⟩ := hpc (by omega)
  obtain ⟨hy, hml, hM, hr⟩ := (show _ ∧ _ ∧ _ ∧ _ from HY)
  obtain ⟨kw2, b2, z2⟩ := (show _ ∧ _ ∧ _ from HB)
  obtain ⟨w4, hw4⟩ : ∃ w4, w4 = w3.alloc (.cells #[.slice (some ⟨g, 0, none⟩) 64 cg, .int .i64 4, .bool false] 117) := ⟨_, rfl⟩
  have k4 : Kb 0 w3 w4 := by rw [hw4]; exact kb_alloc _ _ _
  have z4 : w4.heap.size = w3.heap.size + 1 := by rw [hw4]; exact World.size_alloc _ _
  have zs3 := k3.size
  have r4 : RD w3.heap.size ⟨g, 0, none⟩ cg M 4 false w4 := ⟨by rw [hml, hw4]; exact alloc_new _ _ _, by omega, by omega, by omega, by show g ≠ _; omega, fun i x hx => by
    rw [hM] at hx
    obtain ⟨hi, hv⟩ := m8_val hr hx
    rw [addr0, hv]
    exact k4.cell (o3.cell i hi)⟩
  have H4 : Hid (Kb 0 w w4 ∧ w4.heap[w.heap.size + 1]? = some (.cells #[.bool false, .int .i64 0, .int .i64 0, .int .i64 0] 46 (0, 0)) ∧ w.heap.size + 1 < w3.heap.size ∧ w4.heap.size = w3.heap.size + 1 ∧ g < w3.heap.size ∧ w.heap.size + 2 ≤ g ∧ OwnR w4 (.slice (some ⟨g, 0, none⟩) 64 cg) g 64 (ub A)) := (⟨(kw2.trans k3).trans k4, ((k3.trans k4).block _ (Nat.zero_le _) (by omega)).trans b2, by omega, z4, by omega, by omega, o3.block (fun _ => k4.block _ (Nat.zero_le _) (by omega))⟩ : _ ∧ _)
  have HW4 : Hid (w4 = w3.alloc (.cells #[.slice (some ⟨g, 0, none⟩) 64 cg, .int .i64 4, .bool false] 117)) := hw4
  obtain ⟨rb, hrb⟩ : ∃ rb, rb = w3.heap.size := ⟨_, rfl⟩
  have HRB : Hid (rb = w3.heap.size ∧ 64 ≤ cg) := (⟨hrb, hcg⟩ : _ ∧ _)
  rw [← hrb] at r4
  have HE4 := rd_eight r4
  clear HR u0 u1 hw4 k4 z4 r4 o3 hg1 hg2 k3 hpc hcg kw2 b2 z2 hy hml hM hr hrb zs3 HB
  go_upto_region 3 with fail
  rw [← (show w4 = _ from HW4), ← (show _ ∧ _ from HRB).1]
  clear HW4
  go_wp2_with fail
  refine HE4.mono ?_
  rintro e w5 ⟨v, k', bad', rfl, r5, -, z5, x, rfl, -, -, hx⟩
  obtain ⟨rfl, rfl, rfl⟩ := hx y1 _ (show _ ∧ _ from HY).1.1.1 (show _ ∧ _ from HY).1.2.1
  have HE5 := rd_eight r5
  have H5 : Hid (Kz rb w4 w5) := z5
  clear HE4 r5 z5 hx
  go_wp2_with fail
  refine HE5.mono ?_
  rintro e w6 ⟨v, k', bad', rfl, r6, -, z6, x', rfl, -, -, hx⟩
  obtain ⟨rfl, rfl, rfl⟩ := hx y2 _ (show _ ∧ _ from HY).1.1.2.1 (show _ ∧ _ from HY).1.2.2.1
  have HE6 := rd_eight r6
  have H6 : Hid (Kz rb w4 w6) := (show Kz rb w4 w5 from H5).trans z6
  clear HE5 r6 z6 hx H5
  go_wp2_with fail
  refine HE6.mono ?_
  rintro e w7 ⟨v, k', bad', rfl, r7, -, z7, x'', rfl, -, -, hx⟩
  obtain ⟨rfl, rfl, rfl⟩ := hx y3 _ (show _ ∧ _ from HY).1.1.2.2 (show _ ∧ _ from HY).1.2.2.2
  obtain ⟨k4, b4, g1, g2, g3, g4, o4⟩ := (show _ ∧ _ ∧ _ ∧ _ ∧ _ ∧ _ ∧ _ from H4)
  have z47 := (show Kz rb w4 w6 from H6).trans z7
  have hrb : rb = w3.heap.size := (show _ ∧ _ from HRB).1
  have zz := z47.size
  have H7 : Hid (Kb 0 w w7 ∧ w7.heap[w.heap.size + 1]? = some (.cells #[.bool false, .int .i64 0, .int .i64 0, .int .i64 0] 46 (0, 0)) ∧ w.heap.size + 1 < w7.heap.size ∧ g < w7.heap.size ∧ OwnR w7 (.slice (some ⟨g, 0, none⟩) 64 cg) g 64 (ub A)) := (⟨z47.kb k4 (by omega), (z47.block _ (by omega)).trans b4, by omega, by omega, o4.block (fun _ => z47.block _ (by omega))⟩ : _ ∧ _)
  clear HE6 r7 z7 hx k4 b4 g1 g2 g3 g4 o4 z47 hrb zz H4 H6
  by_cases hc1 : 1000000000000 < x
  · have hcI : (1000000000000 : Int) < (x : Int) := by omega
    have HQ : Hid (¬ Hd A (wrap64 (x : Int)) (wrap64 (x' : Int)) (wrap64 (x'' : Int))) := (fun q => hok_w1 (show _ ∧ _ from HY).1.1.1 hc1 q.1 : ¬ Hd A _ _ _)
    have H8 : Hid (Kb 0 w w7 ∧ w7.heap[w.heap.size + 1]? = some (.cells #[.bool false, .int .i64 0, .int .i64 0, .int .i64 0] 46 (0, 0)) ∧ True) := (⟨(show _ ∧ _ from H7).1, (show _ ∧ _ ∧ _ from H7).2.1, trivial⟩ : _ ∧ _)
    clear hc1 HY H7 HRB
    have bq := (show _ ∧ _ ∧ _ from H8).2.1
    obtain ⟨WF, hWF, bF, zF⟩ := four_set (.bool false) (.int .i64 0) (.int .i64 0) (.int .i64 0) bq
    have f0 : WF.cell? ⟨w.heap.size + 1, 0, none⟩ = some (.bool false) := cell_of bF rfl
    have f1 : WF.cell? ⟨w.heap.size + 1, 1, none⟩ = some (.int .i64 0) := cell_of bF rfl
    have f2 : WF.cell? ⟨w.heap.size + 1, 2, none⟩ = some (.int .i64 0) := cell_of bF rfl
    have f3 : WF.cell? ⟨w.heap.size + 1, 3, none⟩ = some (.int .i64 0) := cell_of bF rfl
    have a0 : w7.cell? ⟨w.heap.size + 1, 0, none⟩ = some (.bool false) := cell_of bq rfl
    have a1 : w7.cell? ⟨w.heap.size + 1, 1, none⟩ = some (.int .i64 0) := cell_of bq rfl
    have a2 : w7.cell? ⟨w.heap.size + 1, 2, none⟩ = some (.int .i64 0) := cell_of bq rfl
    have a3 : w7.cell? ⟨w.heap.size + 1, 3, none⟩ = some (.int .i64 0) := cell_of bq rfl
    have fy : ∀ j, w7.frozen? ⟨w.heap.size + 1, j, none⟩ = false := fun j => frozen_of bq
    have HF : Hid (Kb 0 w WF) := zF.kb (show _ ∧ _ ∧ _ from H8).1 (by omega)
    have HWF : Hid (WF = _) := hWF
    clear hWF bF zF bq H8
    go_wp2_with fail
    rw [← (show WF = _ from HWF)]
    clear HWF
    refine bodyPost_ret (by simp [results, Try.results59, go_sem, f0, f1, f2, f3]; rfl) rfl ?_
    exact ⟨by rw [hdv_f (show ¬ Hd A _ _ _ from HQ)], HF⟩
  have hcI : ¬ (1000000000000 : Int) < (x : Int) := by omega
  by_cases hc2 : 8192 < x'
  · have hcJ : (8192 : Int) < (x' : Int) := by omega
    have HQ : Hid (¬ Hd A (wrap64 (x : Int)) (wrap64 (x' : Int)) (wrap64 (x'' : Int))) := (fun q => hok_w2 (show _ ∧ _ from HY).1.1.2.1 hc2 q.1 : ¬ Hd A _ _ _)
    have H8 : Hid (Kb 0 w w7 ∧ w7.heap[w.heap.size + 1]? = some (.cells #[.bool false, .int .i64 0, .int .i64 0, .int .i64 0] 46 (0, 0)) ∧ True) := (⟨(show _ ∧ _ from H7).1, (show _ ∧ _ ∧ _ from H7).2.1, trivial⟩ : _ ∧ _)
    clear hc1 hc2 HY H7 HRB
    have bq := (show _ ∧ _ ∧ _ from H8).2.1
    obtain ⟨WF, hWF, bF, zF⟩ := four_set (.bool false) (.int .i64 0) (.int .i64 0) (.int .i64 0) bq
    have f0 : WF.cell? ⟨w.heap.size + 1, 0, none⟩ = some (.bool false) := cell_of bF rfl
    have f1 : WF.cell? ⟨w.heap.size + 1, 1, none⟩ = some (.int .i64 0) := cell_of bF rfl
    have f2 : WF.cell? ⟨w.heap.size + 1, 2, none⟩ = some (.int .i64 0) := cell_of bF rfl
    have f3 : WF.cell? ⟨w.heap.size + 1, 3, none⟩ = some (.int .i64 0) := cell_of bF rfl
    have a0 : w7.cell? ⟨w.heap.size + 1, 0, none⟩ = some (.bool false) := cell_of bq rfl
    have a1 : w7.cell? ⟨w.heap.size + 1, 1, none⟩ = some (.int .i64 0) := cell_of bq rfl
    have a2 : w7.cell? ⟨w.heap.size + 1, 2, none⟩ = some (.int .i64 0) := cell_of bq rfl
    have a3 : w7.cell? ⟨w.heap.size + 1, 3, none⟩ = some (.int .i64 0) := cell_of bq rfl
    have fy : ∀ j, w7.frozen? ⟨w.heap.size + 1, j, none⟩ = false := fun j => frozen_of bq
    have HF : Hid (Kb 0 w WF) := zF.kb (show _ ∧ _ ∧ _ from H8).1 (by omega)
    have HWF : Hid (WF = _) := hWF
    clear hWF bF zF bq H8
    go_wp2_with fail
    rw [← (show WF = _ from HWF)]
    clear HWF
    refine bodyPost_ret (by simp [results, Try.results59, go_sem, f0, f1, f2, f3]; rfl) rfl ?_
    exact ⟨by rw [hdv_f (show ¬ Hd A _ _ _ from HQ)], HF⟩
  have hcJ : ¬ (8192 : Int) < (x' : Int) := by omega
  obtain ⟨S, hS⟩ : ∃ S, S = wrap64 (x'' : Int) := ⟨_, rfl⟩
  have e1 : wrap64 (x : Int) = (x : Int) := w64_lo (by omega)
  have e2 : wrap64 (x' : Int) = (x' : Int) := w64_lo (by omega)
  have e1' : IntKind.i64.wrap (x : Int) = (x : Int) := by rw [w64i, e1]
  have e2' : IntKind.i64.wrap (x' : Int) = (x' : Int) := by rw [w64i, e2]
  have e3' : IntKind.i64.wrap (x'' : Int) = S := by rw [w64i, hS]
  have HSS : Hid (S = wrap64 (x'' : Int) ∧ wrap64 (x : Int) = (x : Int) ∧ wrap64 (x' : Int) = (x' : Int)) := (⟨hS, e1, e2⟩ : _ ∧ _)
  obtain ⟨w8, hw8⟩ : ∃ w8, w8 = w7.alloc (.cells #[.bool true, .int .i64 (x : Int), .int .i64 (x' : Int), .int .i64 S] 46) := ⟨_, rfl⟩
  obtain ⟨P8, hP8⟩ : ∃ P8, P8 = w7.heap.size := ⟨_, rfl⟩
  have k8 : Kb 0 w7 w8 := by rw [hw8]; exact kb_alloc _ _ _
  have b8 : w8.heap[P8]? = some (.cells #[.bool true, .int .i64 (x : Int), .int .i64 (x' : Int), .int .i64 S] 46 (0, 0)) := by rw [hw8, hP8]; exact alloc_new _ _ _
  have z8 : w8.heap.size = P8 + 1 := by rw [hw8, World.size_alloc, hP8]
  have h0 : w8.cell? ⟨P8, 0, none⟩ = some (.bool true) := cell_of b8 rfl
  have h1 : w8.cell? ⟨P8, 1, none⟩ = some (.int .i64 (x : Int)) := cell_of b8 rfl
  have h2 : w8.cell? ⟨P8, 2, none⟩ = some (.int .i64 (x' : Int)) := cell_of b8 rfl
  have h3 : w8.cell? ⟨P8, 3, none⟩ = some (.int .i64 S) := cell_of b8 rfl
  have HO := sp_hok (ok := true) (g := (x : Int)) (l := (x' : Int)) (s := S) w8
  obtain ⟨k7, b7, l1, l2, o7⟩ := (show _ ∧ _ ∧ _ ∧ _ ∧ _ from H7)
  have H8 : Hid (Kb 0 w w8 ∧ w8.heap[w.heap.size + 1]? = some (.cells #[.bool false, .int .i64 0, .int .i64 0, .int .i64 0] 46 (0, 0)) ∧ w.heap.size + 1 < w8.heap.size ∧ g < w8.heap.size ∧ OwnR w8 (.slice (some ⟨g, 0, none⟩) 64 cg) g 64 (ub A) ∧ w8.heap[P8]? = some (.cells #[.bool true, .int .i64 (x : Int), .int .i64 (x' : Int), .int .i64 S] 46 (0, 0)) ∧ P8 < w8.heap.size) := (⟨k7.trans k8, (k8.block _ (Nat.zero_le _) l1).trans b7, by have := k8.size; omega, by have := k8.size; omega, o7.block (fun _ => k8.block _ (Nat.zero_le _) l2), b8, by omega⟩ : _ ∧ _)
  have HW8 : Hid (w8 = w7.alloc (.cells #[.bool true, .int .i64 (x : Int), .int .i64 (x' : Int), .int .i64 S] 46) ∧ P8 = w7.heap.size) := (⟨hw8, hP8⟩ : _ ∧ _)
  clear hc1 hc2 hS e1 e2 hw8 hP8 k8 b8 z8 k7 b7 l1 l2 o7 H7
  go_upto_region 9 with fail
  rw [← (show _ ∧ _ from HW8).1, ← (show _ ∧ _ from HW8).2]
  clear HW8
  go_wp2_with fail
  refine HO.mono ?_
  rintro e w9 ⟨rfl, k9⟩
  obtain ⟨k8, b8, l1, l2, o8, d8, l3⟩ := (show _ ∧ _ ∧ _ ∧ _ ∧ _ ∧ _ ∧ _ from H8)
  have H9 : Hid (Kb 0 w w9 ∧ w9.heap[w.heap.size + 1]? = some (.cells #[.bool false, .int .i64 0, .int .i64 0, .int .i64 0] 46 (0, 0)) ∧ w.heap.size + 1 < w9.heap.size ∧ g < w9.heap.size ∧ OwnR w9 (.slice (some ⟨g, 0, none⟩) 64 cg) g 64 (ub A) ∧ w9.heap[P8]? = some (.cells #[.bool true, .int .i64 (x : Int), .int .i64 (x' : Int), .int .i64 S] 46 (0, 0)) ∧ P8 < w9.heap.size) := (⟨k8.trans k9, (k9.block _ (Nat.zero_le _) l1).trans b8, by have := k9.size; omega, by have := k9.size; omega, o8.block (fun _ => k9.block _ (Nat.zero_le _) l2), (k9.block _ (Nat.zero_le _) l3).trans d8, by have := k9.size; omega⟩ : _ ∧ _)
  clear HO k9 k8 b8 l1 l2 o8 d8 l3 H8 h0 h1 h2 h3
  by_cases hh : Hok true (x : Int) (x' : Int)
  case neg =>
    rw [dc_f hh]
    have HQ : Hid (¬ Hd A (wrap64 (x : Int)) (wrap64 (x' : Int)) (wrap64 (x'' : Int))) := (fun q => hh (by have := q.1; rw [(show _ ∧ _ ∧ _ from HSS).2.1, (show _ ∧ _ ∧ _ from HSS).2.2] at this; exact this) : ¬ Hd A _ _ _)
    have H10 : Hid (Kb 0 w w9 ∧ w9.heap[w.heap.size + 1]? = some (.cells #[.bool false, .int .i64 0, .int .i64 0, .int .i64 0] 46 (0, 0)) ∧ True) := (⟨(show _ ∧ _ from H9).1, (show _ ∧ _ ∧ _ from H9).2.1, trivial⟩ : _ ∧ _)
    clear hh HY H9 HRB HSS
    have bq := (show _ ∧ _ ∧ _ from H10).2.1
    obtain ⟨WF, hWF, bF, zF⟩ := four_set (.bool false) (.int .i64 0) (.int .i64 0) (.int .i64 0) bq
    have f0 : WF.cell? ⟨w.heap.size + 1, 0, none⟩ = some (.bool false) := cell_of bF rfl
    have f1 : WF.cell? ⟨w.heap.size + 1, 1, none⟩ = some (.int .i64 0) := cell_of bF rfl
    have f2 : WF.cell? ⟨w.heap.size + 1, 2, none⟩ = some (.int .i64 0) := cell_of bF rfl
    have f3 : WF.cell? ⟨w.heap.size + 1, 3, none⟩ = some (.int .i64 0) := cell_of bF rfl
    have a0 : w9.cell? ⟨w.heap.size + 1, 0, none⟩ = some (.bool false) := cell_of bq rfl
    have a1 : w9.cell? ⟨w.heap.size + 1, 1, none⟩ = some (.int .i64 0) := cell_of bq rfl
    have a2 : w9.cell? ⟨w.heap.size + 1, 2, none⟩ = some (.int .i64 0) := cell_of bq rfl
    have a3 : w9.cell? ⟨w.heap.size + 1, 3, none⟩ = some (.int .i64 0) := cell_of bq rfl
    have fy : ∀ j, w9.frozen? ⟨w.heap.size + 1, j, none⟩ = false := fun j => frozen_of bq
    have HF : Hid (Kb 0 w WF) := zF.kb (show _ ∧ _ ∧ _ from H10).1 (by omega)
    have HWF : Hid (WF = _) := hWF
    clear hWF bF zF bq H10
    go_wp2_with fail
    rw [← (show WF = _ from HWF)]
    clear HWF
    refine bodyPost_ret (by simp [results, Try.results59, go_sem, f0, f1, f2, f3]; rfl) rfl ?_
    exact ⟨by rw [hdv_f (show ¬ Hd A _ _ _ from HQ)], HF⟩
  rw [dc_t hh]
  have h0 : w9.cell? ⟨P8, 0, none⟩ = some (.bool true) := cell_of (show _ ∧ _ ∧ _ ∧ _ ∧ _ ∧ _ ∧ _ from H9).2.2.2.2.2.1 rfl
  have h1 : w9.cell? ⟨P8, 1, none⟩ = some (.int .i64 (x : Int)) := cell_of (show _ ∧ _ ∧ _ ∧ _ ∧ _ ∧ _ ∧ _ from H9).2.2.2.2.2.1 rfl
  have h2 : w9.cell? ⟨P8, 2, none⟩ = some (.int .i64 (x' : Int)) := cell_of (show _ ∧ _ ∧ _ ∧ _ ∧ _ ∧ _ ∧ _ from H9).2.2.2.2.2.1 rfl
  have h3 : w9.cell? ⟨P8, 3, none⟩ = some (.int .i64 S) := cell_of (show _ ∧ _ ∧ _ ∧ _ ∧ _ ∧ _ ∧ _ from H9).2.2.2.2.2.1 rfl
  have HL := sp_block (ok := true) (g := (x : Int)) (l := (x' : Int)) (s := S) w9
  have HHK : Hid (Hok true (x : Int) (x' : Int)) := hh
  clear hh
  go_wp2_with fail
  refine HL.mono ?_
  rintro e w10 ⟨vb, rfl, rb10, k10⟩
  obtain ⟨k9, b9, l1, l2, o9, d9, l3⟩ := (show _ ∧ _ ∧ _ ∧ _ ∧ _ ∧ _ ∧ _ from H9)
  obtain ⟨pb, cb, rfl, hrb10⟩ := rb10.row
  have o10 := o9.block (W' := w10) (fun _ => k10.block _ (Nat.zero_le _) l2)
  have HE := sp_equal (pa := pb) (pb := some ⟨g, 0, none⟩) (ca := cb) (cb := cg) (C := hdb (x : Int) (x' : Int) S) (D := A) w10 (fun hc => by obtain ⟨a, q1, q2, q3⟩ := hrb10 hc; exact ⟨a, q1, q2, q3⟩) (fun _ => ⟨_, rfl, (show _ ∧ _ from HRB).2, fun i hi => by rw [addr0]; exact o10.cell i hi⟩) (by decide) (by decide)
  have H10 : Hid (Kb 0 w w10 ∧ w10.heap[w.heap.size + 1]? = some (.cells #[.bool false, .int .i64 0, .int .i64 0, .int .i64 0] 46 (0, 0)) ∧ w10.heap[P8]? = some (.cells #[.bool true, .int .i64 (x : Int), .int .i64 (x' : Int), .int .i64 S] 46 (0, 0))) := (⟨k9.trans k10, (k10.block _ (Nat.zero_le _) l1).trans b9, (k10.block _ (Nat.zero_le _) l3).trans d9⟩ : _ ∧ _)
  clear HL rb10 k10 hrb10 k9 b9 l1 l2 o9 d9 l3 H9 h0 h1 h2 h3 o10
  go_wp2_with fail
  refine HE.mono ?_
  rintro e w11 ⟨rfl, kd⟩
  have k11 : Kb 0 w10 w11 := kb_drewN kd
  have e11 : w11.heap = w10.heap := by obtain ⟨d, rfl⟩ := kd; rfl
  have H11 : Hid (Kb 0 w w11 ∧ w11.heap[w.heap.size + 1]? = some (.cells #[.bool false, .int .i64 0, .int .i64 0, .int .i64 0] 46 (0, 0)) ∧ w11.heap[P8]? = some (.cells #[.bool true, .int .i64 (x : Int), .int .i64 (x' : Int), .int .i64 S] 46 (0, 0))) := (⟨(show _ ∧ _ from H10).1.trans k11, by rw [e11]; exact (show _ ∧ _ ∧ _ from H10).2.1, by rw [e11]; exact (show _ ∧ _ ∧ _ from H10).2.2⟩ : _ ∧ _)
  clear HE H10 kd k11 e11
  by_cases hq : Bse 64 64 (hdb (x : Int) (x' : Int) S) A
  · rw [dc_t hq]
    have HQ : Hid (Hd A (wrap64 (x : Int)) (wrap64 (x' : Int)) (wrap64 (x'' : Int))) := (by rw [(show _ ∧ _ ∧ _ from HSS).2.1, (show _ ∧ _ ∧ _ from HSS).2.2, ← (show _ ∧ _ ∧ _ from HSS).1]; exact ⟨HHK, hq.2⟩ : Hd A _ _ _)
    clear hq HY HRB HHK
    have bq := (show _ ∧ _ ∧ _ from H11).2.1
    obtain ⟨WF, hWF, bF, zF⟩ := four_set (.bool true) (.int .i64 (x : Int)) (.int .i64 (x' : Int)) (.int .i64 S) bq
    have f0 : WF.cell? ⟨w.heap.size + 1, 0, none⟩ = some (.bool true) := cell_of bF rfl
    have f1 : WF.cell? ⟨w.heap.size + 1, 1, none⟩ = some (.int .i64 (x : Int)) := cell_of bF rfl
    have f2 : WF.cell? ⟨w.heap.size + 1, 2, none⟩ = some (.int .i64 (x' : Int)) := cell_of bF rfl
    have f3 : WF.cell? ⟨w.heap.size + 1, 3, none⟩ = some (.int .i64 S) := cell_of bF rfl
    have a0 : w11.cell? ⟨w.heap.size + 1, 0, none⟩ = some (.bool false) := cell_of bq rfl
    have a1 : w11.cell? ⟨w.heap.size + 1, 1, none⟩ = some (.int .i64 0) := cell_of bq rfl
    have a2 : w11.cell? ⟨w.heap.size + 1, 2, none⟩ = some (.int .i64 0) := cell_of bq rfl
    have a3 : w11.cell? ⟨w.heap.size + 1, 3, none⟩ = some (.int .i64 0) := cell_of bq rfl
    have fy : ∀ j, w11.frozen? ⟨w.heap.size + 1, j, none⟩ = false := fun j => frozen_of bq
    have h0 : w11.cell? ⟨P8, 0, none⟩ = some (.bool true) := cell_of (show _ ∧ _ ∧ _ from H11).2.2 rfl
    have h1 : w11.cell? ⟨P8, 1, none⟩ = some (.int .i64 (x : Int)) := cell_of (show _ ∧ _ ∧ _ from H11).2.2 rfl
    have h2 : w11.cell? ⟨P8, 2, none⟩ = some (.int .i64 (x' : Int)) := cell_of (show _ ∧ _ ∧ _ from H11).2.2 rfl
    have h3 : w11.cell? ⟨P8, 3, none⟩ = some (.int .i64 S) := cell_of (show _ ∧ _ ∧ _ from H11).2.2 rfl
    have HF : Hid (Kb 0 w WF) := zF.kb (show _ ∧ _ ∧ _ from H11).1 (by omega)
    have HWF : Hid (WF = _) := hWF
    clear hWF bF zF bq H11
    go_wp2_with fail
    rw [← (show WF = _ from HWF)]
    clear HWF
    refine bodyPost_ret (by simp [results, Try.results59, go_sem, f0, f1, f2, f3]; rfl) rfl ?_
    exact ⟨by rw [hdv_t (show Hd A _ _ _ from HQ), (show _ ∧ _ ∧ _ from HSS).2.1, (show _ ∧ _ ∧ _ from HSS).2.2, ← (show _ ∧ _ ∧ _ from HSS).1], HF⟩
  · rw [dc_f hq]
    have HQ : Hid (¬ Hd A (wrap64 (x : Int)) (wrap64 (x' : Int)) (wrap64 (x'' : Int))) := (by rw [(show _ ∧ _ ∧ _ from HSS).2.1, (show _ ∧ _ ∧ _ from HSS).2.2, ← (show _ ∧ _ ∧ _ from HSS).1]; exact fun q => hq ⟨rfl, q.2⟩ : ¬ Hd A _ _ _)
    have H12 : Hid (Kb 0 w w11 ∧ w11.heap[w.heap.size + 1]? = some (.cells #[.bool false, .int .i64 0, .int .i64 0, .int .i64 0] 46 (0, 0)) ∧ True) := (⟨(show _ ∧ _ from H11).1, (show _ ∧ _ ∧ _ from H11).2.1, trivial⟩ : _ ∧ _)
    clear hq HY HRB HHK HSS H11
    have bq := (show _ ∧ _ ∧ _ from H12).2.1
    obtain ⟨WF, hWF, bF, zF⟩ := four_set (.bool false) (.int .i64 0) (.int .i64 0) (.int .i64 0) bq
    have f0 : WF.cell? ⟨w.heap.size + 1, 0, none⟩ = some (.bool false) := cell_of bF rfl
    have f1 : WF.cell? ⟨w.heap.size + 1, 1, none⟩ = some (.int .i64 0) := cell_of bF rfl
    have f2 : WF.cell? ⟨w.heap.size + 1, 2, none⟩ = some (.int .i64 0) := cell_of bF rfl
    have f3 : WF.cell? ⟨w.heap.size + 1, 3, none⟩ = some (.int .i64 0) := cell_of bF rfl
    have a0 : w11.cell? ⟨w.heap.size + 1, 0, none⟩ = some (.bool false) := cell_of bq rfl
    have a1 : w11.cell? ⟨w.heap.size + 1, 1, none⟩ = some (.int .i64 0) := cell_of bq rfl
    have a2 : w11.cell? ⟨w.heap.size + 1, 2, none⟩ = some (.int .i64 0) := cell_of bq rfl
    have a3 : w11.cell? ⟨w.heap.size + 1, 3, none⟩ = some (.int .i64 0) := cell_of bq rfl
    have fy : ∀ j, w11.frozen? ⟨w.heap.size + 1, j, none⟩ = false := fun j => frozen_of bq
    have HF : Hid (Kb 0 w WF) := zF.kb (show _ ∧ _ ∧ _ from H12).1 (by omega)
    have HWF : Hid (WF = _) := hWF
    clear hWF bF zF bq H12
    go_wp2_with fail
    rw [← (show WF = _ from HWF)]
    clear HWF
    refine bodyPost_ret (by simp [results, Try.results59, go_sem, f0, f1, f2, f3]; rfl) rfl ?_
    exact ⟨by rw [hdv_f (show ¬ Hd A _ _ _ from HQ)], HF⟩
end Go.Proofs.Ytaggciimacanbaa.Fo

namespace Go.Proofs.Ytaggciimacanbaa.Fo
open Go.ChangeShapes Go.WideShapes Go.ChangeAt Go.RowKit
set_option linter.unusedVariables false
set_option maxRecDepth 100000
set_option linter.unusedSimpArgs false
set_option maxHeartbeats 8000000 in
theorem sp_ho_1 {v1 v2 : Value} {D : Dd} {b : Int} (w : World) (ha : RowD 0 w v1 v2 D) (hd : BdD D) (hok : ¬ Dok D) :
    Calls Try.prog 24 #[.agg #[v1, v2], .int .i64 b] w fun e w' => e = .returned (.agg #[.bool false, .int .i64 0, .int .i64 0, .int .i64 0]) ∧ Kb 0 w w' := by
  obtain ⟨⟨p1, c1, rfl, -⟩, ⟨p2, c2, rfl, -⟩⟩ := id ha
  obtain ⟨w1, hw1⟩ : ∃ w1, w1 = w.alloc (.cells #[.slice p1 D.n c1, .slice p2 D.m c2] 30) := ⟨_, rfl⟩
  obtain ⟨w2, hw2⟩ : ∃ w2, w2 = w1.alloc (.cells #[.bool false, .int .i64 0, .int .i64 0, .int .i64 0] 46) := ⟨_, rfl⟩
  have k1 : Kb 0 w w1 := by rw [hw1]; exact kb_alloc _ _ _
  have b1 : w1.heap[w.heap.size]? = some (.cells #[.slice p1 D.n c1, .slice p2 D.m c2] 30 (0, 0)) := by rw [hw1]; exact alloc_new _ _ _
  have z1 : w1.heap.size = w.heap.size + 1 := by rw [hw1]; exact World.size_alloc _ _
  have k2 : Kb 0 w1 w2 := by rw [hw2]; exact kb_alloc _ _ _
  have b2 : w2.heap[w.heap.size + 1]? = some (.cells #[.bool false, .int .i64 0, .int .i64 0, .int .i64 0] 46 (0, 0)) := by rw [hw2, ← z1]; exact alloc_new _ _ _
  have z2 : w2.heap.size = w.heap.size + 2 := by rw [hw2, World.size_alloc, z1]
  have b12 := (k2.block _ (Nat.zero_le _) (by omega)).trans b1
  have u0 : w2.cell? ⟨w.heap.size, 0, none⟩ = some (.slice p1 D.n c1) := cell_of b12 rfl
  have u1 : w2.cell? ⟨w.heap.size, 1, none⟩ = some (.slice p2 D.m c2) := cell_of b12 rfl
  have kw2 := k1.trans k2
  have HB : Hid (Kb 0 w w2 ∧ w2.heap[w.heap.size + 1]? = some (.cells #[.bool false, .int .i64 0, .int .i64 0, .int .i64 0] 46 (0, 0)) ∧ w2.heap.size = w.heap.size + 2) := (⟨kw2, b2, z2⟩ : _ ∧ _)
  have HW2 : Hid (w2 = (w.alloc (.cells #[.slice p1 D.n c1, .slice p2 D.m c2] 30)).alloc (.cells #[.bool false, .int .i64 0, .int .i64 0, .int .i64 0] 46)) := (by rw [hw2, hw1] : w2 = _)
  have HI : Calls Try.prog 43 #[.agg #[.slice p1 D.n c1, .slice p2 D.m c2]] w2 fun e w' => e = .returned (.bool false) ∧ Kb 0 w2 w' := by
    have := sp_dok w2 (ha.keep kw2) hd
    rw [dc_f hok] at this
    exact this
  clear hw1 hw2 k1 b1 z1 k2 b2 z2 b12 kw2 ha hd hok
  go_enter Try.func24, Try.ntmps24
  go_upto_region 1 with fail
  rw [← (show w2 = _ from HW2)]
  clear HW2
  go_wp2_with fail
  refine HI.mono ?_
  rintro e w3 ⟨rfl, k3⟩
  clear HI u0 u1
  obtain ⟨kw2, b2, z2⟩ := (show _ ∧ _ ∧ _ from HB)
  have bq := (k3.block _ (Nat.zero_le _) (by omega)).trans b2
  obtain ⟨WF, hWF, bF, zF⟩ := four_set (.bool false) (.int .i64 0) (.int .i64 0) (.int .i64 0) bq
  have f0 : WF.cell? ⟨w.heap.size + 1, 0, none⟩ = some (.bool false) := cell_of bF rfl
  have f1 : WF.cell? ⟨w.heap.size + 1, 1, none⟩ = some (.int .i64 0) := cell_of bF rfl
  have f2 : WF.cell? ⟨w.heap.size + 1, 2, none⟩ = some (.int .i64 0) := cell_of bF rfl
  have f3 : WF.cell? ⟨w.heap.size + 1, 3, none⟩ = some (.int .i64 0) := cell_of bF rfl
  have a0 : w3.cell? ⟨w.heap.size + 1, 0, none⟩ = some (.bool false) := cell_of bq rfl
  have a1 : w3.cell? ⟨w.heap.size + 1, 1, none⟩ = some (.int .i64 0) := cell_of bq rfl
  have a2 : w3.cell? ⟨w.heap.size + 1, 2, none⟩ = some (.int .i64 0) := cell_of bq rfl
  have a3 : w3.cell? ⟨w.heap.size + 1, 3, none⟩ = some (.int .i64 0) := cell_of bq rfl
  have fy : ∀ j, w3.frozen? ⟨w.heap.size + 1, j, none⟩ = false := fun j => frozen_of bq
  have HF : Hid (Kb 0 w WF) := zF.kb (kw2.trans k3) (by omega)
  have HWF : Hid (WF = _) := hWF
  clear hWF bF zF bq HB kw2 b2 z2 k3
  go_wp2_with fail
  rw [← (show WF = _ from HWF)]
  clear HWF
  refine bodyPost_ret (by simp [results, Try.results24, go_sem, f0, f1, f2, f3]; rfl) rfl ?_
  exact ⟨rfl, HF⟩
set_option maxHeartbeats 8000000 in
theorem sp_ho_2 {v1 v2 : Value} {D : Dd} {b : Int} (w : World) (ha : RowD 0 w v1 v2 D) (hd : BdD D) (hok : Dok D) (hb : b < 0) :
    Calls Try.prog 24 #[.agg #[v1, v2], .int .i64 b] w fun e w' => e = .returned (.agg #[.bool false, .int .i64 0, .int .i64 0, .int .i64 0]) ∧ Kb 0 w w' := by
  obtain ⟨⟨p1, c1, rfl, -⟩, ⟨p2, c2, rfl, -⟩⟩ := id ha
  obtain ⟨w1, hw1⟩ : ∃ w1, w1 = w.alloc (.cells #[.slice p1 D.n c1, .slice p2 D.m c2] 30) := ⟨_, rfl⟩
  obtain ⟨w2, hw2⟩ : ∃ w2, w2 = w1.alloc (.cells #[.bool false, .int .i64 0, .int .i64 0, .int .i64 0] 46) := ⟨_, rfl⟩
  have k1 : Kb 0 w w1 := by rw [hw1]; exact kb_alloc _ _ _
  have b1 : w1.heap[w.heap.size]? = some (.cells #[.slice p1 D.n c1, .slice p2 D.m c2] 30 (0, 0)) := by rw [hw1]; exact alloc_new _ _ _
  have z1 : w1.heap.size = w.heap.size + 1 := by rw [hw1]; exact World.size_alloc _ _
  have k2 : Kb 0 w1 w2 := by rw [hw2]; exact kb_alloc _ _ _
  have b2 : w2.heap[w.heap.size + 1]? = some (.cells #[.bool false, .int .i64 0, .int .i64 0, .int .i64 0] 46 (0, 0)) := by rw [hw2, ← z1]; exact alloc_new _ _ _
  have z2 : w2.heap.size = w.heap.size + 2 := by rw [hw2, World.size_alloc, z1]
  have b12 := (k2.block _ (Nat.zero_le _) (by omega)).trans b1
  have u0 : w2.cell? ⟨w.heap.size, 0, none⟩ = some (.slice p1 D.n c1) := cell_of b12 rfl
  have u1 : w2.cell? ⟨w.heap.size, 1, none⟩ = some (.slice p2 D.m c2) := cell_of b12 rfl
  have kw2 := k1.trans k2
  have HB : Hid (Kb 0 w w2 ∧ w2.heap[w.heap.size + 1]? = some (.cells #[.bool false, .int .i64 0, .int .i64 0, .int .i64 0] 46 (0, 0)) ∧ w2.heap.size = w.heap.size + 2) := (⟨kw2, b2, z2⟩ : _ ∧ _)
  have HW2 : Hid (w2 = (w.alloc (.cells #[.slice p1 D.n c1, .slice p2 D.m c2] 30)).alloc (.cells #[.bool false, .int .i64 0, .int .i64 0, .int .i64 0] 46)) := (by rw [hw2, hw1] : w2 = _)
  have HI : Calls Try.prog 43 #[.agg #[.slice p1 D.n c1, .slice p2 D.m c2]] w2 fun e w' => e = .returned (.bool true) ∧ Kb 0 w2 w' := by
    have := sp_dok w2 (ha.keep kw2) hd
    rw [dc_t hok] at this
    exact this
  clear hw1 hw2 k1 b1 z1 k2 b2 z2 b12 kw2 ha hd hok
  go_enter Try.func24, Try.ntmps24
  go_upto_region 1 with fail
  rw [← (show w2 = _ from HW2)]
  clear HW2
  go_wp2_with fail
  refine HI.mono ?_
  rintro e w3 ⟨rfl, k3⟩
  clear HI u0 u1
  obtain ⟨kw2, b2, z2⟩ := (show _ ∧ _ ∧ _ from HB)
  have bq := (k3.block _ (Nat.zero_le _) (by omega)).trans b2
  obtain ⟨WF, hWF, bF, zF⟩ := four_set (.bool false) (.int .i64 0) (.int .i64 0) (.int .i64 0) bq
  have f0 : WF.cell? ⟨w.heap.size + 1, 0, none⟩ = some (.bool false) := cell_of bF rfl
  have f1 : WF.cell? ⟨w.heap.size + 1, 1, none⟩ = some (.int .i64 0) := cell_of bF rfl
  have f2 : WF.cell? ⟨w.heap.size + 1, 2, none⟩ = some (.int .i64 0) := cell_of bF rfl
  have f3 : WF.cell? ⟨w.heap.size + 1, 3, none⟩ = some (.int .i64 0) := cell_of bF rfl
  have a0 : w3.cell? ⟨w.heap.size + 1, 0, none⟩ = some (.bool false) := cell_of bq rfl
  have a1 : w3.cell? ⟨w.heap.size + 1, 1, none⟩ = some (.int .i64 0) := cell_of bq rfl
  have a2 : w3.cell? ⟨w.heap.size + 1, 2, none⟩ = some (.int .i64 0) := cell_of bq rfl
  have a3 : w3.cell? ⟨w.heap.size + 1, 3, none⟩ = some (.int .i64 0) := cell_of bq rfl
  have fy : ∀ j, w3.frozen? ⟨w.heap.size + 1, j, none⟩ = false := fun j => frozen_of bq
  have HF : Hid (Kb 0 w WF) := zF.kb (kw2.trans k3) (by omega)
  have HWF : Hid (WF = _) := hWF
  clear hWF bF zF bq HB kw2 b2 z2 k3
  go_wp2_with fail
  rw [← (show WF = _ from HWF)]
  clear HWF
  refine bodyPost_ret (by simp [results, Try.results24, go_sem, f0, f1, f2, f3]; rfl) rfl ?_
  exact ⟨rfl, HF⟩
set_option maxHeartbeats 8000000 in
theorem sp_ho_3 {v1 v2 : Value} {D : Dd} {b : Int} (w : World) (ha : RowD 0 w v1 v2 D) (hd : BdD D) (hok : Dok D) (hb : 0 ≤ b) (hb2 : 1 < b) :
    Calls Try.prog 24 #[.agg #[v1, v2], .int .i64 b] w fun e w' => e = .returned (.agg #[.bool false, .int .i64 0, .int .i64 0, .int .i64 0]) ∧ Kb 0 w w' := by
  obtain ⟨⟨p1, c1, rfl, -⟩, ⟨p2, c2, rfl, -⟩⟩ := id ha
  obtain ⟨w1, hw1⟩ : ∃ w1, w1 = w.alloc (.cells #[.slice p1 D.n c1, .slice p2 D.m c2] 30) := ⟨_, rfl⟩
  obtain ⟨w2, hw2⟩ : ∃ w2, w2 = w1.alloc (.cells #[.bool false, .int .i64 0, .int .i64 0, .int .i64 0] 46) := ⟨_, rfl⟩
  have k1 : Kb 0 w w1 := by rw [hw1]; exact kb_alloc _ _ _
  have b1 : w1.heap[w.heap.size]? = some (.cells #[.slice p1 D.n c1, .slice p2 D.m c2] 30 (0, 0)) := by rw [hw1]; exact alloc_new _ _ _
  have z1 : w1.heap.size = w.heap.size + 1 := by rw [hw1]; exact World.size_alloc _ _
  have k2 : Kb 0 w1 w2 := by rw [hw2]; exact kb_alloc _ _ _
  have b2 : w2.heap[w.heap.size + 1]? = some (.cells #[.bool false, .int .i64 0, .int .i64 0, .int .i64 0] 46 (0, 0)) := by rw [hw2, ← z1]; exact alloc_new _ _ _
  have z2 : w2.heap.size = w.heap.size + 2 := by rw [hw2, World.size_alloc, z1]
  have b12 := (k2.block _ (Nat.zero_le _) (by omega)).trans b1
  have u0 : w2.cell? ⟨w.heap.size, 0, none⟩ = some (.slice p1 D.n c1) := cell_of b12 rfl
  have u1 : w2.cell? ⟨w.heap.size, 1, none⟩ = some (.slice p2 D.m c2) := cell_of b12 rfl
  have kw2 := k1.trans k2
  have HB : Hid (Kb 0 w w2 ∧ w2.heap[w.heap.size + 1]? = some (.cells #[.bool false, .int .i64 0, .int .i64 0, .int .i64 0] 46 (0, 0)) ∧ w2.heap.size = w.heap.size + 2) := (⟨kw2, b2, z2⟩ : _ ∧ _)
  have HW2 : Hid (w2 = (w.alloc (.cells #[.slice p1 D.n c1, .slice p2 D.m c2] 30)).alloc (.cells #[.bool false, .int .i64 0, .int .i64 0, .int .i64 0] 46)) := (by rw [hw2, hw1] : w2 = _)
  have HI : Calls Try.prog 43 #[.agg #[.slice p1 D.n c1, .slice p2 D.m c2]] w2 fun e w' => e = .returned (.bool true) ∧ Kb 0 w2 w' := by
    have := sp_dok w2 (ha.keep kw2) hd
    rw [dc_t hok] at this
    exact this
  clear hw1 hw2 k1 b1 z1 k2 b2 z2 b12 kw2 ha hd hok
  go_enter Try.func24, Try.ntmps24
  go_upto_region 1 with fail
  rw [← (show w2 = _ from HW2)]
  clear HW2
  go_wp2_with fail
  refine HI.mono ?_
  rintro e w3 ⟨rfl, k3⟩
  clear HI u0 u1
  obtain ⟨kw2, b2, z2⟩ := (show _ ∧ _ ∧ _ from HB)
  have bq := (k3.block _ (Nat.zero_le _) (by omega)).trans b2
  obtain ⟨WF, hWF, bF, zF⟩ := four_set (.bool false) (.int .i64 0) (.int .i64 0) (.int .i64 0) bq
  have f0 : WF.cell? ⟨w.heap.size + 1, 0, none⟩ = some (.bool false) := cell_of bF rfl
  have f1 : WF.cell? ⟨w.heap.size + 1, 1, none⟩ = some (.int .i64 0) := cell_of bF rfl
  have f2 : WF.cell? ⟨w.heap.size + 1, 2, none⟩ = some (.int .i64 0) := cell_of bF rfl
  have f3 : WF.cell? ⟨w.heap.size + 1, 3, none⟩ = some (.int .i64 0) := cell_of bF rfl
  have a0 : w3.cell? ⟨w.heap.size + 1, 0, none⟩ = some (.bool false) := cell_of bq rfl
  have a1 : w3.cell? ⟨w.heap.size + 1, 1, none⟩ = some (.int .i64 0) := cell_of bq rfl
  have a2 : w3.cell? ⟨w.heap.size + 1, 2, none⟩ = some (.int .i64 0) := cell_of bq rfl
  have a3 : w3.cell? ⟨w.heap.size + 1, 3, none⟩ = some (.int .i64 0) := cell_of bq rfl
  have fy : ∀ j, w3.frozen? ⟨w.heap.size + 1, j, none⟩ = false := fun j => frozen_of bq
  have HF : Hid (Kb 0 w WF) := zF.kb (kw2.trans k3) (by omega)
  have HWF : Hid (WF = _) := hWF
  clear hWF bF zF bq HB kw2 b2 z2 k3
  go_wp2_with fail
  rw [← (show WF = _ from HWF)]
  clear HWF
  refine bodyPost_ret (by simp [results, Try.results24, go_sem, f0, f1, f2, f3]; rfl) rfl ?_
  exact ⟨rfl, HF⟩
set_option maxHeartbeats 8000000 in
theorem sp_ho_4 {v1 v2 : Value} {D : Dd} {b : Int} {ok : Bool} {g l s : Int} (w : World) (ha : RowD 0 w v1 v2 D) (hd : BdD D) (hok : Dok D) (hb : ¬ b < 0) (hb2 : ¬ 1 < b) (hcall : ∀ x1 x2 W, RowD 0 W x1 x2 D → Calls Try.prog 59 #[.agg #[x1, x2], .int .i64 b] W fun e w' => e = .returned (.agg #[.bool ok, .int .i64 g, .int .i64 l, .int .i64 s]) ∧ Kb 0 W w') :
    Calls Try.prog 24 #[.agg #[v1, v2], .int .i64 b] w fun e w' => e = .returned (.agg #[.bool ok, .int .i64 g, .int .i64 l, .int .i64 s]) ∧ Kb 0 w w' := by
  obtain ⟨⟨p1, c1, rfl, -⟩, ⟨p2, c2, rfl, -⟩⟩ := id ha
  obtain ⟨w1, hw1⟩ : ∃ w1, w1 = w.alloc (.cells #[.slice p1 D.n c1, .slice p2 D.m c2] 30) := ⟨_, rfl⟩
  obtain ⟨w2, hw2⟩ : ∃ w2, w2 = w1.alloc (.cells #[.bool false, .int .i64 0, .int .i64 0, .int .i64 0] 46) := ⟨_, rfl⟩
  have k1 : Kb 0 w w1 := by rw [hw1]; exact kb_alloc _ _ _
  have b1 : w1.heap[w.heap.size]? = some (.cells #[.slice p1 D.n c1, .slice p2 D.m c2] 30 (0, 0)) := by rw [hw1]; exact alloc_new _ _ _
  have z1 : w1.heap.size = w.heap.size + 1 := by rw [hw1]; exact World.size_alloc _ _
  have k2 : Kb 0 w1 w2 := by rw [hw2]; exact kb_alloc _ _ _
  have b2 : w2.heap[w.heap.size + 1]? = some (.cells #[.bool false, .int .i64 0, .int .i64 0, .int .i64 0] 46 (0, 0)) := by rw [hw2, ← z1]; exact alloc_new _ _ _
  have z2 : w2.heap.size = w.heap.size + 2 := by rw [hw2, World.size_alloc, z1]
  have b12 := (k2.block _ (Nat.zero_le _) (by omega)).trans b1
  have u0 : w2.cell? ⟨w.heap.size, 0, none⟩ = some (.slice p1 D.n c1) := cell_of b12 rfl
  have u1 : w2.cell? ⟨w.heap.size, 1, none⟩ = some (.slice p2 D.m c2) := cell_of b12 rfl
  have kw2 := k1.trans k2
  have HB : Hid (Kb 0 w w2 ∧ w2.heap[w.heap.size + 1]? = some (.cells #[.bool false, .int .i64 0, .int .i64 0, .int .i64 0] 46 (0, 0)) ∧ w2.heap.size = w.heap.size + 2) := (⟨kw2, b2, z2⟩ : _ ∧ _)
  have HW2 : Hid (w2 = (w.alloc (.cells #[.slice p1 D.n c1, .slice p2 D.m c2] 30)).alloc (.cells #[.bool false, .int .i64 0, .int .i64 0, .int .i64 0] 46)) := (by rw [hw2, hw1] : w2 = _)
  have HI : Calls Try.prog 43 #[.agg #[.slice p1 D.n c1, .slice p2 D.m c2]] w2 fun e w' => e = .returned (.bool true) ∧ Kb 0 w2 w' := by
    have := sp_dok w2 (ha.keep kw2) hd
    rw [dc_t hok] at this
    exact this
  have HCA : Hid (∀ W, Kb 0 w2 W → Calls Try.prog 59 #[.agg #[.slice p1 D.n c1, .slice p2 D.m c2], .int .i64 b] W fun e w' => e = .returned (.agg #[.bool ok, .int .i64 g, .int .i64 l, .int .i64 s]) ∧ Kb 0 W w') := (fun W k => hcall _ _ W (ha.keep (kw2.trans k)) : ∀ W, _)
  clear hw1 hw2 k1 b1 z1 k2 b2 z2 b12 kw2 ha hd hok hcall
  go_enter Try.func24, Try.ntmps24
  go_upto_region 1 with fail
  rw [← (show w2 = _ from HW2)]
  clear HW2
  go_wp2_with fail
  refine HI.mono ?_
  rintro e w3 ⟨rfl, k3⟩
  have u30 := k3.cell u0
  have u31 := k3.cell u1
  have HC := (show ∀ W, Kb 0 w2 W → _ from HCA) w3 k3
  have HK3 : Hid (Kb 0 w2 w3) := k3
  clear HI u0 u1 k3 HCA
  go_wp2_with fail
  refine HC.mono ?_
  rintro e w4 ⟨rfl, k4⟩
  have k24 := (show Kb 0 w2 w3 from HK3).trans k4
  clear HC k4 u30 u31 HK3
  obtain ⟨kw2, b2, z2⟩ := (show _ ∧ _ ∧ _ from HB)
  have bq := (k24.block _ (Nat.zero_le _) (by omega)).trans b2
  obtain ⟨WF, hWF, bF, zF⟩ := four_set (.bool ok) (.int .i64 g) (.int .i64 l) (.int .i64 s) bq
  have f0 : WF.cell? ⟨w.heap.size + 1, 0, none⟩ = some (.bool ok) := cell_of bF rfl
  have f1 : WF.cell? ⟨w.heap.size + 1, 1, none⟩ = some (.int .i64 g) := cell_of bF rfl
  have f2 : WF.cell? ⟨w.heap.size + 1, 2, none⟩ = some (.int .i64 l) := cell_of bF rfl
  have f3 : WF.cell? ⟨w.heap.size + 1, 3, none⟩ = some (.int .i64 s) := cell_of bF rfl
  have a0 : w4.cell? ⟨w.heap.size + 1, 0, none⟩ = some (.bool false) := cell_of bq rfl
  have a1 : w4.cell? ⟨w.heap.size + 1, 1, none⟩ = some (.int .i64 0) := cell_of bq rfl
  have a2 : w4.cell? ⟨w.heap.size + 1, 2, none⟩ = some (.int .i64 0) := cell_of bq rfl
  have a3 : w4.cell? ⟨w.heap.size + 1, 3, none⟩ = some (.int .i64 0) := cell_of bq rfl
  have fy : ∀ j, w4.frozen? ⟨w.heap.size + 1, j, none⟩ = false := fun j => frozen_of bq
  have HF : Hid (Kb 0 w WF) := zF.kb (kw2.trans k24) (by omega)
  have HWF : Hid (WF = _) := hWF
  clear hWF bF zF bq HB kw2 b2 z2 k24
  go_wp2_with fail
  rw [← (show WF = _ from HWF)]
  clear HWF
  refine bodyPost_ret (by simp [results, Try.results24, go_sem, f0, f1, f2, f3]; rfl) rfl ?_
  exact ⟨rfl, HF⟩
set_option maxHeartbeats 8000000 in
theorem im_ho_1 {v1 v2 : Value} {D : Dd} {b : Int} (w : World) (ha : RowD 0 w v1 v2 D) (hd : BdD D) (hok : ¬ Dok D) :
    Calls Try.prog 25 #[.agg #[v1, v2], .int .i64 b] w fun e w' => e = .returned (.agg #[.bool false, .int .i64 0, .int .i64 0, .int .i64 0]) ∧ Kb 0 w w' := by
  obtain ⟨⟨p1, c1, rfl, -⟩, ⟨p2, c2, rfl, -⟩⟩ := id ha
  obtain ⟨w1, hw1⟩ : ∃ w1, w1 = w.alloc (.cells #[.slice p1 D.n c1, .slice p2 D.m c2] 30) := ⟨_, rfl⟩
  obtain ⟨w2, hw2⟩ : ∃ w2, w2 = w1.alloc (.cells #[.bool false, .int .i64 0, .int .i64 0, .int .i64 0] 46) := ⟨_, rfl⟩
  have k1 : Kb 0 w w1 := by rw [hw1]; exact kb_alloc _ _ _
  have b1 : w1.heap[w.heap.size]? = some (.cells #[.slice p1 D.n c1, .slice p2 D.m c2] 30 (0, 0)) := by rw [hw1]; exact alloc_new _ _ _
  have z1 : w1.heap.size = w.heap.size + 1 := by rw [hw1]; exact World.size_alloc _ _
  have k2 : Kb 0 w1 w2 := by rw [hw2]; exact kb_alloc _ _ _
  have b2 : w2.heap[w.heap.size + 1]? = some (.cells #[.bool false, .int .i64 0, .int .i64 0, .int .i64 0] 46 (0, 0)) := by rw [hw2, ← z1]; exact alloc_new _ _ _
  have z2 : w2.heap.size = w.heap.size + 2 := by rw [hw2, World.size_alloc, z1]
  have b12 := (k2.block _ (Nat.zero_le _) (by omega)).trans b1
  have u0 : w2.cell? ⟨w.heap.size, 0, none⟩ = some (.slice p1 D.n c1) := cell_of b12 rfl
  have u1 : w2.cell? ⟨w.heap.size, 1, none⟩ = some (.slice p2 D.m c2) := cell_of b12 rfl
  have kw2 := k1.trans k2
  have HB : Hid (Kb 0 w w2 ∧ w2.heap[w.heap.size + 1]? = some (.cells #[.bool false, .int .i64 0, .int .i64 0, .int .i64 0] 46 (0, 0)) ∧ w2.heap.size = w.heap.size + 2) := (⟨kw2, b2, z2⟩ : _ ∧ _)
  have HW2 : Hid (w2 = (w.alloc (.cells #[.slice p1 D.n c1, .slice p2 D.m c2] 30)).alloc (.cells #[.bool false, .int .i64 0, .int .i64 0, .int .i64 0] 46)) := (by rw [hw2, hw1] : w2 = _)
  have HI := im_settled_no w2 (ha.keep kw2) hd hok
  clear hw1 hw2 k1 b1 z1 k2 b2 z2 b12 kw2 ha hd hok
  go_enter Try.func25, Try.ntmps25
  go_upto_region 1 with fail
  rw [← (show w2 = _ from HW2)]
  clear HW2
  go_wp2_with fail
  refine HI.mono ?_
  rintro e w3 ⟨rfl, k3⟩
  clear HI u0 u1
  obtain ⟨kw2, b2, z2⟩ := (show _ ∧ _ ∧ _ from HB)
  have bq := (k3.block _ (Nat.zero_le _) (by omega)).trans b2
  obtain ⟨WF, hWF, bF, zF⟩ := four_set (.bool false) (.int .i64 0) (.int .i64 0) (.int .i64 0) bq
  have f0 : WF.cell? ⟨w.heap.size + 1, 0, none⟩ = some (.bool false) := cell_of bF rfl
  have f1 : WF.cell? ⟨w.heap.size + 1, 1, none⟩ = some (.int .i64 0) := cell_of bF rfl
  have f2 : WF.cell? ⟨w.heap.size + 1, 2, none⟩ = some (.int .i64 0) := cell_of bF rfl
  have f3 : WF.cell? ⟨w.heap.size + 1, 3, none⟩ = some (.int .i64 0) := cell_of bF rfl
  have a0 : w3.cell? ⟨w.heap.size + 1, 0, none⟩ = some (.bool false) := cell_of bq rfl
  have a1 : w3.cell? ⟨w.heap.size + 1, 1, none⟩ = some (.int .i64 0) := cell_of bq rfl
  have a2 : w3.cell? ⟨w.heap.size + 1, 2, none⟩ = some (.int .i64 0) := cell_of bq rfl
  have a3 : w3.cell? ⟨w.heap.size + 1, 3, none⟩ = some (.int .i64 0) := cell_of bq rfl
  have fy : ∀ j, w3.frozen? ⟨w.heap.size + 1, j, none⟩ = false := fun j => frozen_of bq
  have HF : Hid (Kb 0 w WF) := zF.kb (kw2.trans k3) (by omega)
  have HWF : Hid (WF = _) := hWF
  clear hWF bF zF bq HB kw2 b2 z2 k3
  go_wp2_with fail
  rw [← (show WF = _ from HWF)]
  clear HWF
  refine bodyPost_ret (by simp [results, Try.results25, go_sem, f0, f1, f2, f3]; rfl) rfl ?_
  exact ⟨rfl, HF⟩
set_option maxHeartbeats 8000000 in
theorem im_ho_2 {v1 v2 : Value} {D : Dd} {b : Int} (w : World) (ha : RowD 0 w v1 v2 D) (hd : BdD D) (hok : Dok D) (hb : b < 0) :
    Calls Try.prog 25 #[.agg #[v1, v2], .int .i64 b] w fun e w' => e = .returned (.agg #[.bool false, .int .i64 0, .int .i64 0, .int .i64 0]) ∧ Kb 0 w w' := by
  obtain ⟨⟨p1, c1, rfl, -⟩, ⟨p2, c2, rfl, -⟩⟩ := id ha
  obtain ⟨w1, hw1⟩ : ∃ w1, w1 = w.alloc (.cells #[.slice p1 D.n c1, .slice p2 D.m c2] 30) := ⟨_, rfl⟩
  obtain ⟨w2, hw2⟩ : ∃ w2, w2 = w1.alloc (.cells #[.bool false, .int .i64 0, .int .i64 0, .int .i64 0] 46) := ⟨_, rfl⟩
  have k1 : Kb 0 w w1 := by rw [hw1]; exact kb_alloc _ _ _
  have b1 : w1.heap[w.heap.size]? = some (.cells #[.slice p1 D.n c1, .slice p2 D.m c2] 30 (0, 0)) := by rw [hw1]; exact alloc_new _ _ _
  have z1 : w1.heap.size = w.heap.size + 1 := by rw [hw1]; exact World.size_alloc _ _
  have k2 : Kb 0 w1 w2 := by rw [hw2]; exact kb_alloc _ _ _
  have b2 : w2.heap[w.heap.size + 1]? = some (.cells #[.bool false, .int .i64 0, .int .i64 0, .int .i64 0] 46 (0, 0)) := by rw [hw2, ← z1]; exact alloc_new _ _ _
  have z2 : w2.heap.size = w.heap.size + 2 := by rw [hw2, World.size_alloc, z1]
  have b12 := (k2.block _ (Nat.zero_le _) (by omega)).trans b1
  have u0 : w2.cell? ⟨w.heap.size, 0, none⟩ = some (.slice p1 D.n c1) := cell_of b12 rfl
  have u1 : w2.cell? ⟨w.heap.size, 1, none⟩ = some (.slice p2 D.m c2) := cell_of b12 rfl
  have kw2 := k1.trans k2
  have HB : Hid (Kb 0 w w2 ∧ w2.heap[w.heap.size + 1]? = some (.cells #[.bool false, .int .i64 0, .int .i64 0, .int .i64 0] 46 (0, 0)) ∧ w2.heap.size = w.heap.size + 2) := (⟨kw2, b2, z2⟩ : _ ∧ _)
  have HW2 : Hid (w2 = (w.alloc (.cells #[.slice p1 D.n c1, .slice p2 D.m c2] 30)).alloc (.cells #[.bool false, .int .i64 0, .int .i64 0, .int .i64 0] 46)) := (by rw [hw2, hw1] : w2 = _)
  have HI := im_settled w2 (ha.keep kw2) hd hok
  clear hw1 hw2 k1 b1 z1 k2 b2 z2 b12 kw2 ha hd hok
  go_enter Try.func25, Try.ntmps25
  go_upto_region 1 with fail
  rw [← (show w2 = _ from HW2)]
  clear HW2
  go_wp2_with fail
  refine HI.mono ?_
  rintro e w3 ⟨dv, rfl, hD⟩
  have k3 := hD.kb
  clear HI u0 u1 hD
  obtain ⟨kw2, b2, z2⟩ := (show _ ∧ _ ∧ _ from HB)
  have bq := (k3.block _ (Nat.zero_le _) (by omega)).trans b2
  obtain ⟨WF, hWF, bF, zF⟩ := four_set (.bool false) (.int .i64 0) (.int .i64 0) (.int .i64 0) bq
  have f0 : WF.cell? ⟨w.heap.size + 1, 0, none⟩ = some (.bool false) := cell_of bF rfl
  have f1 : WF.cell? ⟨w.heap.size + 1, 1, none⟩ = some (.int .i64 0) := cell_of bF rfl
  have f2 : WF.cell? ⟨w.heap.size + 1, 2, none⟩ = some (.int .i64 0) := cell_of bF rfl
  have f3 : WF.cell? ⟨w.heap.size + 1, 3, none⟩ = some (.int .i64 0) := cell_of bF rfl
  have a0 : w3.cell? ⟨w.heap.size + 1, 0, none⟩ = some (.bool false) := cell_of bq rfl
  have a1 : w3.cell? ⟨w.heap.size + 1, 1, none⟩ = some (.int .i64 0) := cell_of bq rfl
  have a2 : w3.cell? ⟨w.heap.size + 1, 2, none⟩ = some (.int .i64 0) := cell_of bq rfl
  have a3 : w3.cell? ⟨w.heap.size + 1, 3, none⟩ = some (.int .i64 0) := cell_of bq rfl
  have fy : ∀ j, w3.frozen? ⟨w.heap.size + 1, j, none⟩ = false := fun j => frozen_of bq
  have HF : Hid (Kb 0 w WF) := zF.kb (kw2.trans k3) (by omega)
  have HWF : Hid (WF = _) := hWF
  clear hWF bF zF bq HB kw2 b2 z2 k3
  go_wp2_with fail
  rw [← (show WF = _ from HWF)]
  clear HWF
  refine bodyPost_ret (by simp [results, Try.results25, go_sem, f0, f1, f2, f3]; rfl) rfl ?_
  exact ⟨rfl, HF⟩
set_option maxHeartbeats 8000000 in
theorem im_ho_3 {v1 v2 : Value} {D : Dd} {b : Int} (w : World) (ha : RowD 0 w v1 v2 D) (hd : BdD D) (hok : Dok D) (hb : 0 ≤ b) (hb2 : 2 ≤ b) :
    Calls Try.prog 25 #[.agg #[v1, v2], .int .i64 b] w fun e w' => e = .returned (.agg #[.bool false, .int .i64 0, .int .i64 0, .int .i64 0]) ∧ Kb 0 w w' := by
  obtain ⟨⟨p1, c1, rfl, -⟩, ⟨p2, c2, rfl, -⟩⟩ := id ha
  obtain ⟨w1, hw1⟩ : ∃ w1, w1 = w.alloc (.cells #[.slice p1 D.n c1, .slice p2 D.m c2] 30) := ⟨_, rfl⟩
  obtain ⟨w2, hw2⟩ : ∃ w2, w2 = w1.alloc (.cells #[.bool false, .int .i64 0, .int .i64 0, .int .i64 0] 46) := ⟨_, rfl⟩
  have k1 : Kb 0 w w1 := by rw [hw1]; exact kb_alloc _ _ _
  have b1 : w1.heap[w.heap.size]? = some (.cells #[.slice p1 D.n c1, .slice p2 D.m c2] 30 (0, 0)) := by rw [hw1]; exact alloc_new _ _ _
  have z1 : w1.heap.size = w.heap.size + 1 := by rw [hw1]; exact World.size_alloc _ _
  have k2 : Kb 0 w1 w2 := by rw [hw2]; exact kb_alloc _ _ _
  have b2 : w2.heap[w.heap.size + 1]? = some (.cells #[.bool false, .int .i64 0, .int .i64 0, .int .i64 0] 46 (0, 0)) := by rw [hw2, ← z1]; exact alloc_new _ _ _
  have z2 : w2.heap.size = w.heap.size + 2 := by rw [hw2, World.size_alloc, z1]
  have b12 := (k2.block _ (Nat.zero_le _) (by omega)).trans b1
  have u0 : w2.cell? ⟨w.heap.size, 0, none⟩ = some (.slice p1 D.n c1) := cell_of b12 rfl
  have u1 : w2.cell? ⟨w.heap.size, 1, none⟩ = some (.slice p2 D.m c2) := cell_of b12 rfl
  have kw2 := k1.trans k2
  have HB : Hid (Kb 0 w w2 ∧ w2.heap[w.heap.size + 1]? = some (.cells #[.bool false, .int .i64 0, .int .i64 0, .int .i64 0] 46 (0, 0)) ∧ w2.heap.size = w.heap.size + 2) := (⟨kw2, b2, z2⟩ : _ ∧ _)
  have HW2 : Hid (w2 = (w.alloc (.cells #[.slice p1 D.n c1, .slice p2 D.m c2] 30)).alloc (.cells #[.bool false, .int .i64 0, .int .i64 0, .int .i64 0] 46)) := (by rw [hw2, hw1] : w2 = _)
  have HI := im_settled w2 (ha.keep kw2) hd hok
  clear hw1 hw2 k1 b1 z1 k2 b2 z2 b12 kw2 ha hd hok
  go_enter Try.func25, Try.ntmps25
  go_upto_region 1 with fail
  rw [← (show w2 = _ from HW2)]
  clear HW2
  go_wp2_with fail
  refine HI.mono ?_
  rintro e w3 ⟨dv, rfl, hD⟩
  have k3 := hD.kb
  clear HI u0 u1 hD
  obtain ⟨kw2, b2, z2⟩ := (show _ ∧ _ ∧ _ from HB)
  have bq := (k3.block _ (Nat.zero_le _) (by omega)).trans b2
  obtain ⟨WF, hWF, bF, zF⟩ := four_set (.bool false) (.int .i64 0) (.int .i64 0) (.int .i64 0) bq
  have f0 : WF.cell? ⟨w.heap.size + 1, 0, none⟩ = some (.bool false) := cell_of bF rfl
  have f1 : WF.cell? ⟨w.heap.size + 1, 1, none⟩ = some (.int .i64 0) := cell_of bF rfl
  have f2 : WF.cell? ⟨w.heap.size + 1, 2, none⟩ = some (.int .i64 0) := cell_of bF rfl
  have f3 : WF.cell? ⟨w.heap.size + 1, 3, none⟩ = some (.int .i64 0) := cell_of bF rfl
  have a0 : w3.cell? ⟨w.heap.size + 1, 0, none⟩ = some (.bool false) := cell_of bq rfl
  have a1 : w3.cell? ⟨w.heap.size + 1, 1, none⟩ = some (.int .i64 0) := cell_of bq rfl
  have a2 : w3.cell? ⟨w.heap.size + 1, 2, none⟩ = some (.int .i64 0) := cell_of bq rfl
  have a3 : w3.cell? ⟨w.heap.size + 1, 3, none⟩ = some (.int .i64 0) := cell_of bq rfl
  have fy : ∀ j, w3.frozen? ⟨w.heap.size + 1, j, none⟩ = false := fun j => frozen_of bq
  have HF : Hid (Kb 0 w WF) := zF.kb (kw2.trans k3) (by omega)
  have HWF : Hid (WF = _) := hWF
  clear hWF bF zF bq HB kw2 b2 z2 k3
  go_wp2_with fail
  rw [← (show WF = _ from HWF)]
  clear HWF
  refine bodyPost_ret (by simp [results, Try.results25, go_sem, f0, f1, f2, f3]; rfl) rfl ?_
  exact ⟨rfl, HF⟩
set_option maxHeartbeats 8000000 in
theorem im_ho_4 {v1 v2 : Value} {D : Dd} {b : Int} {ok : Bool} {g l s : Int} (w : World) (ha : RowD 0 w v1 v2 D) (hd : BdD D) (hok : Dok D) (hb : ¬ b < 0) (hb2 : ¬ 2 ≤ b) (hcall : ∀ w2 dv W, Dr w2 dv (stl (dpg D) D.Q D.m) 0 D.Q (.slice none 0 0) W → Calls Try.prog 61 #[.pointer (some ⟨dv, 0, none⟩), .int .i64 b] W fun e w' => e = .returned (.agg #[.bool ok, .int .i64 g, .int .i64 l, .int .i64 s]) ∧ Kb 0 W w') :
    Calls Try.prog 25 #[.agg #[v1, v2], .int .i64 b] w fun e w' => e = .returned (.agg #[.bool ok, .int .i64 g, .int .i64 l, .int .i64 s]) ∧ Kb 0 w w' := by
  obtain ⟨⟨p1, c1, rfl, -⟩, ⟨p2, c2, rfl, -⟩⟩ := id ha
  obtain ⟨w1, hw1⟩ : ∃ w1, w1 = w.alloc (.cells #[.slice p1 D.n c1, .slice p2 D.m c2] 30) := ⟨_, rfl⟩
  obtain ⟨w2, hw2⟩ : ∃ w2, w2 = w1.alloc (.cells #[.bool false, .int .i64 0, .int .i64 0, .int .i64 0] 46) := ⟨_, rfl⟩
  have k1 : Kb 0 w w1 := by rw [hw1]; exact kb_alloc _ _ _
  have b1 : w1.heap[w.heap.size]? = some (.cells #[.slice p1 D.n c1, .slice p2 D.m c2] 30 (0, 0)) := by rw [hw1]; exact alloc_new _ _ _
  have z1 : w1.heap.size = w.heap.size + 1 := by rw [hw1]; exact World.size_alloc _ _
  have k2 : Kb 0 w1 w2 := by rw [hw2]; exact kb_alloc _ _ _
  have b2 : w2.heap[w.heap.size + 1]? = some (.cells #[.bool false, .int .i64 0, .int .i64 0, .int .i64 0] 46 (0, 0)) := by rw [hw2, ← z1]; exact alloc_new _ _ _
  have z2 : w2.heap.size = w.heap.size + 2 := by rw [hw2, World.size_alloc, z1]
  have b12 := (k2.block _ (Nat.zero_le _) (by omega)).trans b1
  have u0 : w2.cell? ⟨w.heap.size, 0, none⟩ = some (.slice p1 D.n c1) := cell_of b12 rfl
  have u1 : w2.cell? ⟨w.heap.size, 1, none⟩ = some (.slice p2 D.m c2) := cell_of b12 rfl
  have kw2 := k1.trans k2
  have HB : Hid (Kb 0 w w2 ∧ w2.heap[w.heap.size + 1]? = some (.cells #[.bool false, .int .i64 0, .int .i64 0, .int .i64 0] 46 (0, 0)) ∧ w2.heap.size = w.heap.size + 2) := (⟨kw2, b2, z2⟩ : _ ∧ _)
  have HW2 : Hid (w2 = (w.alloc (.cells #[.slice p1 D.n c1, .slice p2 D.m c2] 30)).alloc (.cells #[.bool false, .int .i64 0, .int .i64 0, .int .i64 0] 46)) := (by rw [hw2, hw1] : w2 = _)
  have HI := im_settled w2 (ha.keep kw2) hd hok
  have HCA : Hid (∀ dv W, Dr w2 dv (stl (dpg D) D.Q D.m) 0 D.Q (.slice none 0 0) W → Calls Try.prog 61 #[.pointer (some ⟨dv, 0, none⟩), .int .i64 b] W fun e w' => e = .returned (.agg #[.bool ok, .int .i64 g, .int .i64 l, .int .i64 s]) ∧ Kb 0 W w') := (fun dv W h => hcall w2 dv W h : ∀ dv W, _)
  clear hw1 hw2 k1 b1 z1 k2 b2 z2 b12 kw2 ha hd hok hcall
  go_enter Try.func25, Try.ntmps25
  go_upto_region 1 with fail
  rw [← (show w2 = _ from HW2)]
  clear HW2
  go_wp2_with fail
  refine HI.mono ?_
  rintro e w3 ⟨dv, rfl, hD⟩
  have HK3 : Hid (Kb 0 w2 w3) := hD.kb
  have HC := (show ∀ dv W, _ from HCA) dv w3 hD
  clear HI u0 u1 hD HCA
  go_wp2_with fail
  refine HC.mono ?_
  rintro e w4 ⟨rfl, k4⟩
  have k24 := (show Kb 0 w2 w3 from HK3).trans k4
  clear HC k4 HK3
  obtain ⟨kw2, b2, z2⟩ := (show _ ∧ _ ∧ _ from HB)
  have bq := (k24.block _ (Nat.zero_le _) (by omega)).trans b2
  obtain ⟨WF, hWF, bF, zF⟩ := four_set (.bool ok) (.int .i64 g) (.int .i64 l) (.int .i64 s) bq
  have f0 : WF.cell? ⟨w.heap.size + 1, 0, none⟩ = some (.bool ok) := cell_of bF rfl
  have f1 : WF.cell? ⟨w.heap.size + 1, 1, none⟩ = some (.int .i64 g) := cell_of bF rfl
  have f2 : WF.cell? ⟨w.heap.size + 1, 2, none⟩ = some (.int .i64 l) := cell_of bF rfl
  have f3 : WF.cell? ⟨w.heap.size + 1, 3, none⟩ = some (.int .i64 s) := cell_of bF rfl
  have a0 : w4.cell? ⟨w.heap.size + 1, 0, none⟩ = some (.bool false) := cell_of bq rfl
  have a1 : w4.cell? ⟨w.heap.size + 1, 1, none⟩ = some (.int .i64 0) := cell_of bq rfl
  have a2 : w4.cell? ⟨w.heap.size + 1, 2, none⟩ = some (.int .i64 0) := cell_of bq rfl
  have a3 : w4.cell? ⟨w.heap.size + 1, 3, none⟩ = some (.int .i64 0) := cell_of bq rfl
  have fy : ∀ j, w4.frozen? ⟨w.heap.size + 1, j, none⟩ = false := fun j => frozen_of bq
  have HF : Hid (Kb 0 w WF) := zF.kb (kw2.trans k24) (by omega)
  have HWF : Hid (WF = _) := hWF
  clear hWF bF zF bq HB kw2 b2 z2 k24
  go_wp2_with fail
  rw [← (show WF = _ from HWF)]
  clear HWF
  refine bodyPost_ret (by simp [results, Try.results25, go_sem, f0, f1, f2, f3]; rfl) rfl ?_
  exact ⟨rfl, HF⟩
/-- bytes of a disk that are bytes -/
def RgD (D : Dd) : Prop := (∀ i, i < D.n → ∀ j, j < (D.B i).c → 0 ≤ (D.B i).A j ∧ (D.B i).A j ≤ 255) ∧ ∀ i, i < D.m → ∀ j, j < (D.Q i).c → 0 ≤ (D.Q i).A j ∧ (D.Q i).A j ≤ 255
theorem rdl_r8 {P : Nat → Nat → Int} {Q : Nat → Ed} {k : Nat} (hP : R8 (P k)) : ∀ m, (∀ i, i < m → R8 (Q i).A) → R8 (rdl P Q k m)
  | 0, _ => hP
  | m + 1, h => by
    rw [rdl]
    split
    · exact h m (by omega)
    · exact rdl_r8 hP m (fun i hi => h i (by omega))
theorem hdv_shape (A : Nat → Int) (g l s : Int) : ∃ (ok : Bool) (g' l' s' : Int), hdv A g l s = .agg #[.bool ok, .int .i64 g', .int .i64 l', .int .i64 s'] := by
  by_cases h : Hd A g l s
  · exact ⟨_, _, _, _, hdv_t h⟩
  · exact ⟨_, _, _, _, hdv_f h⟩
theorem head_any {D : Dd} (b : Int) (hd : BdD D) (hg : RgD D) : ∃ (ok : Bool) (g l s : Int), (∀ v1 v2 w, RowD 0 w v1 v2 D → Calls Try.prog 24 #[.agg #[v1, v2], .int .i64 b] w fun e w' => e = .returned (.agg #[.bool ok, .int .i64 g, .int .i64 l, .int .i64 s]) ∧ Kb 0 w w') ∧ (∀ v1 v2 w, RowD 0 w v1 v2 D → Calls Try.prog 25 #[.agg #[v1, v2], .int .i64 b] w fun e w' => e = .returned (.agg #[.bool ok, .int .i64 g, .int .i64 l, .int .i64 s]) ∧ Kb 0 w w') := by
  by_cases hok : Dok D
  · by_cases h1 : b < 0
    · exact ⟨_, _, _, _, fun v1 v2 w ha => sp_ho_2 w ha hd hok h1, fun v1 v2 w ha => im_ho_2 w ha hd hok h1⟩
    · by_cases h2 : 1 < b
      · exact ⟨_, _, _, _, fun v1 v2 w ha => sp_ho_3 w ha hd hok (by omega) h2, fun v1 v2 w ha => im_ho_3 w ha hd hok (by omega) (by omega)⟩
      · obtain ⟨k, rfl⟩ : ∃ k : Nat, b = (k : Int) := ⟨b.toNat, by omega⟩
        have hk : k < 258 := by omega
        have hr : R8 (rdl (dpg D) D.Q k D.m) := by
          refine rdl_r8 (fun j hj => ?_) _ (fun i hi j hj => ?_)
          · exact hg.1 k (by rw [hok.1]; exact hk) j (by rw [hok.2.2.1 k (by rw [hok.1]; exact hk)]; exact hj)
          · exact hg.2 i hi j (by rw [(hok.2.2.2 i hi).2.2]; exact hj)
        obtain ⟨y1, y2, y3, hy⟩ := nums_any (rdl (dpg D) D.Q k D.m)
        obtain ⟨ok, g, l, s, e⟩ := hdv_shape (rdl (dpg D) D.Q k D.m) (wrap64 (y1 : Int)) (wrap64 (y2 : Int)) (wrap64 (y3 : Int))
        refine ⟨ok, g, l, s, fun v1 v2 w ha => sp_ho_4 w ha hd hok h1 h2 (fun x1 x2 W hW => ?_), fun v1 v2 w ha => im_ho_4 w ha hd hok h1 (by omega) (fun w2 dv W hD => ?_)⟩
        · rw [← e]
          obtain ⟨n, Bf, m, Qf⟩ := D
          obtain rfl : n = 258 := hok.1
          exact sp_l54head k W hW hok hk rfl hr hy
        · have es := stl_rdl (dpg D) D.Q k D.m (fun j hj => (hok.2.2.2 j hj).1)
          have := im_dhead (y1 := y1) (y2 := y2) (y3 := y3) k W hD hk (by rw [es]; exact hr) (by rw [es]; exact hy)
          rw [es, e] at this
          exact this
  · exact ⟨_, _, _, _, fun v1 v2 w ha => sp_ho_1 w ha hd hok, fun v1 v2 w ha => im_ho_1 w ha hd hok⟩
set_option maxHeartbeats 4000000 in
theorem eq_head {ok : Bool} {g l s : Int} (w : World) : Calls Try.prog 26 #[.agg #[.bool ok, .int .i64 g, .int .i64 l, .int .i64 s], .agg #[.bool ok, .int .i64 g, .int .i64 l, .int .i64 s]] w fun e w' => e = .returned (.bool true) ∧ Kb 0 w w' := by
  go_enter Try.func26, Try.ntmps26
  go_wp2_with fail
  go_ret
  exact ⟨rfl, (kb_alloc 0 _ _).trans (kb_alloc 0 _ _)⟩
end Go.Proofs.Ytaggciimacanbaa.Fo
