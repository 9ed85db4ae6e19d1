import Derived.Test.YtaggciimacanbaaMDha
import Derived.Test.YtaggciimacanbaaMDde
namespace Go.Proofs.Ytaggciimacanbaa.Fo
open Go.ChangeShapes Go.WideShapes Go.ChangeAt Go.RowKit
set_option linter.unusedVariables false
set_option maxRecDepth 100000
set_option linter.unusedSimpArgs false
set_option maxHeartbeats 32000000 in
theorem im_dhead {w0 : World} {dv : Nat} {P : Nat → Nat → Int} {m : Nat} {Q : Nat → Ed} {vw : Value} {y1 y2 y3 : Nat} (sl : Nat) (w : World) (h : Dr w0 dv P m Q vw w) (hs : sl < 258) (hr : R8 (P sl)) (hy : Nums (m8 (P sl)) y1 y2 y3) :
    Calls Try.prog 61 #[.pointer (some ⟨dv, 0, none⟩), .int .i64 (sl : Int)] w fun e w' => e = .returned (hdv (P sl) (wrap64 (y1 : Int)) (wrap64 (y2 : Int)) (wrap64 (y3 : Int))) ∧ Kb 0 w w' := by
  obtain ⟨w1, hw1⟩ : ∃ w1, w1 = w.alloc (.cells #[.bool false, .int .i64 0, .int .i64 0, .int .i64 0] 46) := ⟨_, rfl⟩
  have k1 : Kb 0 w w1 := by rw [hw1]; exact kb_alloc _ _ _
  have b1 : w1.heap[w.heap.size]? = some (.cells #[.bool false, .int .i64 0, .int .i64 0, .int .i64 0] 46 (0, 0)) := by rw [hw1]; exact alloc_new _ _ _
  have z1 : w1.heap.size = w.heap.size + 1 := by rw [hw1]; exact World.size_alloc _ _
  obtain ⟨A, hA⟩ : ∃ A, A = P sl := ⟨_, rfl⟩
  obtain ⟨PG, hPG⟩ : ∃ PG, PG = pgl A := ⟨_, rfl⟩
  have HR1 : Hid (w1.rangeAt dv (sl * 64) PG) := (fun t v hv => by
    rw [hPG] at hv
    have ht : t < 64 := by have := (List.getElem?_eq_some_iff.1 hv).1; rw [pgl_len] at this; exact this
    rw [pgl_at _ t ht] at hv
    injection hv with hv
    rw [pgs_range.1 (h.keep k1).rg sl hs t ht, ← hv, hA] : w1.rangeAt dv (sl * 64) PG)
  have HLP : Hid ((Try.prog.info? 92).map (·.size) = some PG.length) := (by rw [hPG, pgl_len]; exact infoP : (Try.prog.info? 92).map (·.size) = some PG.length)
  have HOP : Hid (∀ W W' : World, W' = W.alloc (.cells PG.toArray 92) → OwnR W' (.slice (some ⟨W.heap.size, 0, none⟩) 64 64) W.heap.size 64 (ub A)) := (fun W W' h => own_page (by rw [hPG] at h; exact h) : ∀ W W' : World, _)
  rw [← hA] at hr hy ⊢
  obtain ⟨M, hM⟩ : ∃ M, M = m8 A := ⟨_, rfl⟩
  rw [← hM] at hy
  have HY : Hid (Nums M y1 y2 y3 ∧ M.length = 64 ∧ M = m8 A ∧ R8 A) := (⟨hy, by rw [hM]; exact m8_len A, hM, hr⟩ : _ ∧ _)
  have HB1 : Hid (Kb 0 w w1 ∧ w1.heap[w.heap.size]? = some (.cells #[.bool false, .int .i64 0, .int .i64 0, .int .i64 0] 46 (0, 0)) ∧ w1.heap.size = w.heap.size + 1) := (⟨k1, b1, z1⟩ : _ ∧ _)
  have HW1 : Hid (w1 = w.alloc (.cells #[.bool false, .int .i64 0, .int .i64 0, .int .i64 0] 46)) := hw1
  have hsI : (sl : Int) < 258 := by omega
  clear hw1 k1 b1 z1 hA hPG hM hy hr h
  go_enter Try.func61, Try.ntmps61
  go_upto_region 1 with fail
  rw [← (show w1 = _ from HW1)]
  clear HW1
  go_wp2_with (refine wpList_load_mid (by rfl) 92 (.tmp 12) (by rfl) dv (sl * 64) (by first | rfl | simp [Act.eval, Addr.add]) PG _ HR1 und_page rfl HLP ?_)
  refine (im_bytes w1).mono ?_
  rintro e w2 ⟨rfl, hw2⟩
  obtain ⟨hy, hml, hM, hr⟩ := (show _ ∧ _ ∧ _ ∧ _ from HY)
  obtain ⟨k1, b1, z1⟩ := (show _ ∧ _ ∧ _ from HB1)
  have o2 := (show ∀ W W' : World, _ from HOP) w1 w2 hw2
  have k2 : Kb 0 w1 w2 := by rw [hw2]; exact kb_alloc _ _ _
  have z2 : w2.heap.size = w1.heap.size + 1 := by rw [hw2]; exact World.size_alloc _ _
  obtain ⟨w3, hw3⟩ : ∃ w3, w3 = w2.alloc (.cells #[.slice (some ⟨w1.heap.size, 0, none⟩) 64 64, .int .i64 64, .bool false] 129) := ⟨_, rfl⟩
  have k3 : Kb 0 w2 w3 := by rw [hw3]; exact kb_alloc _ _ _
  have z3 : w3.heap.size = w2.heap.size + 1 := by rw [hw3]; exact World.size_alloc _ _
  have r3 : RI w2.heap.size (some ⟨w1.heap.size, 0, none⟩) 64 M 0 false w3 := ⟨by rw [hml, hw3]; exact alloc_new _ _ _, Nat.zero_le _, by omega, by omega, fun _ => ⟨_, rfl, by show w1.heap.size ≠ _; omega, fun i x hx => by
    rw [hM] at hx
    obtain ⟨hi, hv⟩ := m8_val hr hx
    rw [addr0, hv]
    exact k3.cell (o2.cell i hi)⟩⟩
  have HT := im_take_fits 4 r3 (by omega)
  have H3 : Hid (Kb 0 w w3 ∧ w3.heap[w.heap.size]? = some (.cells #[.bool false, .int .i64 0, .int .i64 0, .int .i64 0] 46 (0, 0)) ∧ w.heap.size < w1.heap.size ∧ w1.heap.size < w2.heap.size ∧ w2.heap.size < w3.heap.size ∧ OwnR w3 (.slice (some ⟨w1.heap.size, 0, none⟩) 64 64) w1.heap.size 64 (ub A)) := (⟨(k1.trans k2).trans k3, ((k2.trans k3).block _ (Nat.zero_le _) (by omega)).trans b1, by omega, by omega, by omega, o2.block (fun _ => k3.block _ (Nat.zero_le _) (by omega))⟩ : _ ∧ _)
  have HW3 : Hid (w3 = w2.alloc (.cells #[.slice (some ⟨w1.heap.size, 0, none⟩) 64 64, .int .i64 64, .bool false] 129)) := hw3
  obtain ⟨rb, hrb⟩ : ∃ rb, rb = w2.heap.size := ⟨_, rfl⟩
  have HRB : Hid (rb = w2.heap.size) := hrb
  rw [← hrb] at HT
  clear hw2 hw3 o2 k2 k3 z2 z3 r3 k1 b1 z1 hy hml hM hr hrb HR1 HLP HOP HB1
  go_upto_region 3 with fail
  rw [← (show w3 = _ from HW3), ← (show rb = _ from HRB)]
  clear HW3
  rw [show ((4 : Nat) : Int) = (4 : Int) from rfl] at HT
  go_wp2_with fail
  refine HT.mono ?_
  rintro e w4 ⟨⟨q, rfl, -⟩, r4, z4⟩
  have HE4 := im_reight r4
  have H4 : Hid (Kz rb w3 w4) := z4
  clear HT r4 z4
  go_wp2_with fail
  refine HE4.mono ?_
  rintro e w5 ⟨v, k', lost', rfl, r5, -, z5, x, rfl, -, -, hx⟩
  obtain ⟨rfl, rfl, rfl⟩ := hx y1 _ (by trivial) (show _ ∧ _ from HY).1.1.1 (show _ ∧ _ from HY).1.2.1
  have HE5 := im_reight r5
  have H5 : Hid (Kz rb w3 w5) := (show Kz rb w3 w4 from H4).trans z5
  clear HE4 r5 z5 hx H4
  go_wp2_with fail
  refine HE5.mono ?_
  rintro e w6 ⟨v, k', lost', rfl, r6, -, z6, x', rfl, -, -, hx⟩
  obtain ⟨rfl, rfl, rfl⟩ := hx y2 _ (by trivial) (show _ ∧ _ from HY).1.1.2.1 (show _ ∧ _ from HY).1.2.2.1
  have HE6 := im_reight r6
  have H6 : Hid (Kz rb w3 w6) := (show Kz rb w3 w5 from H5).trans z6
  clear HE5 r6 z6 hx H5
  go_wp2_with fail
  refine HE6.mono ?_
  rintro e w7 ⟨v, k', lost', rfl, r7, -, z7, x'', rfl, -, -, hx⟩
  obtain ⟨rfl, rfl, rfl⟩ := hx y3 _ (by trivial) (show _ ∧ _ from HY).1.1.2.2 (show _ ∧ _ from HY).1.2.2.2
  obtain ⟨k3, b3, g1, g2, g3, o3⟩ := (show _ ∧ _ ∧ _ ∧ _ ∧ _ ∧ _ from H3)
  have z37 := (show Kz rb w3 w6 from H6).trans z7
  have hrb : rb = w2.heap.size := HRB
  obtain ⟨G, hG⟩ : ∃ G, G = wrap64 (x : Int) := ⟨_, rfl⟩
  obtain ⟨L, hL⟩ : ∃ L, L = wrap64 (x' : Int) := ⟨_, rfl⟩
  obtain ⟨S, hS⟩ : ∃ S, S = wrap64 (x'' : Int) := ⟨_, rfl⟩
  have hS2 := w64_rg (x'' : Int)
  rw [← hS] at hS2
  obtain ⟨w77, hw77⟩ : ∃ w77, w77 = w7.alloc (.cells #[.bool true, .int .i64 G, .int .i64 L, .int .i64 S] 46) := ⟨_, rfl⟩
  have k77 : Kb 0 w7 w77 := by rw [hw77]; exact kb_alloc _ _ _
  have b77 : w77.heap[w7.heap.size]? = some (.cells #[.bool true, .int .i64 G, .int .i64 L, .int .i64 S] 46 (0, 0)) := by rw [hw77]; exact alloc_new _ _ _
  have z77 : w77.heap.size = w7.heap.size + 1 := by rw [hw77]; exact World.size_alloc _ _
  have zz := z37.size
  have h0 : w77.cell? ⟨w7.heap.size, 0, none⟩ = some (.bool true) := cell_of b77 rfl
  have h1 : w77.cell? ⟨w7.heap.size, 1, none⟩ = some (.int .i64 G) := cell_of b77 rfl
  have h2 : w77.cell? ⟨w7.heap.size, 2, none⟩ = some (.int .i64 L) := cell_of b77 rfl
  have h3 : w77.cell? ⟨w7.heap.size, 3, none⟩ = some (.int .i64 S) := cell_of b77 rfl
  have HH := im_hb (g := G) (l := L) (s := S) w77 hS2.1 hS2.2
  have kw7 := z37.kb k3 (by omega)
  have kw77 := kw7.trans k77
  have b7 := (k77.block w.heap.size (Nat.zero_le _) (by omega)).trans ((z37.block _ (by omega)).trans b3)
  have o7 := o3.block (W' := w77) (fun _ => (k77.block _ (Nat.zero_le _) (by omega)).trans (z37.block _ (by omega)))
  have H7 : Hid (Kb 0 w w77 ∧ w77.heap[w.heap.size]? = some (.cells #[.bool false, .int .i64 0, .int .i64 0, .int .i64 0] 46 (0, 0)) ∧ OwnR w77 (.slice (some ⟨w1.heap.size, 0, none⟩) 64 64) w1.heap.size 64 (ub A) ∧ w.heap.size < w77.heap.size ∧ w1.heap.size < w77.heap.size ∧ w77.heap[w7.heap.size]? = some (.cells #[.bool true, .int .i64 G, .int .i64 L, .int .i64 S] 46 (0, 0)) ∧ w7.heap.size < w77.heap.size) := (⟨kw77, b7, o7, by omega, by omega, b77, by omega⟩ : _ ∧ _)
  have HW77 : Hid (w77 = w7.alloc (.cells #[.bool true, .int .i64 G, .int .i64 L, .int .i64 S] 46) ∧ rb = rb) := (⟨hw77, rfl⟩ : _ ∧ _)
  have HGS : Hid (G = wrap64 (x : Int) ∧ L = wrap64 (x' : Int) ∧ S = wrap64 (x'' : Int)) := (⟨hG, hL, hS⟩ : _ ∧ _)
  clear HE6 r7 z7 hx k3 b3 g1 g2 g3 o3 z37 hrb H6 H3 hw77 k77 b77 z77 zz kw7 kw77 b7 o7 HRB hS2
  obtain ⟨P7, hP7⟩ : ∃ P7, P7 = w7.heap.size := ⟨_, rfl⟩
  rw [← hP7] at h0 h1 h2 h3 H7
  have HP7 : Hid (P7 = w7.heap.size) := hP7
  clear hP7
  clear hG hL hS
  go_upto_region 5 with fail
  rw [← (show _ ∧ _ ∧ _ from HGS).1, ← (show _ ∧ _ ∧ _ from HGS).2.1, ← (show _ ∧ _ ∧ _ from HGS).2.2]
  rw [← (show _ ∧ _ from HW77).1, ← (show P7 = _ from HP7)]
  clear HW77 HP7
  go_wp2_with fail
  refine HH.mono ?_
  rintro e w8 ⟨p, n, c, LB, rfl, hcv, k8, hiff⟩
  obtain ⟨k77, b77, o77, l1, l2, c77, l3⟩ := (show _ ∧ _ ∧ _ ∧ _ ∧ _ ∧ _ ∧ _ from H7)
  have o8 := o77.block (W' := w8) (fun _ => k8.block _ (Nat.zero_le _) l2)
  have hmv : (convert 26 9 (.slice (some ⟨w1.heap.size, 0, none⟩) 64 64)).run Try.prog w8 = .ok (.string ⟨M.toArray⟩) w8 := by
    obtain ⟨hy, hml, hM, hr⟩ := (show _ ∧ _ ∧ _ ∧ _ from HY)
    refine conv_row (fun _ => ⟨_, rfl, Nat.le_refl _, fun i hi => ?_⟩) hml (fun e => by cases e)
    rw [addr0, o8.cell i hi]
    show some (Value.int .u8 (A i)) = some (Value.int .u8 (((M.getD i 0).toNat : Nat) : Int))
    rw [hM, List.getD_eq_getElem?_getD, m8_at _ hi]
    have := (m8_val hr (m8_at A hi)).2
    show some (Value.int .u8 (A i)) = some (Value.int .u8 (((UInt8.ofNat (A i).toNat).toNat : Nat) : Int))
    rw [this]
  have HE8 := im_bytes_equal w8 hcv hmv
  have H9 : Hid (Kb 0 w w8 ∧ w8.heap[w.heap.size]? = some (.cells #[.bool false, .int .i64 0, .int .i64 0, .int .i64 0] 46 (0, 0)) ∧ w8.heap[P7]? = some (.cells #[.bool true, .int .i64 G, .int .i64 L, .int .i64 S] 46 (0, 0))) := (⟨k77.trans k8, (k8.block _ (Nat.zero_le _) l1).trans b77, (k8.block _ (Nat.zero_le _) l3).trans c77⟩ : _ ∧ _)
  have hd : LB = M ↔ Hd A G L S := by
    obtain ⟨hy, hml, hM, hr⟩ := (show _ ∧ _ ∧ _ ∧ _ from HY)
    rw [hM]
    exact hiff A hr
  have HHD : Hid (LB = M ↔ Hd A G L S) := hd
  clear HH hcv k8 hiff k77 b77 o77 l1 l2 c77 l3 o8 hmv hd h0 h1 h2 h3 H7 HY
  go_wp2_with fail
  refine HE8.mono ?_
  rintro e w9 ⟨rfl, hw9⟩
  rw [hw9]
  clear hw9
  by_cases hq : Hd A G L S
  · have hdec : decide (LB = M) = true := decide_eq_true ((show LB = M ↔ _ from HHD).2 hq)
    rw [hdec]
    have HQ : Hid (Hd A G L S) := hq
    clear hdec HHD hq
    · skip
      have bq := (show _ ∧ _ ∧ _ from H9).2.1
      obtain ⟨WF, hWF, bF, zF⟩ := four_set (.bool true) (.int .i64 G) (.int .i64 L) (.int .i64 S) bq
      have f0 : WF.cell? ⟨w.heap.size, 0, none⟩ = some (.bool true) := cell_of bF rfl
      have f1 : WF.cell? ⟨w.heap.size, 1, none⟩ = some (.int .i64 G) := cell_of bF rfl
      have f2 : WF.cell? ⟨w.heap.size, 2, none⟩ = some (.int .i64 L) := cell_of bF rfl
      have f3 : WF.cell? ⟨w.heap.size, 3, none⟩ = some (.int .i64 S) := cell_of bF rfl
      have a0 : w8.cell? ⟨w.heap.size, 0, none⟩ = some (.bool false) := cell_of bq rfl
      have a1 : w8.cell? ⟨w.heap.size, 1, none⟩ = some (.int .i64 0) := cell_of bq rfl
      have a2 : w8.cell? ⟨w.heap.size, 2, none⟩ = some (.int .i64 0) := cell_of bq rfl
      have a3 : w8.cell? ⟨w.heap.size, 3, none⟩ = some (.int .i64 0) := cell_of bq rfl
      have fy : ∀ j, w8.frozen? ⟨w.heap.size, j, none⟩ = false := fun j => frozen_of bq
      have h0 : w8.cell? ⟨P7, 0, none⟩ = some (.bool true) := cell_of (show _ ∧ _ ∧ _ from H9).2.2 rfl
      have h1 : w8.cell? ⟨P7, 1, none⟩ = some (.int .i64 G) := cell_of (show _ ∧ _ ∧ _ from H9).2.2 rfl
      have h2 : w8.cell? ⟨P7, 2, none⟩ = some (.int .i64 L) := cell_of (show _ ∧ _ ∧ _ from H9).2.2 rfl
      have h3 : w8.cell? ⟨P7, 3, none⟩ = some (.int .i64 S) := cell_of (show _ ∧ _ ∧ _ from H9).2.2 rfl
      have HF : Hid (Kb 0 w WF) := zF.kb (show _ ∧ _ ∧ _ from H9).1 (Nat.le_refl _)
      have HWF : Hid (WF = _) := hWF
      clear HE8 hWF bF zF bq H9
      go_wp2_with fail
      rw [← (show WF = _ from HWF)]
      clear HWF
      refine bodyPost_ret (by simp [results, Try.results61, go_sem, f0, f1, f2, f3]; rfl) rfl ?_
      rw [← (show _ ∧ _ ∧ _ from HGS).1, ← (show _ ∧ _ ∧ _ from HGS).2.1, ← (show _ ∧ _ ∧ _ from HGS).2.2]
      exact ⟨by rw [hdv_t HQ], HF⟩
  · have hdec : decide (LB = M) = false := decide_eq_false (fun q => hq ((show LB = M ↔ _ from HHD).1 q))
    rw [hdec]
    have HQ : Hid (¬ Hd A G L S) := hq
    clear hdec HHD hq
    · skip
      have bq := (show _ ∧ _ ∧ _ from H9).2.1
      obtain ⟨WF, hWF, bF, zF⟩ := four_set (.bool false) (.int .i64 0) (.int .i64 0) (.int .i64 0) bq
      have f0 : WF.cell? ⟨w.heap.size, 0, none⟩ = some (.bool false) := cell_of bF rfl
      have f1 : WF.cell? ⟨w.heap.size, 1, none⟩ = some (.int .i64 0) := cell_of bF rfl
      have f2 : WF.cell? ⟨w.heap.size, 2, none⟩ = some (.int .i64 0) := cell_of bF rfl
      have f3 : WF.cell? ⟨w.heap.size, 3, none⟩ = some (.int .i64 0) := cell_of bF rfl
      have a0 : w8.cell? ⟨w.heap.size, 0, none⟩ = some (.bool false) := cell_of bq rfl
      have a1 : w8.cell? ⟨w.heap.size, 1, none⟩ = some (.int .i64 0) := cell_of bq rfl
      have a2 : w8.cell? ⟨w.heap.size, 2, none⟩ = some (.int .i64 0) := cell_of bq rfl
      have a3 : w8.cell? ⟨w.heap.size, 3, none⟩ = some (.int .i64 0) := cell_of bq rfl
      have fy : ∀ j, w8.frozen? ⟨w.heap.size, j, none⟩ = false := fun j => frozen_of bq
      have HF : Hid (Kb 0 w WF) := zF.kb (show _ ∧ _ ∧ _ from H9).1 (Nat.le_refl _)
      have HWF : Hid (WF = _) := hWF
      clear HE8 hWF bF zF bq H9
      go_wp2_with fail
      rw [← (show WF = _ from HWF)]
      clear HWF
      refine bodyPost_ret (by simp [results, Try.results61, go_sem, f0, f1, f2, f3]; rfl) rfl ?_
      rw [← (show _ ∧ _ ∧ _ from HGS).1, ← (show _ ∧ _ ∧ _ from HGS).2.1, ← (show _ ∧ _ ∧ _ from HGS).2.2]
      exact ⟨by rw [hdv_f HQ], HF⟩
end Go.Proofs.Ytaggciimacanbaa.Fo
