import Derived.Test.YtaggciimacanbaaMDaf
namespace Go.Proofs.Ytaggciimacanbaa.Fo
open Go.ChangeShapes Go.WideShapes Go.ChangeAt Go.RowKit
set_option linter.unusedVariables false
set_option maxRecDepth 100000
set_option maxHeartbeats 8000000 in
theorem mark_disk {L H : Nat} {v1 v2 : Value} {D : Dd} (w : World) (k : Int) (h : OwD L H w v1 v2 D) (hH : H ≤ w.heap.size) (hd : BdD D) (hk1 : 1 ≤ k) (hk2 : k ≤ 5000000) :
    Calls Try.prog 16 #[.agg #[v1, v2], .int .i64 k] w fun e w' => e = .returned (.int .i64 (k + (dmk D : Int))) ∧ Kq (fun q => L ≤ q ∧ q < H) w w' ∧ MdD L H w' v1 v2 D k := by
  obtain ⟨p1, c1, p2, c2, rfl, rfl⟩ := h.shape
  obtain ⟨M, g, V, G, g', V', G', h1, h2, h3, h4⟩ := h
  obtain ⟨w2, hw2⟩ : ∃ w2, w2 = w.alloc (.cells #[.slice p1 D.n c1, .slice p2 D.m c2] 30) := ⟨_, rfl⟩
  have k2 : Kb 0 w w2 := by rw [hw2]; exact kb_alloc _ _ _
  have b2 : w2.heap[w.heap.size]? = some (.cells #[.slice p1 D.n c1, .slice p2 D.m c2] 30 (0, 0)) := by rw [hw2]; exact alloc_new _ _ _
  have z2 : w.heap.size < w2.heap.size := by rw [hw2]; simp
  have u0 : w2.cell? ⟨w.heap.size, 0, none⟩ = some (.slice p1 D.n c1) := cell_of b2 rfl
  have u1 : w2.cell? ⟨w.heap.size, 1, none⟩ = some (.slice p2 D.m c2) := cell_of b2 rfl
  have hs := hd.hs
  have hdm : dmk D = sm (mks 1 D.B) D.n + sm (mks 2 D.Q) D.m := rfl
  have HV := mark_row1 w2 k (h1.block (fun q _ hq => k2.block q (Nat.zero_le _) (by omega))) hd.hn hd.hB hk1 (by omega)
  have kq2 : Kq (fun q => L ≤ q ∧ q < H) w w2 := by rw [hw2]; exact kq_alloc1 _ _ _
  obtain ⟨S1, hS1⟩ : ∃ S1 : Nat, S1 = sm (mks 1 D.B) D.n := ⟨_, rfl⟩
  rw [← hS1] at HV hdm
  have HB : Hid (Kq (fun q => L ≤ q ∧ q < H) w w2 ∧ w2.heap[w.heap.size]? = some (.cells #[.slice p1 D.n c1, .slice p2 D.m c2] 30 (0, 0)) ∧ OwE 2 M H w2 (.slice p2 D.m c2) D.m D.Q g' V' G' ∧ L ≤ M ∧ M ≤ H ∧ H ≤ w.heap.size ∧ BdD D ∧ dmk D = S1 + sm (mks 2 D.Q) D.m ∧ dmk D ≤ 80000000 ∧ w.heap.size < w2.heap.size ∧ S1 = sm (mks 1 D.B) D.n) := (⟨kq2, b2, h2.block (fun q _ hq => k2.block q (Nat.zero_le _) (by omega)), h3, h4, hH, hd, hdm, hs, z2, hS1⟩ : _ ∧ _)
  have HW2 : Hid (w2 = _) := hw2
  clear hw2 k2 b2 z2 h1 h2 h3 h4 hH hd hs hdm kq2 hS1
  go_enter Try.func16, Try.ntmps16
  go_wp2_with fail
  rw [← (show w2 = _ from HW2)]
  clear HW2
  refine HV.mono ?_
  rintro e w3 ⟨rfl, kq3, md3⟩
  obtain ⟨kq2, b2, h2, h3, h4, hH, hd, hdm, hs, z2, hS1⟩ := (show _ ∧ _ ∧ _ ∧ _ ∧ _ ∧ _ ∧ _ ∧ _ ∧ _ ∧ _ ∧ _ from HB)
  have b3 := (kq3.block w.heap.size z2 (by omega)).trans b2
  have x1 : w3.cell? ⟨w.heap.size, 1, none⟩ = some (.slice p2 D.m c2) := cell_of b3 rfl
  obtain ⟨k1, hk⟩ : ∃ k1 : Int, k1 = k + (S1 : Int) := ⟨_, rfl⟩
  have HC := mark_row2 w3 k1 (h2.block (fun q a b => kq3.block q (by omega) (by omega))) hd.hm hd.hQ (by omega) (by omega)
  rw [← hk]
  have HX : Hid (Kq (fun q => L ≤ q ∧ q < H) w w3 ∧ MdE 1 L M w3 (.slice p1 D.n c1) D.n D.B g V G k ∧ L ≤ M ∧ M ≤ H ∧ H ≤ w.heap.size ∧ k1 = k + (S1 : Int) ∧ dmk D = S1 + sm (mks 2 D.Q) D.m ∧ w2.heap.size ≤ w3.heap.size ∧ w.heap.size < w2.heap.size ∧ S1 = sm (mks 1 D.B) D.n) := (⟨kq2.trans (kq3.wide (fun q hq => ⟨hq.1, by omega⟩)), md3, h3, h4, hH, hk, hdm, kq3.size, z2, hS1⟩ : _ ∧ _)
  clear HV HB kq2 b2 h2 h3 h4 hH hd hdm hs z2 hS1 b3 kq3 md3 hk u0 u1
  go_wp2_with fail
  refine HC.mono ?_
  rintro e w4 ⟨rfl, kq4, md4⟩
  obtain ⟨kq3, md3, h3, h4, hH, hk, hdm, z3, z2, hS1⟩ := (show _ ∧ _ ∧ _ ∧ _ ∧ _ ∧ _ ∧ _ ∧ _ ∧ _ ∧ _ from HX)
  have HF : Hid (Kq (fun q => L ≤ q ∧ q < H) w w4 ∧ MdD L H w4 (.slice p1 D.n c1) (.slice p2 D.m c2) D k) := (⟨kq3.trans (kq4.wide (fun q hq => ⟨by omega, hq.2⟩)), M, g, V, G, g', V', G', md3.block (fun q a b => kq4.block q (by omega) (by omega)), by rw [← hS1, ← hk]; exact md4, h3, h4⟩ : _ ∧ _)
  have HKE : Hid (k1 + (sm (mks 2 D.Q) D.m : Int) = k + (dmk D : Int)) := (by rw [hk, hdm]; push_cast; omega : k1 + (sm (mks 2 D.Q) D.m : Int) = k + (dmk D : Int))
  clear HC HX kq3 md3 h3 h4 hH hk hdm z3 z2 hS1 kq4 md4 x1
  go_wp2_with fail
  go_ret
  exact ⟨by rw [← (show _ = _ from HKE)]; rfl, HF⟩
set_option maxHeartbeats 8000000 in
theorem held_disk {L H : Nat} {v1 v2 : Value} {D : Dd} (w : World) (k : Int) (h : MdD L H w v1 v2 D k) (hH : H ≤ w.heap.size) (hd : BdD D) (hk1 : 1 ≤ k) (hk2 : k ≤ 5000000) :
    Calls Try.prog 18 #[.agg #[v1, v2], .int .i64 k] w fun e w' => e = .returned (.int .i64 (k + (dmk D : Int))) ∧ Kb 0 w w' := by
  obtain ⟨M, g, V, G, g', V', G', h1, h2, h3, h4⟩ := h
  obtain ⟨p1, c1, rfl, -⟩ := id h1.sl
  obtain ⟨p2, c2, rfl, -⟩ := id h2.sl
  obtain ⟨w2, hw2⟩ : ∃ w2, w2 = w.alloc (.cells #[.slice p1 D.n c1, .slice p2 D.m c2] 30) := ⟨_, rfl⟩
  have k2 : Kb 0 w w2 := by rw [hw2]; exact kb_alloc _ _ _
  have b2 : w2.heap[w.heap.size]? = some (.cells #[.slice p1 D.n c1, .slice p2 D.m c2] 30 (0, 0)) := by rw [hw2]; exact alloc_new _ _ _
  have z2 : w.heap.size < w2.heap.size := by rw [hw2]; simp
  have u0 : w2.cell? ⟨w.heap.size, 0, none⟩ = some (.slice p1 D.n c1) := cell_of b2 rfl
  have u1 : w2.cell? ⟨w.heap.size, 1, none⟩ = some (.slice p2 D.m c2) := cell_of b2 rfl
  have hs := hd.hs
  have hdm : dmk D = sm (mks 1 D.B) D.n + sm (mks 2 D.Q) D.m := rfl
  have HV := held_row1 w2 k (h1.block (fun q _ hq => k2.block q (Nat.zero_le _) (by omega))) hd.hn hd.hB hk1 (by omega)
  obtain ⟨k1, hk⟩ : ∃ k1 : Int, k1 = k + (sm (mks 1 D.B) D.n : Int) := ⟨_, rfl⟩
  have HT : Hid (∀ W, Kb 0 w W → Calls Try.prog 55 #[.slice p2 D.m c2, .int .i64 k1] W fun e w' => e = .returned (.int .i64 (k1 + (sm (mks 2 D.Q) D.m : Int))) ∧ Kb 0 W w') := (fun W kk => held_row2 W k1 (by rw [hk]; exact h2.block (fun q _ hq => kk.block q (Nat.zero_le _) (by omega))) hd.hm hd.hQ (by omega) (by omega) : ∀ W, _)
  rw [← hk] at HV
  obtain ⟨k9, hk9⟩ : ∃ k9 : Int, k9 = k1 + (sm (mks 2 D.Q) D.m : Int) := ⟨_, rfl⟩
  have hke : k9 = k + (dmk D : Int) := by rw [hk9, hk, hdm]; push_cast; omega
  rw [← hk9] at HT
  rw [← hke]
  have n1 : ¬ k1 < 0 := by omega
  have n9 : ¬ k9 < 0 := by omega
  have HB : Hid (Kb 0 w w2 ∧ w2.heap[w.heap.size]? = some (.cells #[.slice p1 D.n c1, .slice p2 D.m c2] 30 (0, 0))) := (⟨k2, b2⟩ : _ ∧ _)
  have HW2 : Hid (w2 = _) := hw2
  clear hw2 k2 b2 z2 h1 h2 h3 h4 hH hd hs hdm hk hk9 hke
  go_enter Try.func18, Try.ntmps18
  go_wp2_with fail
  rw [← (show w2 = _ from HW2)]
  clear HW2
  refine HV.mono ?_
  rintro e w3 ⟨rfl, k3⟩
  obtain ⟨k2, b2⟩ := (show _ ∧ _ from HB)
  have x1 : w3.cell? ⟨w.heap.size, 1, none⟩ = some (.slice p2 D.m c2) := k3.cell (cell_of b2 rfl)
  have kw := k2.trans k3
  have HC := (show ∀ W, Kb 0 w W → _ from HT) w3 kw
  have HK : Hid (Kb 0 w w3) := kw
  clear HV HT HB k2 b2 k3 kw u0 u1
  go_wp2_with fail
  refine HC.mono ?_
  rintro e w4 ⟨rfl, k4⟩
  have HF : Hid (Kb 0 w w4) := (show Kb 0 w w3 from HK).trans k4
  clear HC HK k4 x1
  go_wp2_with fail
  go_ret
  exact ⟨rfl, HF⟩
end Go.Proofs.Ytaggciimacanbaa.Fo
