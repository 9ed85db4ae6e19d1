import Derived.Test.YtbbjbojjglhgmaaMDcg
import Derived.Test.YtbbjbojjglhgmaaMDag
namespace Go.Proofs.Ytbbjbojjglhgmaa.Fo
open Go.ChangeShapes Go.WideShapes Go.ChangeAt Go.RowKit
set_option linter.unusedVariables false
set_option maxRecDepth 100000
theorem Kb.mkB {a w w' : World} {b : Nat} {S : Nat → Prop} (h : Kb b a w) (k : Kq S w w') (hS : ∀ q, S q → q < b ∨ a.heap.size ≤ q) : Kb b a w' :=
  ⟨k.os.trans h.os, k.output.trans h.output, Nat.le_trans h.size k.size, fun q h1 h2 => (k.block q (Nat.lt_of_lt_of_le h2 h.size) (fun hs => by rcases hS q hs with e | e <;> omega)).trans (h.block q h1 h2)⟩
theorem Kb.low {a w : World} {b c : Nat} (h : Kb b a w) (hc : b ≤ c) : Kb c a w := ⟨h.os, h.output, h.size, fun q h1 h2 => h.block q (Nat.le_trans hc h1) h2⟩
theorem bl_sz : dsz blD = 16770 := by kernel_rfl
theorem bl_bd : BdD blD := bd_of (by rw [bl_sz]; omega)
set_option maxHeartbeats 16000000 in
theorem law_blank (w : World) : Calls Try.prog 4 #[] w fun e w' => e = .returned (.bool true) ∧ Kb 0 w w' := by
  have HS := sp_blank w
  have HIM : Hid (∀ W : World, Calls Try.prog 24 #[] W fun e w' => ∃ v1 v2, e = .returned (.agg #[v1, v2]) ∧ OwD W.heap.size w'.heap.size w' v1 v2 blD ∧ Kb 0 W w') := (fun W => im_blank W : ∀ W : World, _)
  have hbd := bl_bd
  obtain ⟨D, hD⟩ : ∃ D, D = blD := ⟨_, rfl⟩
  rw [← hD] at HS HIM hbd
  clear hD
  have HEQ : Hid (∀ (W : World) x1 x2 y1 y2, RowD 0 W x1 x2 D → RowD 0 W y1 y2 D → Calls Try.prog 25 #[.agg #[x1, x2], .agg #[y1, y2]] W fun e w' => e = .returned (.bool true) ∧ Kb 0 W w') := (fun W x1 x2 y1 y2 h1 h2 => eq_disk W h1 h2 hbd : ∀ (W : World) x1 x2 y1 y2, _)
  have HBD : Hid (BdD D) := hbd
  clear hbd
  go_enter Try.func4, Try.ntmps4
  go_wp2_with fail
  refine HS.mono ?_
  rintro e w1 ⟨y1, y2, rfl, o1, k1⟩
  obtain ⟨p1, c1, p2, c2, rfl, rfl⟩ := o1.shape
  clear HS
  obtain ⟨P2, hP2⟩ : ∃ P2, P2 = w1.heap.size := ⟨_, rfl⟩
  obtain ⟨w2, hw2⟩ : ∃ w2, w2 = w1.alloc (.cells #[.slice p1 D.n c1, .slice p2 D.m c2] 40) := ⟨_, rfl⟩
  have k12 : Kb 0 w1 w2 := by rw [hw2]; exact kb_alloc _ _ _
  have b2 : w2.heap[P2]? = some (.cells #[.slice p1 D.n c1, .slice p2 D.m c2] 40 (0, 0)) := by rw [hw2, hP2]; exact alloc_new _ _ _
  have z2 : w2.heap.size = P2 + 1 := by rw [hw2, hP2]; exact World.size_alloc _ _
  have H2 : Hid (Kb 0 w w2 ∧ w2.heap[P2]? = some (.cells #[.slice p1 D.n c1, .slice p2 D.m c2] 40 (0, 0)) ∧ w2.heap.size = P2 + 1 ∧ RowD 0 w2 (.slice p1 D.n c1) (.slice p2 D.m c2) D) := (⟨k1.trans k12, b2, z2, (o1.rowD.mono (Nat.zero_le _)).keep k12⟩ : _ ∧ _)
  have HI2 := (show ∀ W : World, _ from HIM) w2
  have HW2 : Hid (w2 = w1.alloc (.cells #[.slice p1 D.n c1, .slice p2 D.m c2] 40) ∧ P2 = w1.heap.size) := (⟨hw2, hP2⟩ : _ ∧ _)
  clear o1 k1 hP2 hw2 k12 b2 z2
  go_upto_region 2 with fail
  rw [← (show _ ∧ _ from HW2).1, ← (show _ ∧ _ from HW2).2]
  clear HW2
  go_wp2_with fail
  refine HI2.mono ?_
  rintro e w3 ⟨y1, y2, rfl, o3, k3⟩
  obtain ⟨q1, d1, q2, d2, rfl, rfl⟩ := o3.shape
  clear HI2
  obtain ⟨kw2, b2, z2, r2⟩ := (show _ ∧ _ ∧ _ ∧ _ from H2)
  obtain ⟨P4, hP4⟩ : ∃ P4, P4 = w3.heap.size := ⟨_, rfl⟩
  obtain ⟨w4, hw4⟩ : ∃ w4, w4 = w3.alloc (.cells #[.slice q1 D.n d1, .slice q2 D.m d2] 40) := ⟨_, rfl⟩
  have k34 : Kb 0 w3 w4 := by rw [hw4]; exact kb_alloc _ _ _
  have b4 : w4.heap[P4]? = some (.cells #[.slice q1 D.n d1, .slice q2 D.m d2] 40 (0, 0)) := by rw [hw4, hP4]; exact alloc_new _ _ _
  have z4 : w4.heap.size = P4 + 1 := by rw [hw4, hP4]; exact World.size_alloc _ _
  have k24 : Kb 0 w2 w4 := k3.trans k34
  have b24 := (k24.block P2 (Nat.zero_le _) (by omega)).trans b2
  have o4 : OwD w2.heap.size P4 w4 (.slice q1 D.n d1) (.slice q2 D.m d2) D := by
    rw [hP4]
    exact o3.block (fun q _ h2 => k34.block q (Nat.zero_le _) h2)
  have HE4 := (show ∀ (W : World) x1 x2 y1 y2, _ from HEQ) w4 _ _ _ _ (o4.rowD.mono (Nat.zero_le _)) (r2.keep k24)
  have u0 : w4.cell? ⟨P2, 0, none⟩ = some (.slice p1 D.n c1) := cell_of b24 rfl
  have u1 : w4.cell? ⟨P2, 1, none⟩ = some (.slice p2 D.m c2) := cell_of b24 rfl
  have x0 : w4.cell? ⟨P4, 0, none⟩ = some (.slice q1 D.n d1) := cell_of b4 rfl
  have x1 : w4.cell? ⟨P4, 1, none⟩ = some (.slice q2 D.m d2) := cell_of b4 rfl
  have H4 : Hid (Kb 0 w2 w4 ∧ w4.heap[P4]? = some (.cells #[.slice q1 D.n d1, .slice q2 D.m d2] 40 (0, 0)) ∧ w4.heap.size = P4 + 1 ∧ OwD w2.heap.size P4 w4 (.slice q1 D.n d1) (.slice q2 D.m d2) D) := (⟨k24, b4, z4, o4⟩ : _ ∧ _)
  have HW4 : Hid (w4 = w3.alloc (.cells #[.slice q1 D.n d1, .slice q2 D.m d2] 40) ∧ P4 = w3.heap.size) := (⟨hw4, hP4⟩ : _ ∧ _)
  clear o3 k3 hP4 hw4 k34 b4 z4 k24 b24 o4 kw2 b2 z2 r2
  go_upto_region 3 with fail
  rw [← (show _ ∧ _ from HW4).1, ← (show _ ∧ _ from HW4).2]
  clear HW4
  go_wp2_with fail
  refine HE4.mono ?_
  rintro e w5 ⟨rfl, k5⟩
  clear HE4 u0 u1 x0 x1
  obtain ⟨k24, b4, z4, o4⟩ := (show _ ∧ _ ∧ _ ∧ _ from H4)
  have z5 := k5.size
  have b5 := (k5.block P4 (Nat.zero_le _) (by omega)).trans b4
  have o5 : OwD w2.heap.size P4 w5 (.slice q1 D.n d1) (.slice q2 D.m d2) D := o4.block (fun q _ h2 => k5.block q (Nat.zero_le _) (by omega))
  have HM := mark_disk w5 1 o5 (by omega) HBD (by omega) (by omega)
  obtain ⟨KG, hKG⟩ : ∃ KG : Int, KG = 1 + (dmk D : Int) := ⟨_, rfl⟩
  rw [← hKG] at HM
  have hKG0 : ¬ KG < 0 := by omega
  have hKG1 : (KG != KG) = false := by simp
  have HKG : Hid (KG = 1 + (dmk D : Int)) := hKG
  have x0 : w5.cell? ⟨P4, 0, none⟩ = some (.slice q1 D.n d1) := cell_of b5 rfl
  have x1 : w5.cell? ⟨P4, 1, none⟩ = some (.slice q2 D.m d2) := cell_of b5 rfl
  have H5 : Hid (Kb 0 w2 w5 ∧ w5.heap[P4]? = some (.cells #[.slice q1 D.n d1, .slice q2 D.m d2] 40 (0, 0)) ∧ P4 < w5.heap.size ∧ w2.heap.size ≤ P4) := (⟨k24.trans k5, b5, by omega, by obtain ⟨M, _, _, _, _, _, _, _, _, h3, h4⟩ := o4; omega⟩ : _ ∧ _)
  clear k24 b4 z4 o4 z5 b5 o5 k5 hKG H4
  go_wp2_with fail
  refine HM.mono ?_
  rintro e w6 ⟨rfl, kq6, md6⟩
  clear HM x0 x1
  obtain ⟨k25, b5, z5, zl⟩ := (show _ ∧ _ ∧ _ ∧ _ from H5)
  have k26 : Kb 0 w2 w6 := k25.mkB kq6 (fun q hq => .inr hq.1)
  have k56 : Kb P4 w5 w6 := (Kb.refl P4 w5).mkB kq6 (fun q hq => .inl hq.2)
  have b6 := (k56.block P4 (Nat.le_refl _) z5).trans b5
  have z6 : P4 < w6.heap.size := by have := k56.size; omega
  have HHD : Hid (∀ W : World, Kb 0 w6 W → Calls Try.prog 27 #[.agg #[.slice q1 D.n d1, .slice q2 D.m d2], .int .i64 1] W fun e w' => e = .returned (.int .i64 KG) ∧ Kb 0 W w') := (fun W k => by
    have zW := k.size
    rw [show KG = _ from HKG]
    exact held_disk W 1 (md6.block (fun q _ h2 => k.block q (Nat.zero_le _) (by omega))) (by omega) HBD (by omega) (by omega) : ∀ W : World, _)
  have x0 : w6.cell? ⟨P4, 0, none⟩ = some (.slice q1 D.n d1) := cell_of b6 rfl
  have x1 : w6.cell? ⟨P4, 1, none⟩ = some (.slice q2 D.m d2) := cell_of b6 rfl
  have HH6 := (show ∀ W : World, Kb 0 w6 W → _ from HHD) w6 (Kb.refl _ _)
  have H6 : Hid (Kb 0 w2 w6 ∧ w6.heap[P4]? = some (.cells #[.slice q1 D.n d1, .slice q2 D.m d2] 40 (0, 0)) ∧ P4 < w6.heap.size) := (⟨k26, b6, z6⟩ : _ ∧ _)
  clear k25 b5 z5 zl k26 k56 b6 z6 kq6 md6 H5
  go_wp2_with fail
  refine HH6.mono ?_
  rintro e w7 ⟨rfl, k7⟩
  clear HH6 x0 x1
  have HI7 := (show ∀ W : World, _ from HIM) w7
  have H7 : Hid (Kb 0 w6 w7) := k7
  clear k7
  go_wp2_with fail
  refine HI7.mono ?_
  rintro e w8 ⟨y1, y2, rfl, o8, k8⟩
  obtain ⟨s1, e1, s2, e2, rfl, rfl⟩ := o8.shape
  clear HI7
  obtain ⟨kw2, b2, z2, r2⟩ := (show _ ∧ _ ∧ _ ∧ _ from H2)
  obtain ⟨k26, b6, z6⟩ := (show _ ∧ _ ∧ _ from H6)
  obtain ⟨P9, hP9⟩ : ∃ P9, P9 = w8.heap.size := ⟨_, rfl⟩
  obtain ⟨w9, hw9⟩ : ∃ w9, w9 = w8.alloc (.cells #[.slice s1 D.n e1, .slice s2 D.m e2] 40) := ⟨_, rfl⟩
  have k89 : Kb 0 w8 w9 := by rw [hw9]; exact kb_alloc _ _ _
  have b9 : w9.heap[P9]? = some (.cells #[.slice s1 D.n e1, .slice s2 D.m e2] 40 (0, 0)) := by rw [hw9, hP9]; exact alloc_new _ _ _
  have k69 : Kb 0 w6 w9 := ((show Kb 0 w6 w7 from H7).trans k8).trans k89
  have k29 : Kb 0 w2 w9 := k26.trans k69
  have b29 := (k29.block P2 (Nat.zero_le _) (by omega)).trans b2
  have HE9 := (show ∀ (W : World) x1 x2 y1 y2, _ from HEQ) w9 _ _ _ _ ((o8.rowD.mono (Nat.zero_le _)).keep k89) (r2.keep k29)
  have u0 : w9.cell? ⟨P2, 0, none⟩ = some (.slice p1 D.n c1) := cell_of b29 rfl
  have u1 : w9.cell? ⟨P2, 1, none⟩ = some (.slice p2 D.m c2) := cell_of b29 rfl
  have x0 : w9.cell? ⟨P9, 0, none⟩ = some (.slice s1 D.n e1) := cell_of b9 rfl
  have x1 : w9.cell? ⟨P9, 1, none⟩ = some (.slice s2 D.m e2) := cell_of b9 rfl
  have H9 : Hid (Kb 0 w w9 ∧ Kb 0 w6 w9) := (⟨kw2.trans k29, k69⟩ : _ ∧ _)
  have HW9 : Hid (w9 = w8.alloc (.cells #[.slice s1 D.n e1, .slice s2 D.m e2] 40) ∧ P9 = w8.heap.size) := (⟨hw9, hP9⟩ : _ ∧ _)
  clear o8 k8 hP9 hw9 k89 b9 k69 k29 b29 kw2 b2 z2 r2 k26 b6 z6 H7
  go_upto_region 14 with fail
  rw [← (show _ ∧ _ from HW9).1, ← (show _ ∧ _ from HW9).2]
  clear HW9
  go_wp2_with fail
  refine HE9.mono ?_
  rintro e w10 ⟨rfl, k10⟩
  clear HE9 u0 u1 x0 x1
  obtain ⟨kw9, k69⟩ := (show _ ∧ _ from H9)
  obtain ⟨k26, b6, z6⟩ := (show _ ∧ _ ∧ _ from H6)
  have k610 := k69.trans k10
  have b10 := (k610.block P4 (Nat.zero_le _) z6).trans b6
  have x0 : w10.cell? ⟨P4, 0, none⟩ = some (.slice q1 D.n d1) := cell_of b10 rfl
  have x1 : w10.cell? ⟨P4, 1, none⟩ = some (.slice q2 D.m d2) := cell_of b10 rfl
  have HH10 := (show ∀ W : World, Kb 0 w6 W → _ from HHD) w10 k610
  have HF : Hid (Kb 0 w w10) := kw9.trans k10
  clear kw9 k69 k26 b6 z6 k610 b10 k10 H9 H6 H2
  go_wp2_with fail
  refine HH10.mono ?_
  rintro e w11 ⟨rfl, k11⟩
  have HG : Hid (Kb 0 w w11) := (show Kb 0 w w10 from HF).trans k11
  clear HH10 x0 x1 HF k11
  go_wp2_with fail
  go_ret
  exact ⟨rfl, HG⟩
end Go.Proofs.Ytbbjbojjglhgmaa.Fo
