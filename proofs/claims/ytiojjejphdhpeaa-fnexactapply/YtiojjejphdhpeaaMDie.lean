import Derived.Deep.RegionHeld3
import Derived.Test.YtiojjejphdhpeaaMDid
import Derived.Test.YtiojjejphdhpeaaMDag
import Derived.Test.YtiojjejphdhpeaaMDbe
import Derived.Test.YtiojjejphdhpeaaMDei
import Derived.Test.YtiojjejphdhpeaaMDch
namespace Go.Proofs.Ytiojjejphdhpeaa.Fo
open Go.ChangeShapes Go.WideShapes Go.ChangeAt Go.RowKit
set_option linter.unusedVariables false
set_option maxRecDepth 100000
theorem sm_mks3 (F : Nat → Ed) : ∀ n, sm (mks 3 F) n = 2 * n + sm (fun i => (F i).c) n
  | 0 => rfl
  | n + 1 => by
    show sm (mks 3 F) n + mks 3 F n = 2 * (n + 1) + (sm (fun i => (F i).c) n + (F n).c)
    rw [sm_mks3 F n]
    unfold mks
    omega
set_option maxHeartbeats 32000000 in
theorem law_apply {v1 v2 : Value} {D : Dd} {pk : Option Addr} {nk ck : Nat} {F : Nat → Ed} (tt : Int) (w : World) (ha : RowD 0 w v1 v2 D) (hn : (D.n : Int) < 140737488355328) (hB : ∀ i, i < D.n → ((D.B i).c : Int) < 140737488355328) (hm : (D.m : Int) < 140737488355328) (hQ : ∀ i, i < D.m → ((D.Q i).c : Int) < 140737488355328) (hk : RowE 3 0 w (.slice pk nk ck) nk F) (hnk : (nk : Int) < 140737488355328) (hkF : ∀ i, i < nk → ((F i).c : Int) < 140737488355328) :
    Calls Try.prog 8 #[.agg #[v1, v2], .slice pk nk ck, .int .i64 tt] w fun e w' => e = .returned (.bool true) ∧ Kb 0 w w' := by
  obtain ⟨⟨p1, c1, rfl, -⟩, ⟨p2, c2, rfl, -⟩⟩ := id ha
  obtain ⟨w0, hw0⟩ : ∃ w0, w0 = w.alloc (.cells #[.slice p1 D.n c1, .slice p2 D.m c2] 25) := ⟨_, rfl⟩
  have k0 : Kb 0 w w0 := by rw [hw0]; exact kb_alloc _ _ _
  have b0 : w0.heap[w.heap.size]? = some (.cells #[.slice p1 D.n c1, .slice p2 D.m c2] 25 (0, 0)) := by rw [hw0]; exact alloc_new _ _ _
  have HS := sz_disk w0 1048576 (ha.keep k0) hn hB hm hQ (by omega) (by omega)
  have u0 : w0.cell? ⟨w.heap.size, 0, none⟩ = some (.slice p1 D.n c1) := cell_of b0 rfl
  have u1 : w0.cell? ⟨w.heap.size, 1, none⟩ = some (.slice p2 D.m c2) := cell_of b0 rfl
  have HB : Hid (Kb 0 w w0 ∧ w0.heap[w.heap.size]? = some (.cells #[.slice p1 D.n c1, .slice p2 D.m c2] 25 (0, 0)) ∧ w.heap.size < w0.heap.size ∧ RowD 0 w (.slice p1 D.n c1) (.slice p2 D.m c2) D) := (⟨k0, b0, by rw [hw0]; simp, ha⟩ : _ ∧ _)
  have HW0 : Hid (w0 = _) := hw0
  have HKW : Hid (RowE 3 0 w (.slice pk nk ck) nk F ∧ (nk : Int) < 140737488355328 ∧ ∀ i, i < nk → ((F i).c : Int) < 140737488355328) := (⟨hk, hnk, hkF⟩ : _ ∧ _)
  clear hw0 k0 b0 hn hB hm hQ ha hk hnk hkF
  go_enter Try.func8, Try.ntmps8
  go_upto_region 2 with fail
  rw [← (show w0 = _ from HW0)]
  clear HW0
  go_wp2_with fail
  refine HS.mono ?_
  rintro e wA ⟨r, rfl, hr1, hr2, hr3, kA⟩
  clear HS
  obtain ⟨k0, b0, z0, ha⟩ := (show _ ∧ _ ∧ _ ∧ _ from HB)
  rcases Int.lt_or_le r 0 with h | h
  · have HF : Hid (Kb 0 w wA) := k0.trans kA
    clear HB k0 b0 z0 ha kA hr1 u0 u1 HKW
    go_wp2_with fail
    go_ret
    exact ⟨rfl, HF⟩
  have h' : ¬ r < 0 := by omega
  have HRR : Hid (dsz D ≤ 1048576 ∧ r ≤ 1048576 ∧ Kb 0 w0 wA) := (⟨by have := hr1 h; omega, by omega, kA⟩ : _ ∧ _)
  have HZ := sz_row3 wA r ((show _ ∧ _ ∧ _ from HKW).1.keep (.inr (.inr rfl)) (k0.trans kA)) (show _ ∧ _ ∧ _ from HKW).2.1 (show _ ∧ _ ∧ _ from HKW).2.2 h (by omega)
  clear k0 b0 z0 ha kA hr1 hr2 hr3 u0 u1
  go_wp2_with fail
  refine HZ.mono ?_
  rintro e w1 ⟨r2, rfl, hq1, hq2, hq3, k1b⟩
  clear HZ
  obtain ⟨k0, b0, z0, ha⟩ := (show _ ∧ _ ∧ _ ∧ _ from HB)
  obtain ⟨hds, hrl, kA⟩ := (show _ ∧ _ ∧ _ from HRR)
  have k1 := kA.trans k1b
  rcases Int.lt_or_le r2 0 with h2 | h2
  · have HF : Hid (Kb 0 w w1) := k0.trans k1
    clear HB k0 b0 z0 ha k1 kA k1b hq1 hds hrl HRR HKW
    go_wp2_with fail
    go_ret
    exact ⟨rfl, HF⟩
  have h2' : ¬ r2 < 0 := by omega
  have hops : nk + sm (fun i => (F i).c) nk ≤ 1048576 := by have := hq1 h2; omega
  have HOPS : Hid (nk + sm (fun i => (F i).c) nk ≤ 1048576 ∧ nk ≤ 1048576 ∧ ∀ i, i < nk → (F i).c ≤ 1048576) := (⟨hops, by omega, fun i hi => by have := sm_one (fun i => (F i).c) hi; omega⟩ : _ ∧ _)
  clear hq1 hq2 hq3 hrl HRR k1b kA hops
  have hbd : BdD D := bd_of hds
  have b1 := (k1.block _ (Nat.zero_le _) z0).trans b0
  have kw1 := k0.trans k1
  have HTO : Hid (∀ W, Kb 0 w W → Calls Try.prog 11 #[.agg #[.slice p1 D.n c1, .slice p2 D.m c2]] W fun e w' => ∃ x1 x2, e = .returned (.agg #[x1, x2]) ∧ OwD W.heap.size w'.heap.size w' x1 x2 D ∧ Kb 0 W w') := (fun W k => to_disk W (ha.keep k) hbd : ∀ W, _)
  have HEQ : Hid (∀ (W : World) x1 x2 y1 y2, RowD 0 W x1 x2 D → RowD 0 W y1 y2 D → Calls Try.prog 14 #[.agg #[x1, x2], .agg #[y1, y2]] W fun e w' => e = .returned (.bool true) ∧ Kb 0 W w') := (fun W x1 x2 y1 y2 h1 h2 => eq_disk W h1 h2 hbd : ∀ (W : World) x1 x2 y1 y2, _)
  have HBD : Hid (BdD D) := hbd
  have H1 : Hid (Kb 0 w w1 ∧ w1.heap[w.heap.size]? = some (.cells #[.slice p1 D.n c1, .slice p2 D.m c2] 25 (0, 0)) ∧ w.heap.size < w1.heap.size) := (⟨kw1, b1, by have := k1.size; omega⟩ : _ ∧ _)
  obtain ⟨D', hbd', hSP, hIM⟩ := apply_any (F := F) tt (show BdD D from HBD) (show _ ∧ _ ∧ _ from HOPS).2.1 (show _ ∧ _ ∧ _ from HOPS).2.2
  have HSP : Hid (∀ v1 v2 vk w, RowD 0 w v1 v2 D → RowE 3 0 w vk nk F → Calls Try.prog 38 #[.agg #[v1, v2], vk, .int .i64 tt] w (DsP D' w)) := hSP
  have HIM : Hid (∀ v1 v2 vk w, RowD 0 w v1 v2 D → RowE 3 0 w vk nk F → Calls Try.prog 40 #[.agg #[v1, v2], vk, .int .i64 tt] w (DsP D' w)) := hIM
  have HTB : Hid (∀ W, Kb 0 w W → Calls Try.prog 39 #[.slice pk nk ck] W fun e w' => ∃ px cx, e = .returned (.slice px nk cx) ∧ (∃ g V G, OwE 3 W.heap.size w'.heap.size w' (.slice px nk cx) nk F g V G) ∧ Kb 0 W w') := (fun W k => (to_row3 W ((show _ ∧ _ ∧ _ from HKW).1.keep (.inr (.inr rfl)) k) (show _ ∧ _ ∧ _ from HOPS).2.1 (show _ ∧ _ ∧ _ from HOPS).2.2).mono (fun e w' ⟨v, g, V, G, h1, h2, h3⟩ => by obtain ⟨px, cx, rfl, _⟩ := h2.sl; exact ⟨_, _, h1, ⟨g, V, G, h2⟩, h3⟩) : ∀ W, _)
  have HEK : Hid (∀ (W : World) v v', RowE 3 0 W v nk F → RowE 3 0 W v' nk F → Calls Try.prog 34 #[v, v'] W fun e w' => e = .returned (.bool true) ∧ Kb 0 W w') := (fun W v v' h1 h2 => eq_row3 W h1 h2 (show _ ∧ _ ∧ _ from HOPS).2.1 (show _ ∧ _ ∧ _ from HOPS).2.2 : ∀ (W : World) v v', _)
  have HMK : Hid (∀ (W : World) v L H g V G (k : Int), OwE 3 L H W v nk F g V G → 1 ≤ k → k ≤ 80000001 → Calls Try.prog 35 #[v, .int .i64 k] W fun e w' => e = .returned (.int .i64 (k + (sm (mks 3 F) nk : Int))) ∧ Kq (fun q => L ≤ q ∧ q < H) W w') := (fun W v L H g V G k h1 h2 h3 => (mark_row3 W k h1 (show _ ∧ _ ∧ _ from HOPS).2.1 (show _ ∧ _ ∧ _ from HOPS).2.2 h2 (by have := (show _ ∧ _ ∧ _ from HOPS).1; have := sm_mks3 F nk; omega)).mono (fun e w' ⟨h1, h2, _⟩ => ⟨h1, h2⟩) : ∀ (W : World) v L H g V G (k : Int), _)
  have HEB : Hid (∀ (W : World) x1 x2 y1 y2, RowD 0 W x1 x2 D' → RowD 0 W y1 y2 D' → Calls Try.prog 14 #[.agg #[x1, x2], .agg #[y1, y2]] W fun e w' => e = .returned (.bool true) ∧ Kb 0 W w') := (fun W x1 x2 y1 y2 h1 h2 => eq_disk W h1 h2 hbd' : ∀ (W : World) x1 x2 y1 y2, _)
  have HBD' : Hid (BdD D') := hbd'
  have HT1 := (show ∀ W, Kb 0 w W → _ from HTO) w1 kw1
  clear hSP hIM hbd'
  have u0 : w1.cell? ⟨w.heap.size, 0, none⟩ = some (.slice p1 D.n c1) := cell_of b1 rfl
  have u1 : w1.cell? ⟨w.heap.size, 1, none⟩ = some (.slice p2 D.m c2) := cell_of b1 rfl
  clear HB k0 b0 z0 ha k1 hbd b1 kw1
  go_wp2_with fail
  refine HT1.mono ?_
  rintro e w2 ⟨x1, x2, rfl, o2, k2⟩
  obtain ⟨q1, d1, q2, d2, rfl, rfl⟩ := o2.shape
  have HB2 := (show ∀ W, Kb 0 w W → _ from HTB) w2 ((show _ ∧ _ ∧ _ from H1).1.trans k2)
  have H2 : Hid (Kb 0 w1 w2 ∧ RowD 0 w2 (.slice q1 D.n d1) (.slice q2 D.m d2) D) := (⟨k2, o2.rowD.mono (Nat.zero_le _)⟩ : _ ∧ _)
  clear HT1 o2 k2 u0 u1
  go_wp2_with fail
  refine HB2.mono ?_
  rintro e w22 ⟨pz, cz, rfl, ⟨gz, Vz, Gz, oz⟩, k22⟩
  have HS2 := (show ∀ v1 v2 vk w, _ from HSP) _ _ _ w22 ((show _ ∧ _ from H2).2.keep k22) ((oz.rowE (.inr (.inr rfl))).mono (Nat.zero_le _))
  have H22 : Hid (Kb 0 w1 w22) := (show _ ∧ _ from H2).1.trans k22
  clear HB2 H2 oz k22 Vz Gz gz
  go_wp2_with fail
  refine HS2.mono ?_
  rintro e w3 ⟨y1, y2, rfl, os3, k3⟩
  obtain ⟨s1, sx1, s2, sx2, rfl, rfl⟩ := os3.shape
  obtain ⟨kw1, b1, z1⟩ := (show _ ∧ _ ∧ _ from H1)
  have k13 := (show Kb 0 w1 w22 from H22).trans k3
  obtain ⟨P4, hP4⟩ : ∃ P4, P4 = w3.heap.size := ⟨_, rfl⟩
  obtain ⟨w4, hw4⟩ : ∃ w4, w4 = w3.alloc (.cells #[.slice s1 D'.n sx1, .slice s2 D'.m sx2] 30) := ⟨_, rfl⟩
  have k34 : Kb 0 w3 w4 := by rw [hw4]; exact kb_alloc _ _ _
  have k14 := k13.trans k34
  have z14 := k14.size
  have b4 : w4.heap[P4]? = some (.cells #[.slice s1 D'.n sx1, .slice s2 D'.m sx2] 30 (0, 0)) := by rw [hw4, hP4]; exact alloc_new _ _ _
  have z4 : w4.heap.size = P4 + 1 := by rw [hw4, hP4]; exact World.size_alloc _ _
  have b04 := (k14.block _ (Nat.zero_le _) z1).trans b1
  have HT4 := (show ∀ W, Kb 0 w W → _ from HTO) w4 (kw1.trans k14)
  have u0 : w4.cell? ⟨w.heap.size, 0, none⟩ = some (.slice p1 D.n c1) := cell_of b04 rfl
  have u1 : w4.cell? ⟨w.heap.size, 1, none⟩ = some (.slice p2 D.m c2) := cell_of b04 rfl
  have H4 : Hid (Kb 0 w w4 ∧ w4.heap[w.heap.size]? = some (.cells #[.slice p1 D.n c1, .slice p2 D.m c2] 25 (0, 0)) ∧ w.heap.size < w4.heap.size ∧ w4.heap[P4]? = some (.cells #[.slice s1 D'.n sx1, .slice s2 D'.m sx2] 30 (0, 0)) ∧ w4.heap.size = P4 + 1 ∧ RowD 0 w4 (.slice s1 D'.n sx1) (.slice s2 D'.m sx2) D') := (⟨kw1.trans k14, b04, by omega, b4, z4, (os3.rowD.mono (Nat.zero_le _)).keep k34⟩ : _ ∧ _)
  have HW4 : Hid (w4 = w3.alloc (.cells #[.slice s1 D'.n sx1, .slice s2 D'.m sx2] 30) ∧ P4 = w3.heap.size) := (⟨hw4, hP4⟩ : _ ∧ _)
  clear HS2 H1 H22 kw1 b1 z1 k13 k3 os3 hP4 hw4 k34 k14 z14 b4 z4 b04
  go_upto_region 9 with fail
  rw [← (show _ ∧ _ from HW4).1, ← (show _ ∧ _ from HW4).2]
  clear HW4
  go_wp2_with fail
  refine HT4.mono ?_
  rintro e w5 ⟨x1, x2, rfl, o5, k5⟩
  obtain ⟨q1, d1, q2, d2, rfl, rfl⟩ := o5.shape
  clear u0 u1 HT4
  obtain ⟨P6, hP6⟩ : ∃ P6, P6 = w5.heap.size := ⟨_, rfl⟩
  obtain ⟨w6, hw6⟩ : ∃ w6, w6 = w5.alloc (.cells #[.slice q1 D.n d1, .slice q2 D.m d2] 30) := ⟨_, rfl⟩
  have k56 : Kb 0 w5 w6 := by rw [hw6]; exact kb_alloc _ _ _
  have b6 : w6.heap[P6]? = some (.cells #[.slice q1 D.n d1, .slice q2 D.m d2] 30 (0, 0)) := by rw [hw6, hP6]; exact alloc_new _ _ _
  have z6 : w6.heap.size = P6 + 1 := by rw [hw6, hP6]; exact World.size_alloc _ _
  have z45 := k5.size
  have o6 : OwD w4.heap.size P6 w6 (.slice q1 D.n d1) (.slice q2 D.m d2) D := by rw [hP6]; exact o5.block (fun q _ h2 => k56.block q (Nat.zero_le _) h2)
  have r6 := (o5.rowD.mono (Nat.zero_le _)).keep k56
  have HB6 := (show ∀ W, Kb 0 w W → _ from HTB) w6 (((show _ ∧ _ from H4).1.trans k5).trans k56)
  have H6 : Hid (Kb 0 w4 w6 ∧ w6.heap[P6]? = some (.cells #[.slice q1 D.n d1, .slice q2 D.m d2] 30 (0, 0)) ∧ w6.heap.size = P6 + 1 ∧ w4.heap.size ≤ P6 ∧ OwD w4.heap.size P6 w6 (.slice q1 D.n d1) (.slice q2 D.m d2) D ∧ RowD 0 w6 (.slice q1 D.n d1) (.slice q2 D.m d2) D) := (⟨k5.trans k56, b6, z6, by omega, o6, r6⟩ : _ ∧ _)
  have x0 : w6.cell? ⟨P6, 0, none⟩ = some (.slice q1 D.n d1) := cell_of b6 rfl
  have x1 : w6.cell? ⟨P6, 1, none⟩ = some (.slice q2 D.m d2) := cell_of b6 rfl
  have HW6 : Hid (w6 = w5.alloc (.cells #[.slice q1 D.n d1, .slice q2 D.m d2] 30) ∧ P6 = w5.heap.size) := (⟨hw6, hP6⟩ : _ ∧ _)
  clear o5 k5 hP6 hw6 k56 b6 z6 z45 o6 r6
  clear x0 x1
  go_upto_region 10 with fail
  rw [← (show _ ∧ _ from HW6).1, ← (show _ ∧ _ from HW6).2]
  clear HW6
  go_wp2_with fail
  refine HB6.mono ?_
  rintro e w66 ⟨pz, cz, rfl, ⟨gz, Vz, Gz, oz⟩, k66⟩
  have x0 : w66.cell? ⟨P6, 0, none⟩ = some (.slice q1 D.n d1) := k66.cell (cell_of (show _ ∧ _ ∧ _ ∧ _ from H6).2.1 rfl)
  have x1 : w66.cell? ⟨P6, 1, none⟩ = some (.slice q2 D.m d2) := k66.cell (cell_of (show _ ∧ _ ∧ _ ∧ _ from H6).2.1 rfl)
  have HI6 := (show ∀ v1 v2 vk w, _ from HIM) _ _ _ w66 ((show _ ∧ _ ∧ _ ∧ _ ∧ _ ∧ _ from H6).2.2.2.2.2.keep k66) ((oz.rowE (.inr (.inr rfl))).mono (Nat.zero_le _))
  have H66 : Hid (Kb 0 w6 w66 ∧ OwE 3 w6.heap.size w66.heap.size w66 (.slice pz nk cz) nk F gz Vz Gz) := (⟨k66, oz⟩ : _ ∧ _)
  clear HB6 k66 oz
  go_wp2_with fail
  refine HI6.mono ?_
  rintro e w7 ⟨y1, y2, rfl, og7, k7⟩
  obtain ⟨g1, gx1, g2, gx2, rfl, rfl⟩ := og7.shape
  clear HI6 x0 x1
  obtain ⟨kw4, b04, z04, b4, z4, r4⟩ := (show _ ∧ _ ∧ _ ∧ _ ∧ _ ∧ _ from H4)
  obtain ⟨k46, b6, z6, zl, o6, r6⟩ := (show _ ∧ _ ∧ _ ∧ _ ∧ _ ∧ _ from H6)
  obtain ⟨k66, oz⟩ := (show _ ∧ _ from H66)
  have k668 := k7
  have k7 := k66.trans k7
  obtain ⟨P8, hP8⟩ : ∃ P8, P8 = w7.heap.size := ⟨_, rfl⟩
  obtain ⟨w8, hw8⟩ : ∃ w8, w8 = w7.alloc (.cells #[.slice g1 D'.n gx1, .slice g2 D'.m gx2] 30) := ⟨_, rfl⟩
  have k78 : Kb 0 w7 w8 := by rw [hw8]; exact kb_alloc _ _ _
  have b8 : w8.heap[P8]? = some (.cells #[.slice g1 D'.n gx1, .slice g2 D'.m gx2] 30 (0, 0)) := by rw [hw8, hP8]; exact alloc_new _ _ _
  have z8 : w8.heap.size = P8 + 1 := by rw [hw8, hP8]; exact World.size_alloc _ _
  have z67 := k7.size
  have z668 := k668.size
  have og8 : OwD w66.heap.size P8 w8 (.slice g1 D'.n gx1) (.slice g2 D'.m gx2) D' := by rw [hP8]; exact og7.block (fun q _ h2 => k78.block q (Nat.zero_le _) h2)
  have k68 := k7.trans k78
  have k48 := k46.trans k68
  have b48 := (k48.block P4 (Nat.zero_le _) (by omega)).trans b4
  have HE8 := (show ∀ (W : World) x1 x2 y1 y2, _ from HEB) w8 _ _ _ _ (og8.rowD.mono (Nat.zero_le _)) (r4.keep k48)
  have u0 : w8.cell? ⟨P4, 0, none⟩ = some (.slice s1 D'.n sx1) := cell_of b48 rfl
  have u1 : w8.cell? ⟨P4, 1, none⟩ = some (.slice s2 D'.m sx2) := cell_of b48 rfl
  have x0 : w8.cell? ⟨P8, 0, none⟩ = some (.slice g1 D'.n gx1) := cell_of b8 rfl
  have x1 : w8.cell? ⟨P8, 1, none⟩ = some (.slice g2 D'.m gx2) := cell_of b8 rfl
  have H8 : Hid (Kb 0 w w8 ∧ Kb 0 w4 w8 ∧ Kb 0 w6 w8 ∧ w8.heap[P8]? = some (.cells #[.slice g1 D'.n gx1, .slice g2 D'.m gx2] 30 (0, 0)) ∧ w8.heap.size = P8 + 1 ∧ w66.heap.size ≤ P8 ∧ OwD w66.heap.size P8 w8 (.slice g1 D'.n gx1) (.slice g2 D'.m gx2) D' ∧ Kb 0 w66 w8) := (⟨kw4.trans k48, k48, k68, b8, z8, by omega, og8, k668.trans k78⟩ : _ ∧ _)
  have HW8 : Hid (w8 = w7.alloc (.cells #[.slice g1 D'.n gx1, .slice g2 D'.m gx2] 30) ∧ P8 = w7.heap.size) := (⟨hw8, hP8⟩ : _ ∧ _)
  clear kw4 b04 z04 b4 z4 r4 k46 b6 z6 zl o6 r6 hP8 hw8 k78 b8 z8 z67 z668 og8 k68 k48 b48 og7 k7 k668 k66 oz
  go_upto_region 12 with fail
  rw [← (show _ ∧ _ from HW8).1, ← (show _ ∧ _ from HW8).2]
  clear HW8
  go_wp2_with fail
  refine HE8.mono ?_
  rintro e w9 ⟨rfl, k9⟩
  clear HE8 u0 u1 x0 x1
  obtain ⟨kw4, b04, z04, b4, z4, r4⟩ := (show _ ∧ _ ∧ _ ∧ _ ∧ _ ∧ _ from H4)
  obtain ⟨k46, b6, z6, zl, o6, r6⟩ := (show _ ∧ _ ∧ _ ∧ _ ∧ _ ∧ _ from H6)
  obtain ⟨kw8, k48, k68, b8, z8, zl8, og8, k668⟩ := (show _ ∧ _ ∧ _ ∧ _ ∧ _ ∧ _ ∧ _ ∧ _ from H8)
  have kw9 := kw8.trans k9
  have b09 := ((k48.trans k9).block _ (Nat.zero_le _) z04).trans b04
  have b69 := ((k68.trans k9).block P6 (Nat.zero_le _) (by omega)).trans b6
  have HALL : Hid (∀ W, Kb 0 w9 W → W.cell? ⟨w.heap.size, 0, none⟩ = some (.slice p1 D.n c1) ∧ W.cell? ⟨w.heap.size, 1, none⟩ = some (.slice p2 D.m c2) ∧ W.cell? ⟨P6, 0, none⟩ = some (.slice q1 D.n d1) ∧ W.cell? ⟨P6, 1, none⟩ = some (.slice q2 D.m d2)) := (fun W k => ⟨k.cell (cell_of b09 rfl), k.cell (cell_of b09 rfl), k.cell (cell_of b69 rfl), k.cell (cell_of b69 rfl)⟩ : ∀ W, _)
  obtain ⟨a0, a1, a2, a3⟩ := (show ∀ W, Kb 0 w9 W → _ from HALL) w9 (Kb.refl _ _)
  have H9 : Hid (Kb 0 w w9 ∧ RowD 0 w9 (.slice q1 D.n d1) (.slice q2 D.m d2) D ∧ Kb 0 w8 w9) := (⟨kw9, r6.keep (k68.trans k9), k9⟩ : _ ∧ _)
  have HT9 : Hid (∀ W', W'.heap = w9.heap → W'.os = w9.os → W'.output = w9.output → Calls Try.prog 11 #[.agg #[.slice p1 D.n c1, .slice p2 D.m c2]] W' fun e w' => ∃ y1 y2, e = .returned (.agg #[y1, y2]) ∧ RowD 0 w' y1 y2 D ∧ Kb 0 w9 w') := (fun W' h0 h1 h2 => by
    have kk : Kb 0 w9 W' := ⟨h1, h2, by rw [h0]; exact Nat.le_refl _, fun k _ _ => by rw [h0]⟩
    refine ((show ∀ W, Kb 0 w W → _ from HTO) W' (kw9.trans kk)).mono ?_
    rintro e w' ⟨y1, y2, rfl, o, k⟩
    exact ⟨y1, y2, rfl, o.rowD.mono (Nat.zero_le _), kk.trans k⟩ : ∀ W', _)
  clear kw4 b04 z04 b4 z4 r4 k46 b6 z6 zl o6 r6 kw8 k48 k68 b8 z8 zl8 og8 k668 kw9 b09 b69 k9
  go_upto_region 14 with fail
  go_region_held3 (fun W' => W'.cell? ⟨w.heap.size, 0, none⟩ = some (.slice p1 D.n c1) ∧ W'.cell? ⟨w.heap.size, 1, none⟩ = some (.slice p2 D.m c2) ∧ W'.cell? ⟨P6, 0, none⟩ = some (.slice q1 D.n d1) ∧ W'.cell? ⟨P6, 1, none⟩ = some (.slice q2 D.m d2)) (first | exact ⟨a0, a1, a2, a3⟩ | exact (show ∀ W, Kb 0 w9 W → _ from HALL) _ k77 | exact (show ∀ W, Kb 0 w9 W → _ from HALL) _ k910) ((first | (go_at_call 11; refine ((show ∀ W', _ from HT9) _ (by exact rfl) (by exact rfl) (by exact rfl)).mono ?_; rintro e w77 ⟨y1, y2, rfl, r77, k77⟩) | (go_at_call 14; refine ((show ∀ (W : World) x1 x2 y1 y2, _ from HEQ) _ _ _ _ _ ((show _ ∧ _ ∧ _ from H9).2.1.keep k77) r77).mono ?_; rintro e w10 ⟨rfl, k710⟩; have k910 := k77.trans k710)))
  all_goals
    have HB10 := (show ∀ W, Kb 0 w W → _ from HTB) w10 ((show _ ∧ _ ∧ _ from H9).1.trans k910)
    have H10 : Hid (Kb 0 w8 w10) := (show _ ∧ _ ∧ _ from H9).2.2.trans k910
    clear r77 k77 k910 k710 H9 HALL HT9 a0 a1 a2 a3
    go_wp2_with fail
    refine HB10.mono ?_
    rintro e w101 ⟨pj, cj, rfl, ⟨gj, Vj, Gj, oj⟩, k101⟩
    have hrz : RowE 3 0 w101 (.slice pz nk cz) nk F := (((show _ ∧ _ from H66).2.rowE (.inr (.inr rfl))).mono (Nat.zero_le _)).keep (.inr (.inr rfl)) (((show _ ∧ _ ∧ _ ∧ _ ∧ _ ∧ _ ∧ _ ∧ _ from H8).2.2.2.2.2.2.2.trans (show Kb 0 w8 w10 from H10)).trans k101)
    have HE10 := (show ∀ (W : World) v v', _ from HEK) w101 _ _ hrz ((oj.rowE (.inr (.inr rfl))).mono (Nat.zero_le _))
    have H101 : Hid (Kb 0 w8 w101) := (show Kb 0 w8 w10 from H10).trans k101
    clear HB10 oj k101 H10 hrz Vj Gj gj
    go_wp2_with fail
    refine HE10.mono ?_
    rintro e w102 ⟨rfl, k102⟩
    have H102 : Hid (Kb 0 w8 w102) := (show Kb 0 w8 w101 from H101).trans k102
    clear HE10 k102 H101
    obtain ⟨k46, b6, z6, zl, o6, r6⟩ := (show _ ∧ _ ∧ _ ∧ _ ∧ _ ∧ _ from H6)
    obtain ⟨kw8, k48, k68, b8, z8, zl8, og8, k668⟩ := (show _ ∧ _ ∧ _ ∧ _ ∧ _ ∧ _ ∧ _ ∧ _ from H8)
    have k610 := k68.trans (show Kb 0 w8 w102 from H102)
    have z610 := k610.size
    have b610 := (k610.block P6 (Nat.zero_le _) (by omega)).trans b6
    have HM := mark_disk w102 1 (o6.block (fun q _ h2 => k610.block q (Nat.zero_le _) (by omega))) (by omega) HBD (by omega) (by omega)
    obtain ⟨KA, hKA⟩ : ∃ KA : Int, KA = 1 + (dmk D : Int) := ⟨_, rfl⟩
    rw [← hKA] at HM
    have hKA0 : ¬ KA < 0 := by omega
    have HKA2 : Hid (1 ≤ KA ∧ KA ≤ 80000001) := (⟨by omega, by have := (show BdD D from HBD).hs; omega⟩ : _ ∧ _)
    have x0 : w102.cell? ⟨P6, 0, none⟩ = some (.slice q1 D.n d1) := cell_of b610 rfl
    have x1 : w102.cell? ⟨P6, 1, none⟩ = some (.slice q2 D.m d2) := cell_of b610 rfl
    clear k46 b6 z6 zl o6 r6 kw8 k48 k68 b8 z8 zl8 og8 k668 k610 z610 b610 hKA
    go_wp2_with fail
    refine HM.mono ?_
    rintro e w11 ⟨rfl, kq11, -⟩
    clear HM x0 x1
    have HZ11 := (show ∀ (W : World) v L H g V G (k : Int), _ from HMK) w11 (.slice pz nk cz) w6.heap.size w66.heap.size gz Vz Gz KA (by
      obtain ⟨k46, b6, z6, zl, o6, r6⟩ := (show _ ∧ _ ∧ _ ∧ _ ∧ _ ∧ _ from H6)
      obtain ⟨k66, oz⟩ := (show _ ∧ _ from H66)
      obtain ⟨kw8, k48, k68, b8, z8, zl8, og8, k668⟩ := (show _ ∧ _ ∧ _ ∧ _ ∧ _ ∧ _ ∧ _ ∧ _ from H8)
      have z2 := k668.size
      have z1 := (show Kb 0 w8 w102 from H102).size
      exact oz.block (fun q hq1 hq2 => ((kq11.block q (by omega) (fun h => by omega)).trans ((show Kb 0 w8 w102 from H102).block q (Nat.zero_le _) (by omega))).trans (k668.block q (Nat.zero_le _) hq2))) (show _ ∧ _ from HKA2).1 (show _ ∧ _ from HKA2).2
    obtain ⟨KB, hKB⟩ : ∃ KB : Int, KB = KA + (sm (mks 3 F) nk : Int) := ⟨_, rfl⟩
    rw [← hKB] at HZ11
    have hKB0 : ¬ KB < 0 := by omega
    have HKQ : Hid (Kq (fun q => w4.heap.size ≤ q ∧ q < P6) w102 w11) := kq11
    clear kq11 hKB
    go_wp2_with fail
    refine HZ11.mono ?_
    rintro e w111 ⟨rfl, kqz⟩
    have kq11 := (show Kq (fun q => w4.heap.size ≤ q ∧ q < P6) w102 w11 from HKQ)
    clear HZ11 hKA0 HKQ
    obtain ⟨kw4, b04, z04, b4, z4, r4⟩ := (show _ ∧ _ ∧ _ ∧ _ ∧ _ ∧ _ from H4)
    obtain ⟨k46, b6, z6, zl, o6, r6⟩ := (show _ ∧ _ ∧ _ ∧ _ ∧ _ ∧ _ from H6)
    obtain ⟨k66, oz⟩ := (show _ ∧ _ from H66)
    have z466 := k46.size
    obtain ⟨kw8, k48, k68, b8, z8, zl8, og8, k668⟩ := (show _ ∧ _ ∧ _ ∧ _ ∧ _ ∧ _ ∧ _ ∧ _ from H8)
    have k810 := (show Kb 0 w8 w102 from H102)
    have k411 : Kb 0 w4 w111 := ((k48.trans k810).mkB kq11 (fun q hq => .inr hq.1)).mkB kqz (fun q hq => .inr (by omega))
    have k811 : Kb w66.heap.size w8 w111 := ((k810.low (Nat.zero_le _)).mkB kq11 (fun q hq => .inl (by have := k66.size; omega))).mkB kqz (fun q hq => .inl (by omega))
    have z811 := k811.size
    have b411 := (k411.block P4 (Nat.zero_le _) (by omega)).trans b4
    have b811 := (k811.block P8 (by omega) (by omega)).trans b8
    have og11 : OwD w66.heap.size P8 w111 (.slice g1 D'.n gx1) (.slice g2 D'.m gx2) D' := og8.block (fun q h1 h2 => k811.block q (by omega) (by omega))
    have HE11 := (show ∀ (W : World) x1 x2 y1 y2, _ from HEB) w111 _ _ _ _ (og11.rowD.mono (Nat.zero_le _)) (r4.keep k411)
    have u0 : w111.cell? ⟨P4, 0, none⟩ = some (.slice s1 D'.n sx1) := cell_of b411 rfl
    have u1 : w111.cell? ⟨P4, 1, none⟩ = some (.slice s2 D'.m sx2) := cell_of b411 rfl
    have x0 : w111.cell? ⟨P8, 0, none⟩ = some (.slice g1 D'.n gx1) := cell_of b811 rfl
    have x1 : w111.cell? ⟨P8, 1, none⟩ = some (.slice g2 D'.m gx2) := cell_of b811 rfl
    have H11 : Hid (Kb 0 w4 w111 ∧ w111.heap[P8]? = some (.cells #[.slice g1 D'.n gx1, .slice g2 D'.m gx2] 30 (0, 0)) ∧ P8 < w111.heap.size ∧ w4.heap.size ≤ w66.heap.size ∧ OwD w66.heap.size P8 w111 (.slice g1 D'.n gx1) (.slice g2 D'.m gx2) D') := (⟨k411, b811, by omega, by have := k66.size; omega, og11⟩ : _ ∧ _)
    clear kw4 b04 z04 b4 z4 r4 k46 b6 z6 zl o6 r6 kw8 k48 k68 b8 z8 zl8 og8 k668 k810 k411 k811 z811 b411 b811 og11 kq11 kqz k66 oz z466 H66 H8 H102 H6
    go_wp2_with fail
    refine HE11.mono ?_
    rintro e w12 ⟨rfl, k12⟩
    clear HE11 u0 u1 x0 x1
    obtain ⟨k411, b811, zP8, z46, og11⟩ := (show _ ∧ _ ∧ _ ∧ _ ∧ _ from H11)
    have z1112 := k12.size
    have b812 := (k12.block P8 (Nat.zero_le _) zP8).trans b811
    have og12 : OwD w66.heap.size P8 w12 (.slice g1 D'.n gx1) (.slice g2 D'.m gx2) D' := og11.block (fun q h1 h2 => k12.block q (Nat.zero_le _) (by omega))
    have HM := mark_disk w12 1 og12 (by omega) HBD' (by omega) (by omega)
    obtain ⟨KG, hKG⟩ : ∃ KG : Int, KG = 1 + (dmk D' : Int) := ⟨_, rfl⟩
    rw [← hKG] at HM
    have hKG0 : ¬ KG < 0 := by omega
    have hKG1 : (KG != KG) = false := by simp
    have HKG : Hid (KG = 1 + (dmk D' : Int)) := hKG
    have x0 : w12.cell? ⟨P8, 0, none⟩ = some (.slice g1 D'.n gx1) := cell_of b812 rfl
    have x1 : w12.cell? ⟨P8, 1, none⟩ = some (.slice g2 D'.m gx2) := cell_of b812 rfl
    have H12 : Hid (Kb 0 w4 w12 ∧ w12.heap[P8]? = some (.cells #[.slice g1 D'.n gx1, .slice g2 D'.m gx2] 30 (0, 0)) ∧ P8 < w12.heap.size ∧ w4.heap.size ≤ w66.heap.size) := (⟨k411.trans k12, b812, by omega, z46⟩ : _ ∧ _)
    clear k411 b811 zP8 z46 og11 z1112 b812 og12 k12 hKG H11
    go_wp2_with fail
    refine HM.mono ?_
    rintro e w13 ⟨rfl, kq13, md13⟩
    clear HM x0 x1
    obtain ⟨k412, b812, zP8, z46⟩ := (show _ ∧ _ ∧ _ ∧ _ from H12)
    have k413 : Kb 0 w4 w13 := k412.mkB kq13 (fun q hq => .inr (by omega))
    have k1213 : Kb P8 w12 w13 := (Kb.refl P8 w12).mkB kq13 (fun q hq => .inl hq.2)
    have b813 := (k1213.block P8 (Nat.le_refl _) zP8).trans b812
    have z13 : P8 < w13.heap.size := by have := k1213.size; omega
    have HHD : Hid (∀ W : World, Kb 0 w13 W → W.cell? ⟨P8, 0, none⟩ = some (.slice g1 D'.n gx1) ∧ W.cell? ⟨P8, 1, none⟩ = some (.slice g2 D'.m gx2) ∧ Calls Try.prog 18 #[.agg #[.slice g1 D'.n gx1, .slice g2 D'.m gx2], .int .i64 1] W fun e w' => e = .returned (.int .i64 KG) ∧ Kb 0 W w') := (fun W k => by
      have zW := k.size
      have bW := (k.block P8 (Nat.zero_le _) z13).trans b813
      rw [show KG = _ from HKG]
      exact ⟨cell_of bW rfl, cell_of bW rfl, held_disk W 1 (md13.block (fun q _ h2 => k.block q (Nat.zero_le _) (by omega))) (by omega) HBD' (by omega) (by omega)⟩ : ∀ W : World, _)
    obtain ⟨x0, x1, HH13⟩ := (show ∀ W : World, Kb 0 w13 W → _ from HHD) w13 (Kb.refl _ _)
    have H13 : Hid (Kb 0 w4 w13) := k413
    clear k412 b812 zP8 z46 k413 k1213 b813 z13 kq13 md13 H12
    go_wp2_with fail
    refine HH13.mono ?_
    rintro e w14 ⟨rfl, k14⟩
    clear HH13 x0 x1
    obtain ⟨kw4, b04, z04, b4, z4, r4⟩ := (show _ ∧ _ ∧ _ ∧ _ ∧ _ ∧ _ from H4)
    have k414 := (show Kb 0 w4 w13 from H13).trans k14
    have b014 := (k414.block _ (Nat.zero_le _) z04).trans b04
    have HT14 := (show ∀ W, Kb 0 w W → _ from HTO) w14 (kw4.trans k414)
    have u0 : w14.cell? ⟨w.heap.size, 0, none⟩ = some (.slice p1 D.n c1) := cell_of b014 rfl
    have u1 : w14.cell? ⟨w.heap.size, 1, none⟩ = some (.slice p2 D.m c2) := cell_of b014 rfl
    have H14 : Hid (Kb 0 w13 w14) := k14
    clear kw4 b04 z04 b4 z4 r4 k414 b014 k14
    go_wp2_with fail
    refine HT14.mono ?_
    rintro e w15 ⟨x1, x2, rfl, o15, k15⟩
    obtain ⟨r1, f1, r2, f2, rfl, rfl⟩ := o15.shape
    have H15a : Hid (Kb 0 w13 w15 ∧ RowD 0 w15 (.slice r1 D.n f1) (.slice r2 D.m f2) D) := (⟨(show Kb 0 w13 w14 from H14).trans k15, o15.rowD.mono (Nat.zero_le _)⟩ : _ ∧ _)
    have HB15 := (show ∀ W, Kb 0 w W → _ from HTB) w15 (((show _ ∧ _ from H4).1.trans (show Kb 0 w4 w13 from H13)).trans (show _ ∧ _ from H15a).1)
    clear HT14 o15 k15 u0 u1 H14
    go_wp2_with fail
    refine HB15.mono ?_
    rintro e w151 ⟨py, cy, rfl, ⟨gy, Vy, Gy, oy⟩, k151⟩
    have HI15 := (show ∀ v1 v2 vk w, _ from HIM) _ _ _ w151 ((show _ ∧ _ from H15a).2.keep k151) ((oy.rowE (.inr (.inr rfl))).mono (Nat.zero_le _))
    have H15 : Hid (Kb 0 w13 w151) := (show _ ∧ _ from H15a).1.trans k151
    clear HB15 H15a oy k151 Vy Gy gy
    go_wp2_with fail
    refine HI15.mono ?_
    rintro e w16 ⟨y1, y2, rfl, oh16, k16⟩
    obtain ⟨h1, hx1, h2, hx2, rfl, rfl⟩ := oh16.shape
    clear HI15
    obtain ⟨kw4, b04, z04, b4, z4, r4⟩ := (show _ ∧ _ ∧ _ ∧ _ ∧ _ ∧ _ from H4)
    obtain ⟨P17, hP17⟩ : ∃ P17, P17 = w16.heap.size := ⟨_, rfl⟩
    obtain ⟨w17, hw17⟩ : ∃ w17, w17 = w16.alloc (.cells #[.slice h1 D'.n hx1, .slice h2 D'.m hx2] 30) := ⟨_, rfl⟩
    have k1617 : Kb 0 w16 w17 := by rw [hw17]; exact kb_alloc _ _ _
    have b17 : w17.heap[P17]? = some (.cells #[.slice h1 D'.n hx1, .slice h2 D'.m hx2] 30 (0, 0)) := by rw [hw17, hP17]; exact alloc_new _ _ _
    have k1317 := ((show Kb 0 w13 w151 from H15).trans k16).trans k1617
    have k417 := (show Kb 0 w4 w13 from H13).trans k1317
    have b417 := (k417.block P4 (Nat.zero_le _) (by omega)).trans b4
    have HE17 := (show ∀ (W : World) x1 x2 y1 y2, _ from HEB) w17 _ _ _ _ ((oh16.rowD.mono (Nat.zero_le _)).keep k1617) (r4.keep k417)
    have u0 : w17.cell? ⟨P4, 0, none⟩ = some (.slice s1 D'.n sx1) := cell_of b417 rfl
    have u1 : w17.cell? ⟨P4, 1, none⟩ = some (.slice s2 D'.m sx2) := cell_of b417 rfl
    have x0 : w17.cell? ⟨P17, 0, none⟩ = some (.slice h1 D'.n hx1) := cell_of b17 rfl
    have x1 : w17.cell? ⟨P17, 1, none⟩ = some (.slice h2 D'.m hx2) := cell_of b17 rfl
    have H17 : Hid (Kb 0 w w17 ∧ Kb 0 w13 w17) := (⟨kw4.trans k417, k1317⟩ : _ ∧ _)
    have HW17 : Hid (w17 = w16.alloc (.cells #[.slice h1 D'.n hx1, .slice h2 D'.m hx2] 30) ∧ P17 = w16.heap.size) := (⟨hw17, hP17⟩ : _ ∧ _)
    clear kw4 b04 z04 b4 z4 r4 hP17 hw17 k1617 b17 k1317 k417 b417 oh16 k16 H15 H13
    go_upto_region 32 with fail
    rw [← (show _ ∧ _ from HW17).1, ← (show _ ∧ _ from HW17).2]
    clear HW17
    go_wp2_with fail
    refine HE17.mono ?_
    rintro e w18 ⟨rfl, k18⟩
    clear HE17 u0 u1 x0 x1
    obtain ⟨kw17, k1317⟩ := (show _ ∧ _ from H17)
    obtain ⟨x0, x1, HH18⟩ := (show ∀ W : World, Kb 0 w13 W → _ from HHD) w18 (k1317.trans k18)
    have H18 : Hid (Kb 0 w w18) := kw17.trans k18
    clear kw17 k1317 k18 H17 HHD HTO HEQ HEB HSP HIM H4 HTB HEK HMK
    go_wp2_with fail
    refine HH18.mono ?_
    rintro e w19 ⟨rfl, k19⟩
    have HF : Hid (Kb 0 w w19) := (show Kb 0 w w18 from H18).trans k19
    clear HH18 H18 k19 x0 x1
    go_wp2_with fail
    go_ret
    exact ⟨rfl, HF⟩
end Go.Proofs.Ytiojjejphdhpeaa.Fo
