import Derived.Deep.RegionHeld3
import Derived.Test.YtaggciimacanbaaMDkq
import Derived.Test.YtaggciimacanbaaMDag
import Derived.Test.YtaggciimacanbaaMDch
import Derived.Test.YtaggciimacanbaaMDbe
namespace Go.Proofs.Ytaggciimacanbaa.Fo
open Go.ChangeShapes Go.WideShapes Go.ChangeAt Go.RowKit
set_option linter.unusedVariables false
set_option maxRecDepth 100000
set_option linter.unusedSimpArgs false

theorem own_blk9 {W W' : World} {v : Value} {g n : Nat} {A : Nat → Value} (h : OwnR W v g n A) (hb : W'.heap[g]? = W.heap[g]?) : OwnR W' v g n A :=
  h.block (fun _ => hb)
set_option maxHeartbeats 32000000 in
theorem law_ops {v1 v2 : Value} {D : Dd} {pk : Option Addr} {nk ck : Nat} {A : Nat → Int} (w : World) (ha : RowD 0 w v1 v2 D) (hn : (D.n : Int) < 140737488355328) (hB : ∀ i, i < D.n → ((D.B i).c : Int) < 140737488355328) (hm : (D.m : Int) < 140737488355328) (hQ : ∀ i, i < D.m → ((D.Q i).c : Int) < 140737488355328) (hk : RowV w (.slice pk nk ck) nk (fun i => .int .u8 (A i))) (hnk : (nk : Int) < 140737488355328) (hg : RgD D) (hA : ∀ i, i < nk → 0 ≤ A i ∧ A i ≤ 255) :
    Calls Try.prog 7 #[.agg #[v1, v2], .slice pk nk ck] w fun e w' => e = .returned (.bool true) ∧ Kb 0 w w' := by
  obtain ⟨⟨p1, c1, rfl, -⟩, ⟨p2, c2, rfl, -⟩⟩ := id ha
  obtain ⟨w0, hw0⟩ : ∃ w0, w0 = w.alloc (.cells #[.slice p1 D.n c1, .slice p2 D.m c2] 25) := ⟨_, rfl⟩
  have k0 : Kb 0 w w0 := by rw [hw0]; exact kb_alloc _ _ _
  have b0 : w0.heap[w.heap.size]? = some (.cells #[.slice p1 D.n c1, .slice p2 D.m c2] 25 (0, 0)) := by rw [hw0]; exact alloc_new _ _ _
  have HS := sz_disk w0 1048576 (ha.keep k0) hn hB hm hQ (by omega) (by omega)
  have u0 : w0.cell? ⟨w.heap.size, 0, none⟩ = some (.slice p1 D.n c1) := cell_of b0 rfl
  have u1 : w0.cell? ⟨w.heap.size, 1, none⟩ = some (.slice p2 D.m c2) := cell_of b0 rfl
  have HB : Hid (Kb 0 w w0 ∧ w0.heap[w.heap.size]? = some (.cells #[.slice p1 D.n c1, .slice p2 D.m c2] 25 (0, 0)) ∧ w.heap.size < w0.heap.size ∧ RowD 0 w (.slice p1 D.n c1) (.slice p2 D.m c2) D) := (⟨k0, b0, by rw [hw0]; simp, ha⟩ : _ ∧ _)
  have HW0 : Hid (w0 = _) := hw0
  have HKW : Hid (RowV w (.slice pk nk ck) nk (fun i => .int .u8 (A i))) := hk
  have HK0 : Hid (Kb 0 w w0) := k0
  have HRG : Hid (RgD D ∧ ∀ i, i < nk → 0 ≤ A i ∧ A i ≤ 255) := (⟨hg, hA⟩ : _ ∧ _)
  clear hw0 k0 b0 hn hB hm hQ ha hk hg hA
  go_enter Try.func7, Try.ntmps7
  by_cases hbig : nk ≤ 1048576
  case neg =>
    have hbI : (1048576 : Int) < (nk : Int) := by omega
    clear HS HB u0 u1 HKW hbig
    go_wp2_with fail
    go_ret
    exact ⟨rfl, by rw [← (show w0 = _ from HW0)]; exact HK0⟩
  have hbI : (nk : Int) ≤ 1048576 := by omega
  have HBG : Hid (nk ≤ 1048576) := hbig
  clear hbig hnk
  go_upto_region 4 with fail
  rw [← (show w0 = _ from HW0)]
  clear HW0 HK0
  go_wp2_with fail
  refine HS.mono ?_
  rintro e w1 ⟨r, rfl, hr1, hr2, hr3, k1⟩
  clear HS
  obtain ⟨k0, b0, z0, ha⟩ := (show _ ∧ _ ∧ _ ∧ _ from HB)
  rcases Int.lt_or_le r 0 with h | h
  · have HF : Hid (Kb 0 w w1) := k0.trans k1
    clear HB k0 b0 z0 ha k1 hr1 u0 u1
    go_wp2_with fail
    go_ret
    exact ⟨rfl, HF⟩
  have h' : ¬ r < 0 := by omega
  have hbd : BdD D := bd_of (by have := hr1 h; omega)
  have b1 := (k1.block _ (Nat.zero_le _) z0).trans b0
  have kw1 := k0.trans k1
  have HTO : Hid (∀ W, Kb 0 w W → Calls Try.prog 11 #[.agg #[.slice p1 D.n c1, .slice p2 D.m c2]] W fun e w' => ∃ x1 x2, e = .returned (.agg #[x1, x2]) ∧ OwD W.heap.size w'.heap.size w' x1 x2 D ∧ Kb 0 W w') := (fun W k => to_disk W (ha.keep k) hbd : ∀ W, _)
  have HEQ : Hid (∀ (W : World) x1 x2 y1 y2, RowD 0 W x1 x2 D → RowD 0 W y1 y2 D → Calls Try.prog 14 #[.agg #[x1, x2], .agg #[y1, y2]] W fun e w' => e = .returned (.bool true) ∧ Kb 0 W w') := (fun W x1 x2 y1 y2 h1 h2 => eq_disk W h1 h2 hbd : ∀ (W : World) x1 x2 y1 y2, _)
  have HBD : Hid (BdD D) := hbd
  have H1 : Hid (Kb 0 w w1 ∧ w1.heap[w.heap.size]? = some (.cells #[.slice p1 D.n c1, .slice p2 D.m c2] 25 (0, 0)) ∧ w.heap.size < w1.heap.size) := (⟨kw1, b1, by have := k1.size; omega⟩ : _ ∧ _)
  obtain ⟨N, F, hN, hFc, hSP, hIM⟩ := ops_any (A := A) (nk := nk) (show BdD D from HBD) (show _ ∧ _ from HRG).1 (show _ ∧ _ from HRG).2
  have HSP : Hid (∀ v1 v2 pa ca w, RowD 0 w v1 v2 D → RowV w (.slice pa nk ca) nk (ub A) → Calls Try.prog 32 #[.agg #[v1, v2], .slice pa nk ca] w (OsP N F w)) := hSP
  have HIM : Hid (∀ v1 v2 pa ca w, RowD 0 w v1 v2 D → RowV w (.slice pa nk ca) nk (ub A) → Calls Try.prog 33 #[.agg #[v1, v2], .slice pa nk ca] w (OgP N F w)) := hIM
  have HEB : Hid (∀ (W : World) x y, RowE 3 0 W x N F → RowE 3 0 W y N F → Calls Try.prog 34 #[x, y] W fun e w' => e = .returned (.bool true) ∧ Kb 0 W w') := (fun W x y h1 h2 => eq_row3 W h1 h2 (by omega) (fun i hi => by have := hFc i hi; omega) : ∀ (W : World) x y, _)
  have HNF : Hid (N ≤ 200 ∧ (∀ i, i < N → (F i).c ≤ 1048576) ∧ (1 : Int) + (sm (mks 3 F) N : Int) ≤ 90000000) := (⟨hN, fun i hi => by have := hFc i hi; omega, by have h := sm_mks9 N hFc; have : N * 66 ≤ 200 * 66 := Nat.mul_le_mul_right 66 hN; omega⟩ : _ ∧ _)
  have HTB : Hid (∀ W, Kb 0 w W → Calls Try.prog 12 #[.slice pk nk ck] W fun e w' => ∃ px cx, e = .returned (.slice px nk cx) ∧ (∃ gx, W.heap.size ≤ gx ∧ gx < w'.heap.size ∧ OwnR w' (.slice px nk cx) gx nk (fun i => .int .u8 (A i))) ∧ Kb 0 W w') := (fun W k => (to_byts W (rowv_kq (show RowV w _ nk _ from HKW) k) (show nk ≤ 1048576 from HBG)).mono (fun e w' ⟨v, h1, h3, h4, h5⟩ => by obtain ⟨px, cx, rfl, _⟩ := h3.sl; exact ⟨_, _, h1, ⟨_, Nat.le_refl _, h5, h3⟩, Kb.of_below h4 0⟩) : ∀ W, _)
  have HEK : Hid (∀ (W : World) v v', RowV W v nk (fun i => .int .u8 (A i)) → RowV W v' nk (fun i => .int .u8 (A i)) → Calls Try.prog 15 #[v, v'] W fun e w' => e = .returned (.bool true) ∧ Kb 0 W w') := (fun W v v' h1 h2 => (eq_byts W h1 h2 (show nk ≤ 1048576 from HBG)).mono (fun e w' ⟨h1, h2⟩ => ⟨h1, kb_drewN h2⟩) : ∀ (W : World) v v', _)
  have HMK : Hid (∀ (W : World) v g (k : Int), OwnR W v g nk (fun i => .int .u8 (A i)) → 0 ≤ k → k ≤ 100000000 → Calls Try.prog 17 #[v, .int .i64 k] W fun e w' => e = .returned (.int .i64 (k + (nk : Int))) ∧ Kq (fun j => 0 < nk ∧ j = g) W w') := (fun W v g k h1 h2 h3 => (mark_byts W k h1 (show nk ≤ 1048576 from HBG) h2 h3).mono (fun e w' ⟨h1, h2, _⟩ => ⟨h1, h2⟩) : ∀ (W : World) v g (k : Int), _)
  have HT1 := (show ∀ W, Kb 0 w W → _ from HTO) w1 kw1
  clear u0 u1 hSP hIM hN hFc HRG
  have u0 : w1.cell? ⟨w.heap.size, 0, none⟩ = some (.slice p1 D.n c1) := cell_of b1 rfl
  have u1 : w1.cell? ⟨w.heap.size, 1, none⟩ = some (.slice p2 D.m c2) := cell_of b1 rfl
  clear HB k0 b0 z0 ha k1 hr1 hbd b1 kw1
  go_wp2_with fail
  refine HT1.mono ?_
  rintro e w2 ⟨x1, x2, rfl, o2, k2⟩
  obtain ⟨q1, d1, q2, d2, rfl, rfl⟩ := o2.shape
  have HB2 := (show ∀ W, Kb 0 w W → _ from HTB) w2 ((show _ ∧ _ ∧ _ from H1).1.trans k2)
  have H2 : Hid (Kb 0 w1 w2 ∧ RowD 0 w2 (.slice q1 D.n d1) (.slice q2 D.m d2) D) := (⟨k2, o2.rowD.mono (Nat.zero_le _)⟩ : _ ∧ _)
  clear HT1 o2 k2 u0 u1
  go_wp2_with fail
  refine HB2.mono ?_
  rintro e w22 ⟨pz, cz, rfl, ⟨gz, -, -, oz⟩, k22⟩
  have HS2 := (show ∀ v1 v2 pa ca w, _ from HSP) _ _ _ _ w22 ((show _ ∧ _ from H2).2.keep k22) oz.row
  have H22 : Hid (Kb 0 w1 w22) := (show _ ∧ _ from H2).1.trans k22
  clear HB2 H2 oz k22
  go_wp2_with fail
  refine HS2.mono ?_
  rintro e w3 ⟨vs, rfl, os3, k3⟩
  obtain ⟨s1, sx1, rfl, -⟩ := id os3
  obtain ⟨kw1, b1, z1⟩ := (show _ ∧ _ ∧ _ from H1)
  have k13 := (show Kb 0 w1 w22 from H22).trans k3
  have z13 := k13.size
  have b03 := (k13.block _ (Nat.zero_le _) z1).trans b1
  have HT3 := (show ∀ W, Kb 0 w W → _ from HTO) w3 (kw1.trans k13)
  have u0 : w3.cell? ⟨w.heap.size, 0, none⟩ = some (.slice p1 D.n c1) := cell_of b03 rfl
  have u1 : w3.cell? ⟨w.heap.size, 1, none⟩ = some (.slice p2 D.m c2) := cell_of b03 rfl
  have H3 : Hid (Kb 0 w w3 ∧ w3.heap[w.heap.size]? = some (.cells #[.slice p1 D.n c1, .slice p2 D.m c2] 25 (0, 0)) ∧ w.heap.size < w3.heap.size ∧ RowE 3 0 w3 (.slice s1 N sx1) N F) := (⟨kw1.trans k13, b03, by omega, os3⟩ : _ ∧ _)
  clear HS2 H1 H22 kw1 b1 z1 k13 z13 b03 k3 os3
  go_wp2_with fail
  refine HT3.mono ?_
  rintro e w5 ⟨x1, x2, rfl, o5, k5⟩
  obtain ⟨q1, d1, q2, d2, rfl, rfl⟩ := o5.shape
  clear u0 u1 HT3
  obtain ⟨P6, hP6⟩ : ∃ P6, P6 = w5.heap.size := ⟨_, rfl⟩
  obtain ⟨w6, hw6⟩ : ∃ w6, w6 = w5.alloc (.cells #[.slice q1 D.n d1, .slice q2 D.m d2] 30) := ⟨_, rfl⟩
  have k56 : Kb 0 w5 w6 := by rw [hw6]; exact kb_alloc _ _ _
  have b6 : w6.heap[P6]? = some (.cells #[.slice q1 D.n d1, .slice q2 D.m d2] 30 (0, 0)) := by rw [hw6, hP6]; exact alloc_new _ _ _
  have z6 : w6.heap.size = P6 + 1 := by rw [hw6, hP6]; exact World.size_alloc _ _
  have z35 := k5.size
  have o6 : OwD w3.heap.size P6 w6 (.slice q1 D.n d1) (.slice q2 D.m d2) D := by rw [hP6]; exact o5.block (fun q _ h2 => k56.block q (Nat.zero_le _) h2)
  have r6 := (o5.rowD.mono (Nat.zero_le _)).keep k56
  have HB6 := (show ∀ W, Kb 0 w W → _ from HTB) w6 (((show _ ∧ _ from H3).1.trans k5).trans k56)
  have H6 : Hid (Kb 0 w3 w6 ∧ w6.heap[P6]? = some (.cells #[.slice q1 D.n d1, .slice q2 D.m d2] 30 (0, 0)) ∧ w6.heap.size = P6 + 1 ∧ w3.heap.size ≤ P6 ∧ OwD w3.heap.size P6 w6 (.slice q1 D.n d1) (.slice q2 D.m d2) D ∧ RowD 0 w6 (.slice q1 D.n d1) (.slice q2 D.m d2) D) := (⟨k5.trans k56, b6, z6, by omega, o6, r6⟩ : _ ∧ _)
  have HW6 : Hid (w6 = w5.alloc (.cells #[.slice q1 D.n d1, .slice q2 D.m d2] 30) ∧ P6 = w5.heap.size) := (⟨hw6, hP6⟩ : _ ∧ _)
  clear o5 k5 hP6 hw6 k56 b6 z6 z35 o6 r6
  go_upto_region 9 with fail
  rw [← (show _ ∧ _ from HW6).1, ← (show _ ∧ _ from HW6).2]
  clear HW6
  go_wp2_with fail
  refine HB6.mono ?_
  rintro e w66 ⟨pz, cz, rfl, ⟨gz, hgz1, hgz2, oz⟩, k66⟩
  have x0 : w66.cell? ⟨P6, 0, none⟩ = some (.slice q1 D.n d1) := k66.cell (cell_of (show _ ∧ _ ∧ _ ∧ _ from H6).2.1 rfl)
  have x1 : w66.cell? ⟨P6, 1, none⟩ = some (.slice q2 D.m d2) := k66.cell (cell_of (show _ ∧ _ ∧ _ ∧ _ from H6).2.1 rfl)
  have HI6 := (show ∀ v1 v2 pa ca w, _ from HIM) _ _ _ _ w66 ((show _ ∧ _ ∧ _ ∧ _ ∧ _ ∧ _ from H6).2.2.2.2.2.keep k66) oz.row
  have H66 : Hid (Kb 0 w6 w66 ∧ w6.heap.size ≤ gz ∧ gz < w66.heap.size ∧ OwnR w66 (.slice pz nk cz) gz nk (fun i => .int .u8 (A i))) := (⟨k66, hgz1, hgz2, oz⟩ : _ ∧ _)
  clear HB6 k66 hgz1 hgz2 oz
  go_wp2_with fail
  refine HI6.mono ?_
  rintro e w7 ⟨vg, gg, VV, GG, rfl, og7, k7⟩
  obtain ⟨g1, gx1, rfl, -⟩ := id (og7.rowE (.inr (.inr rfl)))
  clear HI6 x0 x1
  obtain ⟨kw3, b03, z03, r3⟩ := (show _ ∧ _ ∧ _ ∧ _ from H3)
  obtain ⟨k36, b6, z6, zl, o6, r6⟩ := (show _ ∧ _ ∧ _ ∧ _ ∧ _ ∧ _ from H6)
  obtain ⟨k66, hgz1, hgz2, oz⟩ := (show _ ∧ _ ∧ _ ∧ _ from H66)
  have k67 := k66.trans k7
  have k37 := k36.trans k67
  have HE7 := (show ∀ (W : World) x y, _ from HEB) w7 _ _ ((og7.wide (Nat.zero_le _) (Nat.le_refl _)).rowE (.inr (.inr rfl))) (r3.keep (.inr (.inr rfl)) k37)
  have H7 : Hid (Kb 0 w w7 ∧ Kb 0 w3 w7 ∧ Kb 0 w6 w7 ∧ Kb 0 w66 w7 ∧ OwE 3 w66.heap.size w7.heap.size w7 (.slice g1 N gx1) N F gg VV GG) := (⟨kw3.trans k37, k37, k67, k7, og7⟩ : _ ∧ _)
  clear kw3 b03 z03 r3 k36 b6 z6 zl o6 r6 k66 hgz1 hgz2 oz k67 k37 og7 k7
  go_wp2_with fail
  refine HE7.mono ?_
  rintro e w9 ⟨rfl, k9⟩
  clear HE7
  obtain ⟨kw3, b03, z03, r3⟩ := (show _ ∧ _ ∧ _ ∧ _ from H3)
  obtain ⟨k36, b6, z6, zl, o6, r6⟩ := (show _ ∧ _ ∧ _ ∧ _ ∧ _ ∧ _ from H6)
  obtain ⟨kw7, k37, k67, k667, og7⟩ := (show _ ∧ _ ∧ _ ∧ _ ∧ _ from H7)
  have kw9 := kw7.trans k9
  have b09 := ((k37.trans k9).block _ (Nat.zero_le _) z03).trans b03
  have b69 := ((k67.trans k9).block P6 (Nat.zero_le _) (by omega)).trans b6
  have HALL : Hid (∀ W, Kb 0 w9 W → W.cell? ⟨w.heap.size, 0, none⟩ = some (.slice p1 D.n c1) ∧ W.cell? ⟨w.heap.size, 1, none⟩ = some (.slice p2 D.m c2) ∧ W.cell? ⟨P6, 0, none⟩ = some (.slice q1 D.n d1) ∧ W.cell? ⟨P6, 1, none⟩ = some (.slice q2 D.m d2)) := (fun W k => ⟨k.cell (cell_of b09 rfl), k.cell (cell_of b09 rfl), k.cell (cell_of b69 rfl), k.cell (cell_of b69 rfl)⟩ : ∀ W, _)
  obtain ⟨a0, a1, a2, a3⟩ := (show ∀ W, Kb 0 w9 W → _ from HALL) w9 (Kb.refl _ _)
  have H9 : Hid (Kb 0 w w9 ∧ RowD 0 w9 (.slice q1 D.n d1) (.slice q2 D.m d2) D ∧ Kb 0 w7 w9) := (⟨kw9, r6.keep (k67.trans k9), k9⟩ : _ ∧ _)
  have HT9 : Hid (∀ W', W'.heap = w9.heap → W'.os = w9.os → W'.output = w9.output → Calls Try.prog 11 #[.agg #[.slice p1 D.n c1, .slice p2 D.m c2]] W' fun e w' => ∃ y1 y2, e = .returned (.agg #[y1, y2]) ∧ RowD 0 w' y1 y2 D ∧ Kb 0 w9 w') := (fun W' h0 h1 h2 => by
    have kk : Kb 0 w9 W' := ⟨h1, h2, by rw [h0]; exact Nat.le_refl _, fun k _ _ => by rw [h0]⟩
    refine ((show ∀ W, Kb 0 w W → _ from HTO) W' (kw9.trans kk)).mono ?_
    rintro e w' ⟨y1, y2, rfl, o, k⟩
    exact ⟨y1, y2, rfl, o.rowD.mono (Nat.zero_le _), kk.trans k⟩ : ∀ W', _)
  clear kw3 b03 z03 r3 k36 b6 z6 zl o6 r6 kw7 k37 k67 k667 og7 kw9 b09 b69 k9
  go_upto_region 13 with fail
  go_region_held3 (fun W' => W'.cell? ⟨w.heap.size, 0, none⟩ = some (.slice p1 D.n c1) ∧ W'.cell? ⟨w.heap.size, 1, none⟩ = some (.slice p2 D.m c2) ∧ W'.cell? ⟨P6, 0, none⟩ = some (.slice q1 D.n d1) ∧ W'.cell? ⟨P6, 1, none⟩ = some (.slice q2 D.m d2)) (first | exact ⟨a0, a1, a2, a3⟩ | exact (show ∀ W, Kb 0 w9 W → _ from HALL) _ k77 | exact (show ∀ W, Kb 0 w9 W → _ from HALL) _ k910) ((first | (go_at_call 11; refine ((show ∀ W', _ from HT9) _ (by exact rfl) (by exact rfl) (by exact rfl)).mono ?_; rintro e w77 ⟨y1, y2, rfl, r77, k77⟩) | (go_at_call 14; refine ((show ∀ (W : World) x1 x2 y1 y2, _ from HEQ) _ _ _ _ _ ((show _ ∧ _ ∧ _ from H9).2.1.keep k77) r77).mono ?_; rintro e w10 ⟨rfl, k710⟩; have k910 := k77.trans k710)))
  all_goals
    have HB10 := (show ∀ W, Kb 0 w W → _ from HTB) w10 ((show _ ∧ _ ∧ _ from H9).1.trans k910)
    have H10 : Hid (Kb 0 w7 w10) := (show _ ∧ _ ∧ _ from H9).2.2.trans k910
    clear r77 k77 k910 k710 H9 HALL HT9 a0 a1 a2 a3
    go_wp2_with fail
    refine HB10.mono ?_
    rintro e w101 ⟨pj, cj, rfl, ⟨gj, -, -, oj⟩, k101⟩
    have hrz : RowV w101 (.slice pz nk cz) nk (fun i => .int .u8 (A i)) := rowv_kq (show _ ∧ _ ∧ _ ∧ _ from H66).2.2.2.row (((show _ ∧ _ ∧ _ ∧ _ ∧ _ from H7).2.2.2.1.trans (show Kb 0 w7 w10 from H10)).trans k101)
    have HE10 := (show ∀ (W : World) v v', _ from HEK) w101 _ _ hrz oj.row
    have H101 : Hid (Kb 0 w7 w101) := (show Kb 0 w7 w10 from H10).trans k101
    clear HB10 oj k101 H10 hrz
    go_wp2_with fail
    refine HE10.mono ?_
    rintro e w102 ⟨rfl, k102⟩
    have H102 : Hid (Kb 0 w7 w102) := (show Kb 0 w7 w101 from H101).trans k102
    clear HE10 k102 H101
    obtain ⟨k36, b6, z6, zl, o6, r6⟩ := (show _ ∧ _ ∧ _ ∧ _ ∧ _ ∧ _ from H6)
    obtain ⟨kw7, k37, k67, k667, og7⟩ := (show _ ∧ _ ∧ _ ∧ _ ∧ _ from H7)
    have k610 := k67.trans (show Kb 0 w7 w102 from H102)
    have z610 := k610.size
    have b610 := (k610.block P6 (Nat.zero_le _) (by omega)).trans b6
    have HM := mark_disk w102 1 (o6.block (fun q _ h2 => k610.block q (Nat.zero_le _) (by omega))) (by omega) HBD (by omega) (by omega)
    obtain ⟨KA, hKA⟩ : ∃ KA : Int, KA = 1 + (dmk D : Int) := ⟨_, rfl⟩
    rw [← hKA] at HM
    have hKA0 : ¬ KA < 0 := by omega
    have HKA2 : Hid (KA ≤ 100000000) := (by have := (show BdD D from HBD).hs; omega : KA ≤ 100000000)
    have x0 : w102.cell? ⟨P6, 0, none⟩ = some (.slice q1 D.n d1) := cell_of b610 rfl
    have x1 : w102.cell? ⟨P6, 1, none⟩ = some (.slice q2 D.m d2) := cell_of b610 rfl
    clear k36 b6 z6 zl o6 r6 kw7 k37 k67 k667 og7 k610 z610 b610 hKA
    go_wp2_with fail
    refine HM.mono ?_
    rintro e w11 ⟨rfl, kq11, -⟩
    clear HM x0 x1
    have HZ11 := (show ∀ (W : World) v g (k : Int), _ from HMK) w11 (.slice pz nk cz) gz KA (by
      obtain ⟨k36, b6, z6, zl, o6, r6⟩ := (show _ ∧ _ ∧ _ ∧ _ ∧ _ ∧ _ from H6)
      obtain ⟨k66, hgz1, hgz2, oz⟩ := (show _ ∧ _ ∧ _ ∧ _ from H66)
      obtain ⟨kw7, k37, k67, k667, og7⟩ := (show _ ∧ _ ∧ _ ∧ _ ∧ _ from H7)
      have z2 := k667.size
      have z1 := (show Kb 0 w7 w102 from H102).size
      exact own_blk9 oz (((kq11.block gz (by omega) (fun h => by omega)).trans ((show Kb 0 w7 w102 from H102).block gz (Nat.zero_le _) (by omega))).trans (k667.block gz (Nat.zero_le _) hgz2))) (by omega) HKA2
    obtain ⟨KB, hKB⟩ : ∃ KB : Int, KB = KA + (nk : Int) := ⟨_, rfl⟩
    rw [← hKB] at HZ11
    have hKB0 : ¬ KB < 0 := by omega
    have HKQ : Hid (Kq (fun q => w3.heap.size ≤ q ∧ q < P6) w102 w11) := kq11
    clear kq11 hKB
    go_wp2_with fail
    refine HZ11.mono ?_
    rintro e w111 ⟨rfl, kqz⟩
    have kq11 := (show Kq (fun q => w3.heap.size ≤ q ∧ q < P6) w102 w11 from HKQ)
    clear HZ11 hKA0 HKQ
    obtain ⟨kw3, b03, z03, r3⟩ := (show _ ∧ _ ∧ _ ∧ _ from H3)
    obtain ⟨k36, b6, z6, zl, o6, r6⟩ := (show _ ∧ _ ∧ _ ∧ _ ∧ _ ∧ _ from H6)
    obtain ⟨k66, hgz1, hgz2, oz⟩ := (show _ ∧ _ ∧ _ ∧ _ from H66)
    obtain ⟨kw7, k37, k67, k667, og7⟩ := (show _ ∧ _ ∧ _ ∧ _ ∧ _ from H7)
    have k710 := (show Kb 0 w7 w102 from H102)
    have z366 := k36.size
    have z666 := k66.size
    have k311 : Kb 0 w3 w111 := ((k37.trans k710).mkB kq11 (fun q hq => .inr hq.1)).mkB kqz (fun q hq => .inr (by omega))
    have k711 : Kb w66.heap.size w7 w111 := ((k710.low (Nat.zero_le _)).mkB kq11 (fun q hq => .inl (by omega))).mkB kqz (fun q hq => .inl (by omega))
    have z711 := k711.size
    have og11 : OwE 3 w66.heap.size w7.heap.size w111 (.slice g1 N gx1) N F gg VV GG := og7.block (fun q h1 h2 => k711.block q h1 h2)
    have HE11 := (show ∀ (W : World) x y, _ from HEB) w111 _ _ ((og11.wide (Nat.zero_le _) (Nat.le_refl _)).rowE (.inr (.inr rfl))) (r3.keep (.inr (.inr rfl)) k311)
    have H11 : Hid (Kb 0 w3 w111 ∧ w7.heap.size ≤ w111.heap.size ∧ w3.heap.size ≤ w66.heap.size ∧ OwE 3 w66.heap.size w7.heap.size w111 (.slice g1 N gx1) N F gg VV GG) := (⟨k311, z711, by omega, og11⟩ : _ ∧ _)
    clear kw3 b03 z03 r3 k36 b6 z6 zl o6 r6 kw7 k37 k67 k667 og7 k710 k311 k711 z711 og11 kq11 kqz k66 hgz1 hgz2 oz z366 z666 H66 H7 H102 H6
    go_wp2_with fail
    refine HE11.mono ?_
    rintro e w12 ⟨rfl, k12⟩
    clear HE11
    obtain ⟨k311, z711, z36, og11⟩ := (show _ ∧ _ ∧ _ ∧ _ from H11)
    obtain ⟨hN, hFc, hsm⟩ := (show _ ∧ _ ∧ _ from HNF)
    have og12 : OwE 3 w66.heap.size w7.heap.size w12 (.slice g1 N gx1) N F gg VV GG := og11.block (fun q h1 h2 => k12.block q (Nat.zero_le _) (by omega))
    have HM := mark_row3 w12 1 og12 (by omega) hFc (by omega) hsm
    obtain ⟨KG, hKG⟩ : ∃ KG : Int, KG = 1 + (sm (mks 3 F) N : Int) := ⟨_, rfl⟩
    rw [← hKG] at HM
    have hKG0 : ¬ KG < 0 := by omega
    have hKG1 : (KG != KG) = false := by simp
    have HKG : Hid (KG = 1 + (sm (mks 3 F) N : Int)) := hKG
    have H12 : Hid (Kb 0 w3 w12 ∧ w7.heap.size ≤ w12.heap.size ∧ w3.heap.size ≤ w66.heap.size) := (⟨k311.trans k12, by have := k12.size; omega, z36⟩ : _ ∧ _)
    clear k311 z711 z36 og11 og12 k12 hKG H11 hN hFc hsm
    go_wp2_with fail
    refine HM.mono ?_
    rintro e w13 ⟨rfl, kq13, md13⟩
    clear HM
    obtain ⟨k312, z712, z36⟩ := (show _ ∧ _ ∧ _ from H12)
    have k313 : Kb 0 w3 w13 := k312.mkB kq13 (fun q hq => .inr (by omega))
    have z13 := kq13.size
    have HHD : Hid (∀ W : World, Kb 0 w13 W → Calls Try.prog 36 #[.slice g1 N gx1, .int .i64 1] W fun e w' => e = .returned (.int .i64 KG) ∧ Kb 0 W w') := (fun W k => by
      obtain ⟨hN, hFc, hsm⟩ := (show _ ∧ _ ∧ _ from HNF)
      rw [show KG = _ from HKG]
      exact held_row3 W 1 (md13.block (fun q _ h2 => k.block q (Nat.zero_le _) (by omega))) (by omega) hFc (by omega) hsm : ∀ W : World, _)
    have HH13 := (show ∀ W : World, Kb 0 w13 W → _ from HHD) w13 (Kb.refl _ _)
    have H13 : Hid (Kb 0 w3 w13) := k313
    clear k312 z712 z36 k313 z13 kq13 md13 H12
    go_wp2_with fail
    refine HH13.mono ?_
    rintro e w14 ⟨rfl, k14⟩
    clear HH13
    obtain ⟨kw3, b03, z03, r3⟩ := (show _ ∧ _ ∧ _ ∧ _ from H3)
    have k314 := (show Kb 0 w3 w13 from H13).trans k14
    have b014 := (k314.block _ (Nat.zero_le _) z03).trans b03
    have HT14 := (show ∀ W, Kb 0 w W → _ from HTO) w14 (kw3.trans k314)
    have u0 : w14.cell? ⟨w.heap.size, 0, none⟩ = some (.slice p1 D.n c1) := cell_of b014 rfl
    have u1 : w14.cell? ⟨w.heap.size, 1, none⟩ = some (.slice p2 D.m c2) := cell_of b014 rfl
    have H14 : Hid (Kb 0 w13 w14) := k14
    clear kw3 b03 z03 r3 k314 b014 k14
    go_wp2_with fail
    refine HT14.mono ?_
    rintro e w15 ⟨x1, x2, rfl, o15, k15⟩
    obtain ⟨r1, f1, r2, f2, rfl, rfl⟩ := o15.shape
    have H15a : Hid (Kb 0 w13 w15 ∧ RowD 0 w15 (.slice r1 D.n f1) (.slice r2 D.m f2) D) := (⟨(show Kb 0 w13 w14 from H14).trans k15, o15.rowD.mono (Nat.zero_le _)⟩ : _ ∧ _)
    have HB15 := (show ∀ W, Kb 0 w W → _ from HTB) w15 (((show _ ∧ _ from H3).1.trans (show Kb 0 w3 w13 from H13)).trans (show _ ∧ _ from H15a).1)
    clear HT14 o15 k15 u0 u1 H14
    go_wp2_with fail
    refine HB15.mono ?_
    rintro e w151 ⟨py, cy, rfl, ⟨gy, -, -, oy⟩, k151⟩
    have HI15 := (show ∀ v1 v2 pa ca w, _ from HIM) _ _ _ _ w151 ((show _ ∧ _ from H15a).2.keep k151) oy.row
    have H15 : Hid (Kb 0 w13 w151) := (show _ ∧ _ from H15a).1.trans k151
    clear HB15 H15a oy k151
    go_wp2_with fail
    refine HI15.mono ?_
    rintro e w16 ⟨vh, gh, VH, GH, rfl, oh16, k16⟩
    have rh := oh16.rowE (.inr (.inr rfl))
    obtain ⟨h1, hx1, rfl, -⟩ := id rh
    clear HI15
    obtain ⟨kw3, b03, z03, r3⟩ := (show _ ∧ _ ∧ _ ∧ _ from H3)
    have k1316 := (show Kb 0 w13 w151 from H15).trans k16
    have k316 := (show Kb 0 w3 w13 from H13).trans k1316
    have HE16 := (show ∀ (W : World) x y, _ from HEB) w16 _ _ ((oh16.wide (Nat.zero_le _) (Nat.le_refl _)).rowE (.inr (.inr rfl))) (r3.keep (.inr (.inr rfl)) k316)
    have H16 : Hid (Kb 0 w w16 ∧ Kb 0 w13 w16) := (⟨kw3.trans k316, k1316⟩ : _ ∧ _)
    clear kw3 b03 z03 r3 k1316 k316 oh16 k16 H15 H13 rh
    go_wp2_with fail
    refine HE16.mono ?_
    rintro e w18 ⟨rfl, k18⟩
    clear HE16
    obtain ⟨kw16, k1316⟩ := (show _ ∧ _ from H16)
    have HH18 := (show ∀ W : World, Kb 0 w13 W → _ from HHD) w18 (k1316.trans k18)
    have H18 : Hid (Kb 0 w w18) := kw16.trans k18
    clear kw16 k1316 k18 H16 HHD HTO HEQ HEB HSP HIM H3 HTB HEK HMK
    go_wp2_with fail
    refine HH18.mono ?_
    rintro e w19 ⟨rfl, k19⟩
    have HF : Hid (Kb 0 w w19) := (show Kb 0 w w18 from H18).trans k19
    clear HH18 H18 k19
    go_wp2_with fail
    go_ret
    exact ⟨rfl, HF⟩
end Go.Proofs.Ytaggciimacanbaa.Fo
