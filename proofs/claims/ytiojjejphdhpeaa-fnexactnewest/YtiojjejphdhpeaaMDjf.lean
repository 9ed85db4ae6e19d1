import Derived.Deep.RegionHeld3
import Derived.Test.YtiojjejphdhpeaaMDje
import Derived.Test.YtiojjejphdhpeaaMDag
import Derived.Test.YtiojjejphdhpeaaMDch
namespace Go.Proofs.Ytiojjejphdhpeaa.Fo
open Go.ChangeShapes Go.WideShapes Go.ChangeAt Go.RowKit
set_option linter.unusedVariables false
set_option maxRecDepth 100000
theorem rowv_kp {W W' : World} {v : Value} {n : Nat} {A : Nat → Value} (h : RowV W v n A) (k : Kb 0 W W') : RowV W' v n A := by
  obtain ⟨pa, cap, e, h2⟩ := h
  refine ⟨pa, cap, e, fun hn => ?_⟩
  obtain ⟨a, h3, h4, h5⟩ := h2 hn
  exact ⟨a, h3, h4, fun i hi => k.cell (h5 i hi)⟩
theorem Kq.behind {S : Nat → Prop} {w c : World} {ob : Obj} (h : Kq S (w.alloc ob) c) : Kq S w c :=
  ⟨h.os, h.tape, h.output, Nat.le_trans (kb_alloc 0 w ob).size h.size, fun q hq hn => (h.block q (Nat.lt_of_lt_of_le hq (kb_alloc 0 w ob).size) hn).trans ((kb_alloc 0 w ob).block q (Nat.zero_le _) hq)⟩
set_option maxHeartbeats 8000000 in
theorem eq_kept {xo : Bool} {xg xs : Int} {va vb : Value} {n : Nat} {A : Nat → Int} (w : World) (ha : RowV w va n (ub A)) (hb : RowV w vb n (ub A)) (hn : n ≤ 1048576) :
    Calls Try.prog 29 #[.agg #[.bool xo, .int .i64 xg, .int .i64 xs, va], .agg #[.bool xo, .int .i64 xg, .int .i64 xs, vb]] w fun e w' => e = .returned (.bool true) ∧ Kb 0 w w' := by
  have HE : Hid (∀ W, Kb 0 w W → Calls Try.prog 15 #[va, vb] W fun e w' => e = .returned (.bool true) ∧ ∃ d, w' = W.drewN d) := (fun W k => eq_byts W (rowv_kp ha k) (rowv_kp hb k) hn : ∀ W, _)
  obtain ⟨pa, ca, rfl, -⟩ := ha
  obtain ⟨pb, cb, rfl, -⟩ := hb
  go_enter Try.func29, Try.ntmps29
  go_wp2_with fail
  refine ((show ∀ W, Kb 0 w W → _ from HE) _ ((kb_alloc 0 _ _).trans (kb_alloc 0 _ _))).mono ?_
  rintro e w1 ⟨rfl, hd⟩
  have HF : Hid (Kb 0 w w1) := ((kb_alloc 0 _ _).trans (kb_alloc 0 _ _)).trans (kb_drewN hd)
  clear HE hd
  go_wp2_with fail
  go_ret
  exact ⟨rfl, HF⟩
set_option maxHeartbeats 8000000 in
theorem mark_kept {xo : Bool} {xg xs : Int} {v : Value} {g n : Nat} {A : Nat → Int} (w : World) (k : Int) (ha : OwnR w v g n (ub A)) (hn : n ≤ 1048576) (hk0 : 0 ≤ k) (hk : k ≤ 100000000) :
    Calls Try.prog 30 #[.agg #[.bool xo, .int .i64 xg, .int .i64 xs, v], .int .i64 k] w fun e w' => e = .returned (.int .i64 (k + (n : Int))) ∧ Kq (fun j => 0 < n ∧ j = g) w w' ∧ OwnR w' v g n (fun i => .int .u8 ((k + (i : Int)) % 256)) := by
  by_cases h0 : n = 0
  · obtain ⟨pa, ca, rfl, -⟩ := ha.sl
    subst h0
    have HE := mark_byts (w.alloc (.cells #[.bool xo, .int .i64 xg, .int .i64 xs, .slice pa 0 ca] 51)) k (⟨⟨pa, ca, rfl, fun h => absurd h (Nat.lt_irrefl 0)⟩, fun i hi => absurd hi (Nat.not_lt_zero _), fun h => absurd h (Nat.lt_irrefl 0)⟩ : OwnR _ (.slice pa 0 ca) g 0 (fun i => .int .u8 (A i))) hn hk0 hk
    clear ha
    go_enter Try.func30, Try.ntmps30
    go_wp2_with fail
    refine HE.mono ?_
    rintro e w1 ⟨rfl, kq, om⟩
    have HF : Hid (Kq (fun j => 0 < 0 ∧ j = g) w w1 ∧ OwnR w1 (.slice pa 0 ca) g 0 (fun i => .int .u8 ((k + (i : Int)) % 256))) := (⟨kq.behind, om⟩ : _ ∧ _)
    clear HE kq om
    go_wp2_with fail
    go_ret
    exact ⟨by simp, HF⟩
  · have hgl : g < w.heap.size := lt_of_cell' (ha.cell 0 (by omega))
    have HE := mark_byts (w.alloc (.cells #[.bool xo, .int .i64 xg, .int .i64 xs, v] 51)) k (ha.block (fun _ => (kb_alloc 0 w _).block g (Nat.zero_le _) hgl)) hn hk0 hk
    obtain ⟨pa, ca, rfl, -⟩ := ha.sl
    clear ha hgl h0
    go_enter Try.func30, Try.ntmps30
    go_wp2_with fail
    refine HE.mono ?_
    rintro e w1 ⟨rfl, kq, om⟩
    have HF : Hid (Kq (fun j => 0 < n ∧ j = g) w w1 ∧ OwnR w1 (.slice pa n ca) g n (fun i => .int .u8 ((k + (i : Int)) % 256))) := (⟨kq.behind, om⟩ : _ ∧ _)
    clear HE kq om
    go_wp2_with fail
    go_ret
    exact ⟨rfl, HF⟩
set_option maxHeartbeats 8000000 in
theorem held_kept {xo : Bool} {xg xs : Int} {v : Value} {n : Nat} (w : World) (k : Int) (ha : RowV w v n (fun i => .int .u8 ((k + (i : Int)) % 256))) (hn : n ≤ 1048576) (hk0 : 0 ≤ k) (hk : k ≤ 100000000) :
    Calls Try.prog 31 #[.agg #[.bool xo, .int .i64 xg, .int .i64 xs, v], .int .i64 k] w fun e w' => e = .returned (.int .i64 (k + (n : Int))) ∧ Kb 0 w w' := by
  have HE := held_byts (w.alloc (.cells #[.bool xo, .int .i64 xg, .int .i64 xs, v] 51)) k (rowv_kp ha (kb_alloc 0 _ _)) hn hk0 hk
  obtain ⟨pa, ca, rfl, -⟩ := ha
  obtain ⟨KK, hKK⟩ : ∃ KK : Int, KK = k + (n : Int) := ⟨_, rfl⟩
  rw [← hKK] at HE ⊢
  have hKK0 : ¬ KK < 0 := by omega
  clear hKK
  go_enter Try.func31, Try.ntmps31
  go_wp2_with fail
  refine HE.mono ?_
  rintro e w1 ⟨rfl, hd⟩
  have HF : Hid (Kb 0 w w1) := (kb_alloc 0 _ _).trans (kb_drewN hd)
  clear HE hd
  go_wp2_with fail
  go_ret
  exact ⟨rfl, HF⟩
set_option maxHeartbeats 32000000 in
theorem law_newest {v1 v2 : Value} {D : Dd} (w : World) (ha : RowD 0 w v1 v2 D) (hn : (D.n : Int) < 140737488355328) (hB : ∀ i, i < D.n → ((D.B i).c : Int) < 140737488355328) (hm : (D.m : Int) < 140737488355328) (hQ : ∀ i, i < D.m → ((D.Q i).c : Int) < 140737488355328) (hg : RgD D) :
    Calls Try.prog 6 #[.agg #[v1, v2]] w fun e w' => e = .returned (.bool true) ∧ Kb 0 w w' := by
  obtain ⟨⟨p1, c1, rfl, -⟩, ⟨p2, c2, rfl, -⟩⟩ := id ha
  obtain ⟨w0, hw0⟩ : ∃ w0, w0 = w.alloc (.cells #[.slice p1 D.n c1, .slice p2 D.m c2] 25) := ⟨_, rfl⟩
  have k0 : Kb 0 w w0 := by rw [hw0]; exact kb_alloc _ _ _
  have b0 : w0.heap[w.heap.size]? = some (.cells #[.slice p1 D.n c1, .slice p2 D.m c2] 25 (0, 0)) := by rw [hw0]; exact alloc_new _ _ _
  have HS := sz_disk w0 1048576 (ha.keep k0) hn hB hm hQ (by omega) (by omega)
  have u0 : w0.cell? ⟨w.heap.size, 0, none⟩ = some (.slice p1 D.n c1) := cell_of b0 rfl
  have u1 : w0.cell? ⟨w.heap.size, 1, none⟩ = some (.slice p2 D.m c2) := cell_of b0 rfl
  have HB : Hid (Kb 0 w w0 ∧ w0.heap[w.heap.size]? = some (.cells #[.slice p1 D.n c1, .slice p2 D.m c2] 25 (0, 0)) ∧ w.heap.size < w0.heap.size ∧ RowD 0 w (.slice p1 D.n c1) (.slice p2 D.m c2) D) := (⟨k0, b0, by rw [hw0]; simp, ha⟩ : _ ∧ _)
  have HW0 : Hid (w0 = _) := hw0
  have HGD : Hid (RgD D) := hg
  clear hw0 k0 b0 hn hB hm hQ ha hg
  go_enter Try.func6, Try.ntmps6
  go_upto_region 2 with fail
  rw [← (show w0 = _ from HW0)]
  clear HW0
  go_wp2_with fail
  refine HS.mono ?_
  rintro e w1 ⟨r, rfl, hr1, hr2, hr3, k1⟩
  clear HS
  obtain ⟨k0, b0, z0, ha⟩ := (show _ ∧ _ ∧ _ ∧ _ from HB)
  rcases Int.lt_or_le r 0 with h | h
  · have HF : Hid (Kb 0 w w1) := k0.trans k1
    clear HB k0 b0 z0 ha k1 hr1 u0 u1
    go_wp2_with fail
    go_ret
    exact ⟨rfl, HF⟩
  have h' : ¬ r < 0 := by omega
  have hbd : BdD D := bd_of (by have := hr1 h; omega)
  have b1 := (k1.block _ (Nat.zero_le _) z0).trans b0
  have kw1 := k0.trans k1
  have HTO : Hid (∀ W, Kb 0 w W → Calls Try.prog 11 #[.agg #[.slice p1 D.n c1, .slice p2 D.m c2]] W fun e w' => ∃ x1 x2, e = .returned (.agg #[x1, x2]) ∧ OwD W.heap.size w'.heap.size w' x1 x2 D ∧ Kb 0 W w') := (fun W k => to_disk W (ha.keep k) hbd : ∀ W, _)
  have HEQ : Hid (∀ (W : World) x1 x2 y1 y2, RowD 0 W x1 x2 D → RowD 0 W y1 y2 D → Calls Try.prog 14 #[.agg #[x1, x2], .agg #[y1, y2]] W fun e w' => e = .returned (.bool true) ∧ Kb 0 W w') := (fun W x1 x2 y1 y2 h1 h2 => eq_disk W h1 h2 hbd : ∀ (W : World) x1 x2 y1 y2, _)
  have HBD : Hid (BdD D) := hbd
  have H1 : Hid (Kb 0 w w1 ∧ w1.heap[w.heap.size]? = some (.cells #[.slice p1 D.n c1, .slice p2 D.m c2] 25 (0, 0)) ∧ w.heap.size < w1.heap.size) := (⟨kw1, b1, by have := k1.size; omega⟩ : _ ∧ _)
  obtain ⟨⟨xo, xg, xs, xn, xA⟩, hXN, hSP, hIM⟩ := newest_any (show BdD D from HBD) (show RgD D from HGD)
  have hXN2 : xn ≤ 8192 := hXN
  have hXI : (xn : Int) ≤ 8192 := by omega
  have HSP : Hid (∀ v1 v2 w, RowD 0 w v1 v2 D → Calls Try.prog 27 #[.agg #[v1, v2]] w (KiP xo xg xs xn xA w)) := hSP
  have HIM : Hid (∀ v1 v2 w, RowD 0 w v1 v2 D → Calls Try.prog 28 #[.agg #[v1, v2]] w (KiP xo xg xs xn xA w)) := hIM
  have HEB : Hid (∀ (W : World) x y, RowV W x xn (ub xA) → RowV W y xn (ub xA) → Calls Try.prog 29 #[.agg #[.bool xo, .int .i64 xg, .int .i64 xs, x], .agg #[.bool xo, .int .i64 xg, .int .i64 xs, y]] W fun e w' => e = .returned (.bool true) ∧ Kb 0 W w') := (fun W x y h1 h2 => eq_kept W h1 h2 (by omega) : ∀ (W : World) x y, _)
  have HT1 := (show ∀ W, Kb 0 w W → _ from HTO) w1 kw1
  clear u0 u1 hSP hIM hXN
  have u0 : w1.cell? ⟨w.heap.size, 0, none⟩ = some (.slice p1 D.n c1) := cell_of b1 rfl
  have u1 : w1.cell? ⟨w.heap.size, 1, none⟩ = some (.slice p2 D.m c2) := cell_of b1 rfl
  clear HB k0 b0 z0 ha k1 hr1 hbd b1 kw1
  go_wp2_with fail
  refine HT1.mono ?_
  rintro e w2 ⟨x1, x2, rfl, o2, k2⟩
  obtain ⟨q1, d1, q2, d2, rfl, rfl⟩ := o2.shape
  have HS2 := (show ∀ v1 v2 w, _ from HSP) _ _ w2 (o2.rowD.mono (Nat.zero_le _))
  have H2 : Hid (Kb 0 w1 w2) := k2
  clear HT1 o2 k2 u0 u1
  go_wp2_with fail
  refine HS2.mono ?_
  rintro e w3 ⟨ys, gs, rfl, os3, hgs, k3⟩
  obtain ⟨s1, sx1, rfl, -⟩ := os3.sl
  obtain ⟨kw1, b1, z1⟩ := (show _ ∧ _ ∧ _ from H1)
  have k13 := (show Kb 0 w1 w2 from H2).trans k3
  obtain ⟨P4, hP4⟩ : ∃ P4, P4 = w3.heap.size := ⟨_, rfl⟩
  obtain ⟨w4, hw4⟩ : ∃ w4, w4 = w3.alloc (.cells #[.bool xo, .int .i64 xg, .int .i64 xs, .slice s1 xn sx1] 51) := ⟨_, rfl⟩
  have k34 : Kb 0 w3 w4 := by rw [hw4]; exact kb_alloc _ _ _
  have k14 := k13.trans k34
  have z14 := k14.size
  have b4 : w4.heap[P4]? = some (.cells #[.bool xo, .int .i64 xg, .int .i64 xs, .slice s1 xn sx1] 51 (0, 0)) := by rw [hw4, hP4]; exact alloc_new _ _ _
  have z4 : w4.heap.size = P4 + 1 := by rw [hw4, hP4]; exact World.size_alloc _ _
  have b04 := (k14.block _ (Nat.zero_le _) z1).trans b1
  have HT4 := (show ∀ W, Kb 0 w W → _ from HTO) w4 (kw1.trans k14)
  have u0 : w4.cell? ⟨w.heap.size, 0, none⟩ = some (.slice p1 D.n c1) := cell_of b04 rfl
  have u1 : w4.cell? ⟨w.heap.size, 1, none⟩ = some (.slice p2 D.m c2) := cell_of b04 rfl
  have H4 : Hid (Kb 0 w w4 ∧ w4.heap[w.heap.size]? = some (.cells #[.slice p1 D.n c1, .slice p2 D.m c2] 25 (0, 0)) ∧ w.heap.size < w4.heap.size ∧ w4.heap[P4]? = some (.cells #[.bool xo, .int .i64 xg, .int .i64 xs, .slice s1 xn sx1] 51 (0, 0)) ∧ w4.heap.size = P4 + 1 ∧ RowV w4 (.slice s1 xn sx1) xn (ub xA)) := (⟨kw1.trans k14, b04, by omega, b4, z4, rowv_kp os3.row k34⟩ : _ ∧ _)
  have HW4 : Hid (w4 = w3.alloc (.cells #[.bool xo, .int .i64 xg, .int .i64 xs, .slice s1 xn sx1] 51) ∧ P4 = w3.heap.size) := (⟨hw4, hP4⟩ : _ ∧ _)
  clear HS2 H1 H2 kw1 b1 z1 k13 k3 os3 hgs hP4 hw4 k34 k14 z14 b4 z4 b04
  go_upto_region 6 with fail
  rw [← (show _ ∧ _ from HW4).1, ← (show _ ∧ _ from HW4).2]
  clear HW4
  go_wp2_with fail
  refine HT4.mono ?_
  rintro e w5 ⟨x1, x2, rfl, o5, k5⟩
  obtain ⟨q1, d1, q2, d2, rfl, rfl⟩ := o5.shape
  clear u0 u1 HT4
  obtain ⟨P6, hP6⟩ : ∃ P6, P6 = w5.heap.size := ⟨_, rfl⟩
  obtain ⟨w6, hw6⟩ : ∃ w6, w6 = w5.alloc (.cells #[.slice q1 D.n d1, .slice q2 D.m d2] 30) := ⟨_, rfl⟩
  have k56 : Kb 0 w5 w6 := by rw [hw6]; exact kb_alloc _ _ _
  have b6 : w6.heap[P6]? = some (.cells #[.slice q1 D.n d1, .slice q2 D.m d2] 30 (0, 0)) := by rw [hw6, hP6]; exact alloc_new _ _ _
  have z6 : w6.heap.size = P6 + 1 := by rw [hw6, hP6]; exact World.size_alloc _ _
  have z45 := k5.size
  have o6 : OwD w4.heap.size P6 w6 (.slice q1 D.n d1) (.slice q2 D.m d2) D := by rw [hP6]; exact o5.block (fun q _ h2 => k56.block q (Nat.zero_le _) h2)
  have r6 := (o5.rowD.mono (Nat.zero_le _)).keep k56
  have HI6 := (show ∀ v1 v2 w, _ from HIM) _ _ w6 r6
  have H6 : Hid (Kb 0 w4 w6 ∧ w6.heap[P6]? = some (.cells #[.slice q1 D.n d1, .slice q2 D.m d2] 30 (0, 0)) ∧ w6.heap.size = P6 + 1 ∧ w4.heap.size ≤ P6 ∧ OwD w4.heap.size P6 w6 (.slice q1 D.n d1) (.slice q2 D.m d2) D ∧ RowD 0 w6 (.slice q1 D.n d1) (.slice q2 D.m d2) D) := (⟨k5.trans k56, b6, z6, by omega, o6, r6⟩ : _ ∧ _)
  have x0 : w6.cell? ⟨P6, 0, none⟩ = some (.slice q1 D.n d1) := cell_of b6 rfl
  have x1 : w6.cell? ⟨P6, 1, none⟩ = some (.slice q2 D.m d2) := cell_of b6 rfl
  have HW6 : Hid (w6 = w5.alloc (.cells #[.slice q1 D.n d1, .slice q2 D.m d2] 30) ∧ P6 = w5.heap.size) := (⟨hw6, hP6⟩ : _ ∧ _)
  clear o5 k5 hP6 hw6 k56 b6 z6 z45 o6 r6
  go_upto_region 7 with fail
  rw [← (show _ ∧ _ from HW6).1, ← (show _ ∧ _ from HW6).2]
  clear HW6
  go_wp2_with fail
  refine HI6.mono ?_
  rintro e w7 ⟨yg, gg, rfl, og7, hgg, k7⟩
  obtain ⟨g1, gx1, rfl, -⟩ := og7.sl
  clear HI6 x0 x1
  obtain ⟨kw4, b04, z04, b4, z4, r4⟩ := (show _ ∧ _ ∧ _ ∧ _ ∧ _ ∧ _ from H4)
  obtain ⟨k46, b6, z6, zl, o6, r6⟩ := (show _ ∧ _ ∧ _ ∧ _ ∧ _ ∧ _ from H6)
  obtain ⟨P8, hP8⟩ : ∃ P8, P8 = w7.heap.size := ⟨_, rfl⟩
  obtain ⟨w8, hw8⟩ : ∃ w8, w8 = w7.alloc (.cells #[.bool xo, .int .i64 xg, .int .i64 xs, .slice g1 xn gx1] 51) := ⟨_, rfl⟩
  have k78 : Kb 0 w7 w8 := by rw [hw8]; exact kb_alloc _ _ _
  have b8 : w8.heap[P8]? = some (.cells #[.bool xo, .int .i64 xg, .int .i64 xs, .slice g1 xn gx1] 51 (0, 0)) := by rw [hw8, hP8]; exact alloc_new _ _ _
  have z8 : w8.heap.size = P8 + 1 := by rw [hw8, hP8]; exact World.size_alloc _ _
  have z67 := k7.size
  have og8 : OwnR w8 (.slice g1 xn gx1) gg xn (ub xA) ∧ (0 < xn → w6.heap.size ≤ gg ∧ gg < P8) := ⟨og7.block (fun hn => k78.block gg (Nat.zero_le _) (hgg hn).2), fun hn => ⟨(hgg hn).1, by rw [hP8]; exact (hgg hn).2⟩⟩
  have k68 := k7.trans k78
  have k48 := k46.trans k68
  have b48 := (k48.block P4 (Nat.zero_le _) (by omega)).trans b4
  have HE8 := (show ∀ (W : World) x y, _ from HEB) w8 _ _ og8.1.row (rowv_kp r4 k48)
  have u0 : w8.cell? ⟨P4, 0, none⟩ = some (.bool xo) := cell_of b48 rfl
  have u1 : w8.cell? ⟨P4, 1, none⟩ = some (.int .i64 xg) := cell_of b48 rfl
  have u2 : w8.cell? ⟨P4, 2, none⟩ = some (.int .i64 xs) := cell_of b48 rfl
  have u3 : w8.cell? ⟨P4, 3, none⟩ = some (.slice s1 xn sx1) := cell_of b48 rfl
  have x0 : w8.cell? ⟨P8, 0, none⟩ = some (.bool xo) := cell_of b8 rfl
  have x1 : w8.cell? ⟨P8, 1, none⟩ = some (.int .i64 xg) := cell_of b8 rfl
  have x2 : w8.cell? ⟨P8, 2, none⟩ = some (.int .i64 xs) := cell_of b8 rfl
  have x3 : w8.cell? ⟨P8, 3, none⟩ = some (.slice g1 xn gx1) := cell_of b8 rfl
  have H8 : Hid (Kb 0 w w8 ∧ Kb 0 w4 w8 ∧ Kb 0 w6 w8 ∧ w8.heap[P8]? = some (.cells #[.bool xo, .int .i64 xg, .int .i64 xs, .slice g1 xn gx1] 51 (0, 0)) ∧ w8.heap.size = P8 + 1 ∧ w6.heap.size ≤ P8 ∧ (OwnR w8 (.slice g1 xn gx1) gg xn (ub xA) ∧ (0 < xn → w6.heap.size ≤ gg ∧ gg < P8))) := (⟨kw4.trans k48, k48, k68, b8, z8, by omega, og8⟩ : _ ∧ _)
  have HW8 : Hid (w8 = w7.alloc (.cells #[.bool xo, .int .i64 xg, .int .i64 xs, .slice g1 xn gx1] 51) ∧ P8 = w7.heap.size) := (⟨hw8, hP8⟩ : _ ∧ _)
  clear kw4 b04 z04 b4 z4 r4 k46 b6 z6 zl o6 r6 hP8 hw8 k78 b8 z8 z67 og8 k68 k48 b48 og7 hgg k7
  go_upto_region 8 with fail
  rw [← (show _ ∧ _ from HW8).1, ← (show _ ∧ _ from HW8).2]
  clear HW8
  go_wp2_with fail
  refine HE8.mono ?_
  rintro e w9 ⟨rfl, k9⟩
  clear HE8 u0 u1 u2 u3 x0 x1 x2 x3
  obtain ⟨kw4, b04, z04, b4, z4, r4⟩ := (show _ ∧ _ ∧ _ ∧ _ ∧ _ ∧ _ from H4)
  obtain ⟨k46, b6, z6, zl, o6, r6⟩ := (show _ ∧ _ ∧ _ ∧ _ ∧ _ ∧ _ from H6)
  obtain ⟨kw8, k48, k68, b8, z8, zl8, og8⟩ := (show _ ∧ _ ∧ _ ∧ _ ∧ _ ∧ _ ∧ _ from H8)
  have kw9 := kw8.trans k9
  have b09 := ((k48.trans k9).block _ (Nat.zero_le _) z04).trans b04
  have b69 := ((k68.trans k9).block P6 (Nat.zero_le _) (by omega)).trans b6
  have HALL : Hid (∀ W, Kb 0 w9 W → W.cell? ⟨w.heap.size, 0, none⟩ = some (.slice p1 D.n c1) ∧ W.cell? ⟨w.heap.size, 1, none⟩ = some (.slice p2 D.m c2) ∧ W.cell? ⟨P6, 0, none⟩ = some (.slice q1 D.n d1) ∧ W.cell? ⟨P6, 1, none⟩ = some (.slice q2 D.m d2)) := (fun W k => ⟨k.cell (cell_of b09 rfl), k.cell (cell_of b09 rfl), k.cell (cell_of b69 rfl), k.cell (cell_of b69 rfl)⟩ : ∀ W, _)
  obtain ⟨a0, a1, a2, a3⟩ := (show ∀ W, Kb 0 w9 W → _ from HALL) w9 (Kb.refl _ _)
  have H9 : Hid (Kb 0 w w9 ∧ RowD 0 w9 (.slice q1 D.n d1) (.slice q2 D.m d2) D ∧ Kb 0 w8 w9) := (⟨kw9, r6.keep (k68.trans k9), k9⟩ : _ ∧ _)
  have HT9 : Hid (∀ W', W'.heap = w9.heap → W'.os = w9.os → W'.output = w9.output → Calls Try.prog 11 #[.agg #[.slice p1 D.n c1, .slice p2 D.m c2]] W' fun e w' => ∃ y1 y2, e = .returned (.agg #[y1, y2]) ∧ RowD 0 w' y1 y2 D ∧ Kb 0 w9 w') := (fun W' h0 h1 h2 => by
    have kk : Kb 0 w9 W' := ⟨h1, h2, by rw [h0]; exact Nat.le_refl _, fun k _ _ => by rw [h0]⟩
    refine ((show ∀ W, Kb 0 w W → _ from HTO) W' (kw9.trans kk)).mono ?_
    rintro e w' ⟨y1, y2, rfl, o, k⟩
    exact ⟨y1, y2, rfl, o.rowD.mono (Nat.zero_le _), kk.trans k⟩ : ∀ W', _)
  clear kw4 b04 z04 b4 z4 r4 k46 b6 z6 zl o6 r6 kw8 k48 k68 b8 z8 zl8 og8 kw9 b09 b69 k9
  go_upto_region 10 with fail
  go_region_held3 (fun W' => W'.cell? ⟨w.heap.size, 0, none⟩ = some (.slice p1 D.n c1) ∧ W'.cell? ⟨w.heap.size, 1, none⟩ = some (.slice p2 D.m c2) ∧ W'.cell? ⟨P6, 0, none⟩ = some (.slice q1 D.n d1) ∧ W'.cell? ⟨P6, 1, none⟩ = some (.slice q2 D.m d2)) (first | exact ⟨a0, a1, a2, a3⟩ | exact (show ∀ W, Kb 0 w9 W → _ from HALL) _ k77 | exact (show ∀ W, Kb 0 w9 W → _ from HALL) _ k910) ((first | (go_at_call 11; refine ((show ∀ W', _ from HT9) _ (by exact rfl) (by exact rfl) (by exact rfl)).mono ?_; rintro e w77 ⟨y1, y2, rfl, r77, k77⟩) | (go_at_call 14; refine ((show ∀ (W : World) x1 x2 y1 y2, _ from HEQ) _ _ _ _ _ ((show _ ∧ _ ∧ _ from H9).2.1.keep k77) r77).mono ?_; rintro e w10 ⟨rfl, k710⟩; have k910 := k77.trans k710)))
  all_goals
    have H10 : Hid (Kb 0 w8 w10) := (show _ ∧ _ ∧ _ from H9).2.2.trans k910
    clear r77 k77 k910 k710 H9 HALL HT9 a0 a1 a2 a3
    obtain ⟨k46, b6, z6, zl, o6, r6⟩ := (show _ ∧ _ ∧ _ ∧ _ ∧ _ ∧ _ from H6)
    obtain ⟨kw8, k48, k68, b8, z8, zl8, og8⟩ := (show _ ∧ _ ∧ _ ∧ _ ∧ _ ∧ _ ∧ _ from H8)
    have k610 := k68.trans (show Kb 0 w8 w10 from H10)
    have z610 := k610.size
    have b610 := (k610.block P6 (Nat.zero_le _) (by omega)).trans b6
    have HM := mark_disk w10 1 (o6.block (fun q _ h2 => k610.block q (Nat.zero_le _) (by omega))) (by omega) HBD (by omega) (by omega)
    obtain ⟨KA, hKA⟩ : ∃ KA : Int, KA = 1 + (dmk D : Int) := ⟨_, rfl⟩
    rw [← hKA] at HM
    have hKA0 : ¬ KA < 0 := by omega
    have x0 : w10.cell? ⟨P6, 0, none⟩ = some (.slice q1 D.n d1) := cell_of b610 rfl
    have x1 : w10.cell? ⟨P6, 1, none⟩ = some (.slice q2 D.m d2) := cell_of b610 rfl
    clear k46 b6 z6 zl o6 r6 kw8 k48 k68 b8 z8 zl8 og8 k610 z610 b610 hKA
    go_wp2_with fail
    refine HM.mono ?_
    rintro e w11 ⟨rfl, kq11, -⟩
    clear HM x0 x1
    obtain ⟨kw4, b04, z04, b4, z4, r4⟩ := (show _ ∧ _ ∧ _ ∧ _ ∧ _ ∧ _ from H4)
    obtain ⟨k46, b6, z6, zl, o6, r6⟩ := (show _ ∧ _ ∧ _ ∧ _ ∧ _ ∧ _ from H6)
    obtain ⟨kw8, k48, k68, b8, z8, zl8, og8⟩ := (show _ ∧ _ ∧ _ ∧ _ ∧ _ ∧ _ ∧ _ from H8)
    have k810 := (show Kb 0 w8 w10 from H10)
    have k411 : Kb 0 w4 w11 := (k48.trans k810).mkB kq11 (fun q hq => .inr hq.1)
    have k811 : Kb P6 w8 w11 := (k810.low (Nat.zero_le _)).mkB kq11 (fun q hq => .inl hq.2)
    have z811 := k811.size
    have b411 := (k411.block P4 (Nat.zero_le _) (by omega)).trans b4
    have b811 := (k811.block P8 (by omega) (by omega)).trans b8
    have og11 : OwnR w11 (.slice g1 xn gx1) gg xn (ub xA) ∧ (0 < xn → w6.heap.size ≤ gg ∧ gg < P8) := ⟨og8.1.block (fun hn => k811.block gg (by have := (og8.2 hn).1; omega) (by have := (og8.2 hn).2; omega)), og8.2⟩
    have HE11 := (show ∀ (W : World) x y, _ from HEB) w11 _ _ og11.1.row (rowv_kp r4 k411)
    have u0 : w11.cell? ⟨P4, 0, none⟩ = some (.bool xo) := cell_of b411 rfl
    have u1 : w11.cell? ⟨P4, 1, none⟩ = some (.int .i64 xg) := cell_of b411 rfl
    have u2 : w11.cell? ⟨P4, 2, none⟩ = some (.int .i64 xs) := cell_of b411 rfl
    have u3 : w11.cell? ⟨P4, 3, none⟩ = some (.slice s1 xn sx1) := cell_of b411 rfl
    have x0 : w11.cell? ⟨P8, 0, none⟩ = some (.bool xo) := cell_of b811 rfl
    have x1 : w11.cell? ⟨P8, 1, none⟩ = some (.int .i64 xg) := cell_of b811 rfl
    have x2 : w11.cell? ⟨P8, 2, none⟩ = some (.int .i64 xs) := cell_of b811 rfl
    have x3 : w11.cell? ⟨P8, 3, none⟩ = some (.slice g1 xn gx1) := cell_of b811 rfl
    have H11 : Hid (Kb 0 w4 w11 ∧ w11.heap[P8]? = some (.cells #[.bool xo, .int .i64 xg, .int .i64 xs, .slice g1 xn gx1] 51 (0, 0)) ∧ P8 < w11.heap.size ∧ w4.heap.size ≤ w6.heap.size ∧ (OwnR w11 (.slice g1 xn gx1) gg xn (ub xA) ∧ (0 < xn → w6.heap.size ≤ gg ∧ gg < P8))) := (⟨k411, b811, by omega, by omega, og11⟩ : _ ∧ _)
    clear kw4 b04 z04 b4 z4 r4 k46 b6 z6 zl o6 r6 kw8 k48 k68 b8 z8 zl8 og8 k810 k411 k811 z811 b411 b811 og11 kq11 H8 H10 H6
    go_wp2_with fail
    refine HE11.mono ?_
    rintro e w12 ⟨rfl, k12⟩
    clear HE11 u0 u1 u2 u3 x0 x1 x2 x3
    obtain ⟨k411, b811, zP8, z46, og11⟩ := (show _ ∧ _ ∧ _ ∧ _ ∧ _ from H11)
    have z1112 := k12.size
    have b812 := (k12.block P8 (Nat.zero_le _) zP8).trans b811
    have og12 : OwnR w12 (.slice g1 xn gx1) gg xn (ub xA) := og11.1.block (fun hn => k12.block gg (Nat.zero_le _) (by have := (og11.2 hn).2; omega))
    have HG12 : Hid (0 < xn → w6.heap.size ≤ gg ∧ gg < P8) := og11.2
    have HM := mark_kept (xo := xo) (xg := xg) (xs := xs) w12 1 og12 (by omega) (by omega) (by omega)
    obtain ⟨KG, hKG⟩ : ∃ KG : Int, KG = 1 + (xn : Int) := ⟨_, rfl⟩
    rw [← hKG] at HM
    have hKG0 : ¬ KG < 0 := by omega
    have hKG1 : (KG != KG) = false := by simp
    have HKG : Hid (KG = 1 + (xn : Int)) := hKG
    have x0 : w12.cell? ⟨P8, 0, none⟩ = some (.bool xo) := cell_of b812 rfl
    have x1 : w12.cell? ⟨P8, 1, none⟩ = some (.int .i64 xg) := cell_of b812 rfl
    have x2 : w12.cell? ⟨P8, 2, none⟩ = some (.int .i64 xs) := cell_of b812 rfl
    have x3 : w12.cell? ⟨P8, 3, none⟩ = some (.slice g1 xn gx1) := cell_of b812 rfl
    have H12 : Hid (Kb 0 w4 w12 ∧ w12.heap[P8]? = some (.cells #[.bool xo, .int .i64 xg, .int .i64 xs, .slice g1 xn gx1] 51 (0, 0)) ∧ P8 < w12.heap.size ∧ w4.heap.size ≤ w6.heap.size) := (⟨k411.trans k12, b812, by omega, z46⟩ : _ ∧ _)
    clear k411 b811 zP8 z46 og11 z1112 b812 og12 k12 hKG H11
    go_wp2_with fail
    refine HM.mono ?_
    rintro e w13 ⟨rfl, kq13, md13⟩
    clear HM x0 x1 x2 x3
    have hg12 := (show 0 < xn → _ from HG12)
    obtain ⟨k412, b812, zP8, z46⟩ := (show _ ∧ _ ∧ _ ∧ _ from H12)
    have k413 : Kb 0 w4 w13 := k412.mkB kq13 (fun q hq => .inr (by have := (hg12 hq.1).1; omega))
    have k1213 : Kb P8 w12 w13 := (Kb.refl P8 w12).mkB kq13 (fun q hq => .inl (by have := (hg12 hq.1).2; omega))
    have b813 := (k1213.block P8 (Nat.le_refl _) zP8).trans b812
    have z13 : P8 < w13.heap.size := by have := k1213.size; omega
    have HHD : Hid (∀ W : World, Kb 0 w13 W → W.cell? ⟨P8, 0, none⟩ = some (.bool xo) ∧ W.cell? ⟨P8, 1, none⟩ = some (.int .i64 xg) ∧ W.cell? ⟨P8, 2, none⟩ = some (.int .i64 xs) ∧ W.cell? ⟨P8, 3, none⟩ = some (.slice g1 xn gx1) ∧ Calls Try.prog 31 #[.agg #[.bool xo, .int .i64 xg, .int .i64 xs, .slice g1 xn gx1], .int .i64 1] W fun e w' => e = .returned (.int .i64 KG) ∧ Kb 0 W w') := (fun W k => by
      have bW := (k.block P8 (Nat.zero_le _) z13).trans b813
      rw [show KG = _ from HKG]
      exact ⟨cell_of bW rfl, cell_of bW rfl, cell_of bW rfl, cell_of bW rfl, held_kept W 1 (rowv_kp md13.row k) (by omega) (by omega) (by omega)⟩ : ∀ W : World, _)
    obtain ⟨x0, x1, x2, x3, HH13⟩ := (show ∀ W : World, Kb 0 w13 W → _ from HHD) w13 (Kb.refl _ _)
    have H13 : Hid (Kb 0 w4 w13) := k413
    clear k412 b812 zP8 z46 k413 k1213 b813 z13 kq13 md13 H12 hg12 HG12
    go_wp2_with fail
    refine HH13.mono ?_
    rintro e w14 ⟨rfl, k14⟩
    clear HH13 x0 x1 x2 x3
    obtain ⟨kw4, b04, z04, b4, z4, r4⟩ := (show _ ∧ _ ∧ _ ∧ _ ∧ _ ∧ _ from H4)
    have k414 := (show Kb 0 w4 w13 from H13).trans k14
    have b014 := (k414.block _ (Nat.zero_le _) z04).trans b04
    have HT14 := (show ∀ W, Kb 0 w W → _ from HTO) w14 (kw4.trans k414)
    have u0 : w14.cell? ⟨w.heap.size, 0, none⟩ = some (.slice p1 D.n c1) := cell_of b014 rfl
    have u1 : w14.cell? ⟨w.heap.size, 1, none⟩ = some (.slice p2 D.m c2) := cell_of b014 rfl
    have H14 : Hid (Kb 0 w13 w14) := k14
    clear kw4 b04 z04 b4 z4 r4 k414 b014 k14
    go_wp2_with fail
    refine HT14.mono ?_
    rintro e w15 ⟨x1, x2, rfl, o15, k15⟩
    obtain ⟨r1, f1, r2, f2, rfl, rfl⟩ := o15.shape
    have HI15 := (show ∀ v1 v2 w, _ from HIM) _ _ w15 (o15.rowD.mono (Nat.zero_le _))
    have H15 : Hid (Kb 0 w13 w15) := (show Kb 0 w13 w14 from H14).trans k15
    clear HT14 o15 k15 u0 u1 H14
    go_wp2_with fail
    refine HI15.mono ?_
    rintro e w16 ⟨yh, gh, rfl, oh16, hgh, k16⟩
    obtain ⟨h1, hx1, rfl, -⟩ := oh16.sl
    clear HI15
    obtain ⟨kw4, b04, z04, b4, z4, r4⟩ := (show _ ∧ _ ∧ _ ∧ _ ∧ _ ∧ _ from H4)
    obtain ⟨P17, hP17⟩ : ∃ P17, P17 = w16.heap.size := ⟨_, rfl⟩
    obtain ⟨w17, hw17⟩ : ∃ w17, w17 = w16.alloc (.cells #[.bool xo, .int .i64 xg, .int .i64 xs, .slice h1 xn hx1] 51) := ⟨_, rfl⟩
    have k1617 : Kb 0 w16 w17 := by rw [hw17]; exact kb_alloc _ _ _
    have b17 : w17.heap[P17]? = some (.cells #[.bool xo, .int .i64 xg, .int .i64 xs, .slice h1 xn hx1] 51 (0, 0)) := by rw [hw17, hP17]; exact alloc_new _ _ _
    have k1317 := ((show Kb 0 w13 w15 from H15).trans k16).trans k1617
    have k417 := (show Kb 0 w4 w13 from H13).trans k1317
    have b417 := (k417.block P4 (Nat.zero_le _) (by omega)).trans b4
    have HE17 := (show ∀ (W : World) x y, _ from HEB) w17 _ _ (rowv_kp oh16.row k1617) (rowv_kp r4 k417)
    have u0 : w17.cell? ⟨P4, 0, none⟩ = some (.bool xo) := cell_of b417 rfl
    have u1 : w17.cell? ⟨P4, 1, none⟩ = some (.int .i64 xg) := cell_of b417 rfl
    have u2 : w17.cell? ⟨P4, 2, none⟩ = some (.int .i64 xs) := cell_of b417 rfl
    have u3 : w17.cell? ⟨P4, 3, none⟩ = some (.slice s1 xn sx1) := cell_of b417 rfl
    have x0 : w17.cell? ⟨P17, 0, none⟩ = some (.bool xo) := cell_of b17 rfl
    have x1 : w17.cell? ⟨P17, 1, none⟩ = some (.int .i64 xg) := cell_of b17 rfl
    have x2 : w17.cell? ⟨P17, 2, none⟩ = some (.int .i64 xs) := cell_of b17 rfl
    have x3 : w17.cell? ⟨P17, 3, none⟩ = some (.slice h1 xn hx1) := cell_of b17 rfl
    have H17 : Hid (Kb 0 w w17 ∧ Kb 0 w13 w17) := (⟨kw4.trans k417, k1317⟩ : _ ∧ _)
    have HW17 : Hid (w17 = w16.alloc (.cells #[.bool xo, .int .i64 xg, .int .i64 xs, .slice h1 xn hx1] 51) ∧ P17 = w16.heap.size) := (⟨hw17, hP17⟩ : _ ∧ _)
    clear kw4 b04 z04 b4 z4 r4 hP17 hw17 k1617 b17 k1317 k417 b417 oh16 hgh k16 H15 H13
    go_upto_region 25 with fail
    rw [← (show _ ∧ _ from HW17).1, ← (show _ ∧ _ from HW17).2]
    clear HW17
    go_wp2_with fail
    refine HE17.mono ?_
    rintro e w18 ⟨rfl, k18⟩
    clear HE17 u0 u1 u2 u3 x0 x1 x2 x3
    obtain ⟨kw17, k1317⟩ := (show _ ∧ _ from H17)
    obtain ⟨x0, x1, x2, x3, HH18⟩ := (show ∀ W : World, Kb 0 w13 W → _ from HHD) w18 (k1317.trans k18)
    have H18 : Hid (Kb 0 w w18) := kw17.trans k18
    clear kw17 k1317 k18 H17 HHD HTO HEQ HEB HSP HIM H4
    go_wp2_with fail
    refine HH18.mono ?_
    rintro e w19 ⟨rfl, k19⟩
    have HF : Hid (Kb 0 w w19) := (show Kb 0 w w18 from H18).trans k19
    clear HH18 H18 k19 x0 x1 x2 x3
    go_wp2_with fail
    go_ret
    exact ⟨rfl, HF⟩
end Go.Proofs.Ytiojjejphdhpeaa.Fo
