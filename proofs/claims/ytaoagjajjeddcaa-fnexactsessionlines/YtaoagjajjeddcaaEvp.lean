import Derived.Test.YtaoagjajjeddcaaEvf
import Derived.Test.YtaoagjajjeddcaaEvo
import Derived.Deep.RegionHeld3
namespace Go.Proofs.Ytaoagjajjeddcaa.Fo
open Go.ChangeShapes Go.WideShapes Go.ChangeAt Go.RowKit
set_option linter.unusedVariables false
set_option maxRecDepth 100000
set_option maxHeartbeats 16000000 in
theorem law_ev {op n m k f l : Int} {x y z : ByteArray} {pk : Option Addr} {q ck : Nat} {A : Nat → Bool} (w : World) (hx : (x.size : Int) ≤ 9223372036854775807) (hy : (y.size : Int) ≤ 9223372036854775807) (hz : (z.size : Int) ≤ 9223372036854775807) (hq : (q : Int) ≤ 9223372036854775807) (ha : RowV w (.slice pk q ck) q (fun i => .bool (A i))) :
    Calls Try.prog 4 #[.agg #[.int .i64 op, .int .i64 n, .int .i64 m, .string x, .string y, .int .i64 k, .int .i64 f, .int .i64 l, .string z, .slice pk q ck]] w fun e w' => e = .returned (.bool true) ∧ Kb 0 w w' := by
  obtain ⟨w0, hw0⟩ : ∃ w0, w0 = w.alloc (.cells #[.int .i64 op, .int .i64 n, .int .i64 m, .string x, .string y, .int .i64 k, .int .i64 f, .int .i64 l, .string z, .slice pk q ck] 31) := ⟨_, rfl⟩
  have bw0 : w0.heap[w.heap.size]? = some (.cells #[.int .i64 op, .int .i64 n, .int .i64 m, .string x, .string y, .int .i64 k, .int .i64 f, .int .i64 l, .string z, .slice pk q ck] 31 (0, 0)) := by rw [hw0]; exact alloc_new _ _ _
  have kw0 : Kb 0 w w0 := by rw [hw0]; exact kb_alloc _ _ _
  have c0 : w0.cell? ⟨w.heap.size, 0, none⟩ = some (.int .i64 op) := cell_of bw0 rfl
  have c1 : w0.cell? ⟨w.heap.size, 1, none⟩ = some (.int .i64 n) := cell_of bw0 rfl
  have c2 : w0.cell? ⟨w.heap.size, 2, none⟩ = some (.int .i64 m) := cell_of bw0 rfl
  have c3 : w0.cell? ⟨w.heap.size, 3, none⟩ = some (.string x) := cell_of bw0 rfl
  have c4 : w0.cell? ⟨w.heap.size, 4, none⟩ = some (.string y) := cell_of bw0 rfl
  have c5 : w0.cell? ⟨w.heap.size, 5, none⟩ = some (.int .i64 k) := cell_of bw0 rfl
  have c6 : w0.cell? ⟨w.heap.size, 6, none⟩ = some (.int .i64 f) := cell_of bw0 rfl
  have c7 : w0.cell? ⟨w.heap.size, 7, none⟩ = some (.int .i64 l) := cell_of bw0 rfl
  have c8 : w0.cell? ⟨w.heap.size, 8, none⟩ = some (.string z) := cell_of bw0 rfl
  have c9 : w0.cell? ⟨w.heap.size, 9, none⟩ = some (.slice pk q ck) := cell_of bw0 rfl
  have HB : Hid (w0 = _) := hw0
  have HK : Hid (Kb 0 w w0) := kw0
  have HB0 : Hid (w0.heap[w.heap.size]? = some (.cells #[.int .i64 op, .int .i64 n, .int .i64 m, .string x, .string y, .int .i64 k, .int .i64 f, .int .i64 l, .string z, .slice pk q ck] 31 (0, 0)) ∧ w.heap.size < w0.heap.size) := (⟨bw0, by rw [hw0]; simp⟩ : _ ∧ _)
  clear hw0 bw0 kw0
  have HS := sz_event (op := op) (n := n) (m := m) (k := k) (f := f) (l := l) (pk := pk) (ck := ck) (L := 1048576) w0 hx hy hz hq (by omega) (by omega)
  have HSP : Hid (∀ W px cx, Calls Try.prog 11 #[.agg #[.int .i64 op, .int .i64 n, .int .i64 m, .string x, .string y, .int .i64 k, .int .i64 f, .int .i64 l, .string z, .slice px q cx]] W fun e w' => e = .returned (.bool (dc (EvP op n m x.size y.size q k f l z.size))) ∧ Kb 0 W w') := (fun W px cx => sp_event W hx hy hz hq : ∀ W px cx, _)
  have HIM : Hid (∀ W px cx, Calls Try.prog 13 #[.agg #[.int .i64 op, .int .i64 n, .int .i64 m, .string x, .string y, .int .i64 k, .int .i64 f, .int .i64 l, .string z, .slice px q cx]] W fun e w' => e = .returned (.bool (dc (EvP op n m x.size y.size q k f l z.size))) ∧ Kb 0 W w') := (fun W px cx => im_event W hx hy hz hq : ∀ W px cx, _)
  generalize dc (EvP op n m x.size y.size q k f l z.size) = R at HSP HIM
  have HX : Hid (RowV w (.slice pk q ck) q (fun i => .bool (A i))) := ha
  clear ha
  go_enter Try.func4, Try.ntmps4
  go_upto_region 2 with fail
  rw [← (show w0 = _ from HB)]
  clear HB
  go_wp2_with fail
  refine HS.mono ?_
  rintro e w1 ⟨r, rfl, hr, k1⟩
  clear HS
  by_cases h : r < 0
  · have HF : Hid (Kb 0 w w1) := (show Kb 0 w w0 from HK).trans k1
    clear k1 HK c0 c1 c2 c3 c4 c5 c6 c7 c8 c9 hr
    go_wp2_with fail
    go_ret
    exact ⟨rfl, HF⟩
  have hq1 : q ≤ 1048576 := by rcases hr with hr | hr <;> omega
  have kw1 := (show Kb 0 w w0 from HK).trans k1
  have b1 := (k1.block _ (Nat.zero_le _) (show _ ∧ _ from HB0).2).trans (show _ ∧ _ from HB0).1
  have HTO : Hid (∀ W, Kb 0 w W → Calls Try.prog 12 #[.agg #[.int .i64 op, .int .i64 n, .int .i64 m, .string x, .string y, .int .i64 k, .int .i64 f, .int .i64 l, .string z, .slice pk q ck]] W fun e w' => ∃ px cx gx, e = .returned (.agg #[.int .i64 op, .int .i64 n, .int .i64 m, .string x, .string y, .int .i64 k, .int .i64 f, .int .i64 l, .string z, .slice px q cx]) ∧ W.heap.size ≤ gx ∧ gx < w'.heap.size ∧ OwnR w' (.slice px q cx) gx q (fun i => .bool (A i)) ∧ Kb 0 W w') := (fun W kk => to_event W (((show RowV w (.slice pk q ck) q (fun i => .bool (A i)) from HX).rowB.keep kk).row) hq1 : ∀ W, _)
  have HEQ : Hid (∀ (W : World) p1 c1 p2 c2, RowV W (.slice p1 q c1) q (fun i => .bool (A i)) → RowV W (.slice p2 q c2) q (fun i => .bool (A i)) → Calls Try.prog 14 #[.agg #[.int .i64 op, .int .i64 n, .int .i64 m, .string x, .string y, .int .i64 k, .int .i64 f, .int .i64 l, .string z, .slice p1 q c1], .agg #[.int .i64 op, .int .i64 n, .int .i64 m, .string x, .string y, .int .i64 k, .int .i64 f, .int .i64 l, .string z, .slice p2 q c2]] W fun e w' => e = .returned (.bool true) ∧ Kb 0 W w') := (fun W p1 c1 p2 c2 h1 h2 => eq_event W h1 h2 hq1 : ∀ (W : World) p1 c1 p2 c2, _)
  have HT1 := (show ∀ W, Kb 0 w W → _ from HTO) w1 kw1
  have H1 : Hid (Kb 0 w w1 ∧ w1.heap[w.heap.size]? = some (.cells #[.int .i64 op, .int .i64 n, .int .i64 m, .string x, .string y, .int .i64 k, .int .i64 f, .int .i64 l, .string z, .slice pk q ck] 31 (0, 0)) ∧ w.heap.size < w1.heap.size) := (⟨kw1, b1, by have := k1.size; have := (show _ ∧ _ from HB0).2; omega⟩ : _ ∧ _)
  replace c0 := k1.cell c0
  replace c1 := k1.cell c1
  replace c2 := k1.cell c2
  replace c3 := k1.cell c3
  replace c4 := k1.cell c4
  replace c5 := k1.cell c5
  replace c6 := k1.cell c6
  replace c7 := k1.cell c7
  replace c8 := k1.cell c8
  replace c9 := k1.cell c9
  clear k1 HK hr kw1 b1 hq1 HX HB0
  go_wp2_with fail
  refine HT1.mono ?_
  rintro e w2 ⟨px2, cx2, gx2, rfl, -, -, -, k2⟩
  have HS2 := (show ∀ W px cx, _ from HSP) w2 px2 cx2
  have H2 : Hid (Kb 0 w1 w2) := k2
  clear HT1 k2 c0 c1 c2 c3 c4 c5 c6 c7 c8 c9 HSP
  go_wp2_with fail
  refine HS2.mono ?_
  rintro e w3 ⟨rfl, k3⟩
  obtain ⟨kw1, b1, z1⟩ := (show _ ∧ _ ∧ _ from H1)
  have k13 := (show Kb 0 w1 w2 from H2).trans k3
  have b3 := (k13.block _ (Nat.zero_le _) z1).trans b1
  have kw3 := kw1.trans k13
  have HT3 := (show ∀ W, Kb 0 w W → _ from HTO) w3 kw3
  have c0 : w3.cell? ⟨w.heap.size, 0, none⟩ = some (.int .i64 op) := cell_of b3 rfl
  have c1 : w3.cell? ⟨w.heap.size, 1, none⟩ = some (.int .i64 n) := cell_of b3 rfl
  have c2 : w3.cell? ⟨w.heap.size, 2, none⟩ = some (.int .i64 m) := cell_of b3 rfl
  have c3 : w3.cell? ⟨w.heap.size, 3, none⟩ = some (.string x) := cell_of b3 rfl
  have c4 : w3.cell? ⟨w.heap.size, 4, none⟩ = some (.string y) := cell_of b3 rfl
  have c5 : w3.cell? ⟨w.heap.size, 5, none⟩ = some (.int .i64 k) := cell_of b3 rfl
  have c6 : w3.cell? ⟨w.heap.size, 6, none⟩ = some (.int .i64 f) := cell_of b3 rfl
  have c7 : w3.cell? ⟨w.heap.size, 7, none⟩ = some (.int .i64 l) := cell_of b3 rfl
  have c8 : w3.cell? ⟨w.heap.size, 8, none⟩ = some (.string z) := cell_of b3 rfl
  have c9 : w3.cell? ⟨w.heap.size, 9, none⟩ = some (.slice pk q ck) := cell_of b3 rfl
  have H3 : Hid (Kb 0 w w3 ∧ w3.heap[w.heap.size]? = some (.cells #[.int .i64 op, .int .i64 n, .int .i64 m, .string x, .string y, .int .i64 k, .int .i64 f, .int .i64 l, .string z, .slice pk q ck] 31 (0, 0)) ∧ w.heap.size < w3.heap.size) := (⟨kw3, b3, by have := k13.size; omega⟩ : _ ∧ _)
  clear HS2 H1 H2 kw1 b1 z1 k13 b3 kw3 k3
  go_wp2_with fail
  refine HT3.mono ?_
  rintro e w4 ⟨px, cx, gx, rfl, g1, g2, o4, k4⟩
  clear HT3 c0 c1 c2 c3 c4 c5 c6 c7 c8 c9
  obtain ⟨P5, hP5⟩ : ∃ P5, P5 = w4.heap.size := ⟨_, rfl⟩
  obtain ⟨w5, hw5⟩ : ∃ w5, w5 = w4.alloc (.cells #[.int .i64 op, .int .i64 n, .int .i64 m, .string x, .string y, .int .i64 k, .int .i64 f, .int .i64 l, .string z, .slice px q cx] 35) := ⟨_, rfl⟩
  have k45 : Kb 0 w4 w5 := by rw [hw5]; exact kb_alloc _ _ _
  have b5 : w5.heap[P5]? = some (.cells #[.int .i64 op, .int .i64 n, .int .i64 m, .string x, .string y, .int .i64 k, .int .i64 f, .int .i64 l, .string z, .slice px q cx] 35 (0, 0)) := by rw [hw5, hP5]; exact alloc_new _ _ _
  obtain ⟨kw3, b3, z3⟩ := (show _ ∧ _ ∧ _ from H3)
  have r5 := (o4.row.rowB.keep k45)
  have HI5 := (show ∀ W px cx, _ from HIM) w5 px cx
  have b35 := ((k4.trans k45).block _ (Nat.zero_le _) z3).trans b3
  have H5 : Hid (Kb 0 w w5 ∧ w5.heap[w.heap.size]? = some (.cells #[.int .i64 op, .int .i64 n, .int .i64 m, .string x, .string y, .int .i64 k, .int .i64 f, .int .i64 l, .string z, .slice pk q ck] 31 (0, 0)) ∧ w5.heap[P5]? = some (.cells #[.int .i64 op, .int .i64 n, .int .i64 m, .string x, .string y, .int .i64 k, .int .i64 f, .int .i64 l, .string z, .slice px q cx] 35 (0, 0)) ∧ RowB 0 w5 (.slice px q cx) q (fun i => .bool (A i))) := (⟨kw3.trans (k4.trans k45), b35, b5, r5⟩ : _ ∧ _)
  have x0 : w5.cell? ⟨P5, 0, none⟩ = some (.int .i64 op) := cell_of b5 rfl
  have x1 : w5.cell? ⟨P5, 1, none⟩ = some (.int .i64 n) := cell_of b5 rfl
  have x2 : w5.cell? ⟨P5, 2, none⟩ = some (.int .i64 m) := cell_of b5 rfl
  have x3 : w5.cell? ⟨P5, 3, none⟩ = some (.string x) := cell_of b5 rfl
  have x4 : w5.cell? ⟨P5, 4, none⟩ = some (.string y) := cell_of b5 rfl
  have x5 : w5.cell? ⟨P5, 5, none⟩ = some (.int .i64 k) := cell_of b5 rfl
  have x6 : w5.cell? ⟨P5, 6, none⟩ = some (.int .i64 f) := cell_of b5 rfl
  have x7 : w5.cell? ⟨P5, 7, none⟩ = some (.int .i64 l) := cell_of b5 rfl
  have x8 : w5.cell? ⟨P5, 8, none⟩ = some (.string z) := cell_of b5 rfl
  have x9 : w5.cell? ⟨P5, 9, none⟩ = some (.slice px q cx) := cell_of b5 rfl
  have HW5 : Hid (w5 = w4.alloc (.cells #[.int .i64 op, .int .i64 n, .int .i64 m, .string x, .string y, .int .i64 k, .int .i64 f, .int .i64 l, .string z, .slice px q cx] 35) ∧ P5 = w4.heap.size) := (⟨hw5, hP5⟩ : _ ∧ _)
  clear o4 k4 hP5 hw5 k45 b5 kw3 b3 z3 r5 b35 H3 g1 g2 HIM
  go_upto_region 7 with fail
  rw [← (show _ ∧ _ from HW5).1, ← (show _ ∧ _ from HW5).2]
  clear HW5
  go_wp2_with fail
  refine HI5.mono ?_
  rintro e w6 ⟨rfl, k6⟩
  clear HI5 x0 x1 x2 x3 x4 x5 x6 x7 x8 x9
  obtain ⟨kw5, b05, b55, r5⟩ := (show _ ∧ _ ∧ _ ∧ _ from H5)
  have hRR : (R != R) = false := by cases R <;> rfl
  have b06 := (k6.block _ (Nat.zero_le _) (Array.getElem?_eq_some_iff.1 b05).1).trans b05
  have b56 := (k6.block _ (Nat.zero_le _) (Array.getElem?_eq_some_iff.1 b55).1).trans b55
  have HALL : Hid (∀ W, Kb 0 w6 W → W.cell? ⟨w.heap.size, 0, none⟩ = some (.int .i64 op) ∧ W.cell? ⟨w.heap.size, 1, none⟩ = some (.int .i64 n) ∧ W.cell? ⟨w.heap.size, 2, none⟩ = some (.int .i64 m) ∧ W.cell? ⟨w.heap.size, 3, none⟩ = some (.string x) ∧ W.cell? ⟨w.heap.size, 4, none⟩ = some (.string y) ∧ W.cell? ⟨w.heap.size, 5, none⟩ = some (.int .i64 k) ∧ W.cell? ⟨w.heap.size, 6, none⟩ = some (.int .i64 f) ∧ W.cell? ⟨w.heap.size, 7, none⟩ = some (.int .i64 l) ∧ W.cell? ⟨w.heap.size, 8, none⟩ = some (.string z) ∧ W.cell? ⟨w.heap.size, 9, none⟩ = some (.slice pk q ck) ∧ W.cell? ⟨P5, 0, none⟩ = some (.int .i64 op) ∧ W.cell? ⟨P5, 1, none⟩ = some (.int .i64 n) ∧ W.cell? ⟨P5, 2, none⟩ = some (.int .i64 m) ∧ W.cell? ⟨P5, 3, none⟩ = some (.string x) ∧ W.cell? ⟨P5, 4, none⟩ = some (.string y) ∧ W.cell? ⟨P5, 5, none⟩ = some (.int .i64 k) ∧ W.cell? ⟨P5, 6, none⟩ = some (.int .i64 f) ∧ W.cell? ⟨P5, 7, none⟩ = some (.int .i64 l) ∧ W.cell? ⟨P5, 8, none⟩ = some (.string z) ∧ W.cell? ⟨P5, 9, none⟩ = some (.slice px q cx)) := (fun W kk => ⟨kk.cell (cell_of b06 rfl), kk.cell (cell_of b06 rfl), kk.cell (cell_of b06 rfl), kk.cell (cell_of b06 rfl), kk.cell (cell_of b06 rfl), kk.cell (cell_of b06 rfl), kk.cell (cell_of b06 rfl), kk.cell (cell_of b06 rfl), kk.cell (cell_of b06 rfl), kk.cell (cell_of b06 rfl), kk.cell (cell_of b56 rfl), kk.cell (cell_of b56 rfl), kk.cell (cell_of b56 rfl), kk.cell (cell_of b56 rfl), kk.cell (cell_of b56 rfl), kk.cell (cell_of b56 rfl), kk.cell (cell_of b56 rfl), kk.cell (cell_of b56 rfl), kk.cell (cell_of b56 rfl), kk.cell (cell_of b56 rfl)⟩ : ∀ W, _)
  have H6 : Hid (Kb 0 w w6 ∧ RowB 0 w6 (.slice px q cx) q (fun i => .bool (A i))) := (⟨kw5.trans k6, r5.keep k6⟩ : _ ∧ _)
  have HA6 := (show ∀ W, Kb 0 w6 W → _ from HALL) w6 (Kb.refl _ _)
  obtain ⟨a0, a1, a2, a3, a4, a5, a6, a7, a8, a9, d0, d1, d2, d3, d4, d5, d6, d7, d8, d9⟩ := HA6
  clear kw5 b05 b55 r5 b06 b56 k6 H5
  have HT6 : Hid (∀ W', W'.heap = w6.heap → W'.os = w6.os → W'.output = w6.output → Calls Try.prog 12 #[.agg #[.int .i64 op, .int .i64 n, .int .i64 m, .string x, .string y, .int .i64 k, .int .i64 f, .int .i64 l, .string z, .slice pk q ck]] W' fun e w' => ∃ p7 c7, e = .returned (.agg #[.int .i64 op, .int .i64 n, .int .i64 m, .string x, .string y, .int .i64 k, .int .i64 f, .int .i64 l, .string z, .slice p7 q c7]) ∧ RowV w' (.slice p7 q c7) q (fun i => .bool (A i)) ∧ Kb 0 w6 w') := (fun W' h0 h1 h2 => by
    have kk : Kb 0 w6 W' := ⟨h1, h2, by rw [h0]; exact Nat.le_refl _, fun k _ _ => by rw [h0]⟩
    refine ((show ∀ W, Kb 0 w W → _ from HTO) W' ((show _ ∧ _ from H6).1.trans kk)).mono ?_
    rintro e w' ⟨p7, c7, g7, rfl, -, -, o, k⟩
    exact ⟨p7, c7, rfl, o.row, kk.trans k⟩ : ∀ W', _)
  go_upto_region 10 with fail
  go_region_held3 (fun W' => W'.cell? ⟨w.heap.size, 0, none⟩ = some (.int .i64 op) ∧ W'.cell? ⟨w.heap.size, 1, none⟩ = some (.int .i64 n) ∧ W'.cell? ⟨w.heap.size, 2, none⟩ = some (.int .i64 m) ∧ W'.cell? ⟨w.heap.size, 3, none⟩ = some (.string x) ∧ W'.cell? ⟨w.heap.size, 4, none⟩ = some (.string y) ∧ W'.cell? ⟨w.heap.size, 5, none⟩ = some (.int .i64 k) ∧ W'.cell? ⟨w.heap.size, 6, none⟩ = some (.int .i64 f) ∧ W'.cell? ⟨w.heap.size, 7, none⟩ = some (.int .i64 l) ∧ W'.cell? ⟨w.heap.size, 8, none⟩ = some (.string z) ∧ W'.cell? ⟨w.heap.size, 9, none⟩ = some (.slice pk q ck) ∧ W'.cell? ⟨P5, 0, none⟩ = some (.int .i64 op) ∧ W'.cell? ⟨P5, 1, none⟩ = some (.int .i64 n) ∧ W'.cell? ⟨P5, 2, none⟩ = some (.int .i64 m) ∧ W'.cell? ⟨P5, 3, none⟩ = some (.string x) ∧ W'.cell? ⟨P5, 4, none⟩ = some (.string y) ∧ W'.cell? ⟨P5, 5, none⟩ = some (.int .i64 k) ∧ W'.cell? ⟨P5, 6, none⟩ = some (.int .i64 f) ∧ W'.cell? ⟨P5, 7, none⟩ = some (.int .i64 l) ∧ W'.cell? ⟨P5, 8, none⟩ = some (.string z) ∧ W'.cell? ⟨P5, 9, none⟩ = some (.slice px q cx)) (first | exact ⟨a0, a1, a2, a3, a4, a5, a6, a7, a8, a9, d0, d1, d2, d3, d4, d5, d6, d7, d8, d9⟩ | exact (show ∀ W, Kb 0 w6 W → _ from HALL) _ k7 | exact (show ∀ W, Kb 0 w6 W → _ from HALL) _ k8) ((first | (go_at_call 12; refine ((show ∀ W', _ from HT6) _ (by exact rfl) (by exact rfl) (by exact rfl)).mono ?_; rintro e w7 ⟨p7, c7, rfl, r7, k7⟩) | (go_at_call 14; refine ((show ∀ (W : World) p1 c1 p2 c2, _ from HEQ) _ _ _ _ _ (((show _ ∧ _ from H6).2.keep k7).row) r7).mono ?_; rintro e w8 ⟨rfl, k78⟩; have k8 := k7.trans k78)))
  all_goals
    have HF : Hid (Kb 0 w w8) := (show _ ∧ _ from H6).1.trans k8
    clear r7 k7 k8 k78 H6 HALL HT6 HTO HEQ a0 a1 a2 a3 a4 a5 a6 a7 a8 a9 d0 d1 d2 d3 d4 d5 d6 d7 d8 d9
    go_wp2_with fail
    go_ret
    exact ⟨rfl, HF⟩
end Go.Proofs.Ytaoagjajjeddcaa.Fo
