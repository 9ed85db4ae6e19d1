import Derived.Test.YtaoagjajjeddcaaEvh
namespace Go.Proofs.Ytaoagjajjeddcaa.Fo
open Go.ChangeShapes Go.WideShapes Go.ChangeAt Go.RowKit
set_option linter.unusedVariables false
set_option maxRecDepth 100000
set_option maxHeartbeats 16000000 in
theorem sp_ev_0 {op n m k f l : Int} {x y z : ByteArray} {pk : Option Addr} {q ck : Nat} (w : World) (hx : (x.size : Int) ≤ 9223372036854775807) (hy : (y.size : Int) ≤ 9223372036854775807) (hz : (z.size : Int) ≤ 9223372036854775807) (hq : (q : Int) ≤ 9223372036854775807) (hk : ¬ (0 : Int) < (q : Int)) (h1 : 1 ≤ op) (h2 : op ≤ 21) (o2 : ¬ op = 2) (o3 : ¬ op = 3) (o4 : ¬ op = 4) (o5 : ¬ op = 5) (o6 : ¬ op = 6) (o7 : ¬ op = 7) (o12 : ¬ op = 12) (o14 : ¬ op = 14) (o15 : ¬ op = 15) (o17 : ¬ op = 17) (o19 : ¬ op = 19) (o20 : ¬ op = 20) (hs : k = 0 ∧ f = 0 ∧ l = 0 ∧ z.size = 0) :
    Calls Try.prog 11 #[.agg #[.int .i64 op, .int .i64 n, .int .i64 m, .string x, .string y, .int .i64 k, .int .i64 f, .int .i64 l, .string z, .slice pk q ck]] w fun e w' => e = .returned (.bool (dc (EvP op n m x.size y.size q k f l z.size))) ∧ Kb 0 w w' := by
  obtain ⟨w0, hw0⟩ : ∃ w0, w0 = w.alloc (.cells #[.int .i64 op, .int .i64 n, .int .i64 m, .string x, .string y, .int .i64 k, .int .i64 f, .int .i64 l, .string z, .slice pk q ck] 35) := ⟨_, rfl⟩
  have bw0 : w0.heap[w.heap.size]? = some (.cells #[.int .i64 op, .int .i64 n, .int .i64 m, .string x, .string y, .int .i64 k, .int .i64 f, .int .i64 l, .string z, .slice pk q ck] 35 (0, 0)) := by rw [hw0]; exact alloc_new _ _ _
  have kw0 : Kb 0 w w0 := by rw [hw0]; exact kb_alloc _ _ _
  have c0 : w0.cell? ⟨w.heap.size, 0, none⟩ = some (.int .i64 op) := cell_of bw0 rfl
  have c1 : w0.cell? ⟨w.heap.size, 1, none⟩ = some (.int .i64 n) := cell_of bw0 rfl
  have c2 : w0.cell? ⟨w.heap.size, 2, none⟩ = some (.int .i64 m) := cell_of bw0 rfl
  have c3 : w0.cell? ⟨w.heap.size, 3, none⟩ = some (.string x) := cell_of bw0 rfl
  have c4 : w0.cell? ⟨w.heap.size, 4, none⟩ = some (.string y) := cell_of bw0 rfl
  have c5 : w0.cell? ⟨w.heap.size, 5, none⟩ = some (.int .i64 k) := cell_of bw0 rfl
  have c6 : w0.cell? ⟨w.heap.size, 6, none⟩ = some (.int .i64 f) := cell_of bw0 rfl
  have c7 : w0.cell? ⟨w.heap.size, 7, none⟩ = some (.int .i64 l) := cell_of bw0 rfl
  have c8 : w0.cell? ⟨w.heap.size, 8, none⟩ = some (.string z) := cell_of bw0 rfl
  have c9 : w0.cell? ⟨w.heap.size, 9, none⟩ = some (.slice pk q ck) := cell_of bw0 rfl
  have HB : Hid (w0 = _) := hw0
  have HK : Hid (Kb 0 w w0) := kw0
  clear hw0 bw0 kw0
  have HI : Hid (EvP op n m x.size y.size q k f l z.size ↔ _) := (evp_0 (n := n) (m := m) (k := k) (f := f) (l := l) (x := x) (y := y) (z := z) (q := q) h1 h2 o2 o3 o4 o5 o6 o7 o12 o14 o15 o17 o19 o20 (by omega) hs : EvP op n m x.size y.size q k f l z.size ↔ _)
  obtain ⟨ans, hans⟩ : ∃ ans, ans = dc (EvP op n m x.size y.size q k f l z.size) := ⟨_, rfl⟩
  rw [← hans]
  have HA : Hid (ans = dc (EvP op n m x.size y.size q k f l z.size)) := hans
  clear hans
  have HZ := sp_l58 (k := k) (f := f) (l := l) (z := z) w0 hz
  rw [dc_t hs] at HZ
  clear hs
  have oe2 : (op == 2) = false := by simp; omega
  have oe3 : (op == 3) = false := by simp; omega
  have oe4 : (op == 4) = false := by simp; omega
  have oe5 : (op == 5) = false := by simp; omega
  have oe6 : (op == 6) = false := by simp; omega
  have oe7 : (op == 7) = false := by simp; omega
  have oe12 : (op == 12) = false := by simp; omega
  have oe14 : (op == 14) = false := by simp; omega
  have oe15 : (op == 15) = false := by simp; omega
  have oe17 : (op == 17) = false := by simp; omega
  have oe19 : (op == 19) = false := by simp; omega
  have oe20 : (op == 20) = false := by simp; omega
  clear o2 o3 o4 o5 o6 o7 o12 o14 o15 o17 o19 o20
  go_enter Try.func11, Try.ntmps11
  go_upto_region 1 with fail
  rw [← (show w0 = _ from HB)]
  clear HB
  go_wp2_with fail
  refine HZ.mono ?_
  rintro e w1 ⟨rfl, k1⟩
  have HF : Hid (Kb 0 w w1) := (show Kb 0 w w0 from HK).trans k1
  have d0 := k1.cell c0
  have d1 := k1.cell c1
  have d2 := k1.cell c2
  have d3 := k1.cell c3
  have d4 := k1.cell c4
  have d5 := k1.cell c5
  have d6 := k1.cell c6
  have d7 := k1.cell c7
  have d8 := k1.cell c8
  have d9 := k1.cell c9
  clear HZ k1 HK c0 c1 c2 c3 c4 c5 c6 c7 c8 c9
  go_upto_region 9 with fail
  by_cases q0 : n = 0
  rotate_left
  · have HN : Hid (ans = false) := ((show ans = _ from HA).trans (dc_f (fun h => q0 (((show _ ↔ _ from HI).1 h).1))) : ans = false)
    have b0 : (n == 0) = false := by simp; omega
    clear q0
    go_wp2_with fail
    go_ret
    exact ⟨by rw [(show ans = false from HN)]; rfl, HF⟩
  have b0 : (n == 0) = true := by simp; omega
  have Q0 : Hid (n = 0) := q0
  clear q0
  by_cases q1 : m = 0
  rotate_left
  · have HN : Hid (ans = false) := ((show ans = _ from HA).trans (dc_f (fun h => q1 (((show _ ↔ _ from HI).1 h).2.1))) : ans = false)
    have b1 : (m == 0) = false := by simp; omega
    clear q1
    go_wp2_with fail
    go_ret
    exact ⟨by rw [(show ans = false from HN)]; rfl, HF⟩
  have b1 : (m == 0) = true := by simp; omega
  have Q1 : Hid (m = 0) := q1
  clear q1
  by_cases q2 : x.size = 0
  rotate_left
  · have HN : Hid (ans = false) := ((show ans = _ from HA).trans (dc_f (fun h => q2 (((show _ ↔ _ from HI).1 h).2.2.1))) : ans = false)
    have b2 : x.toList.isEmpty = false := se_e q2
    clear q2
    go_wp2_with fail
    go_ret
    exact ⟨by rw [(show ans = false from HN)]; rfl, HF⟩
  have b2 : x.toList.isEmpty = true := (by rw [se_0 q2]; rfl)
  have Q2 : Hid (x.size = 0) := q2
  clear q2
  by_cases q3 : y.size = 0
  rotate_left
  · have HN : Hid (ans = false) := ((show ans = _ from HA).trans (dc_f (fun h => q3 (((show _ ↔ _ from HI).1 h).2.2.2))) : ans = false)
    have b3 : y.toList.isEmpty = false := se_e q3
    clear q3
    go_wp2_with fail
    go_ret
    exact ⟨by rw [(show ans = false from HN)]; rfl, HF⟩
  have b3 : y.toList.isEmpty = true := (by rw [se_0 q3]; rfl)
  have Q3 : Hid (y.size = 0) := q3
  clear q3
  have HN : Hid (ans = true) := ((show ans = _ from HA).trans (dc_t ((show _ ↔ _ from HI).2 ⟨(show _ from Q0), (show _ from Q1), (show _ from Q2), (show _ from Q3)⟩)) : ans = true)
  go_wp2_with fail
  go_ret
  exact ⟨by rw [(show ans = true from HN)]; rfl, HF⟩
set_option maxHeartbeats 16000000 in
theorem sp_ev_6a {n m k f l : Int} {x y z : ByteArray} {pk : Option Addr} {q ck : Nat} (w : World) (hx : (x.size : Int) ≤ 9223372036854775807) (hy : (y.size : Int) ≤ 9223372036854775807) (hz : (z.size : Int) ≤ 9223372036854775807) (hq : (q : Int) ≤ 9223372036854775807) (hk : ¬ (0 : Int) < (q : Int)) (hs : dc (k = 0 ∧ f = 0 ∧ l = 0 ∧ z.size = 0) = true) :
    Calls Try.prog 11 #[.agg #[.int .i64 6, .int .i64 n, .int .i64 m, .string x, .string y, .int .i64 k, .int .i64 f, .int .i64 l, .string z, .slice pk q ck]] w fun e w' => e = .returned (.bool (dc (EvP 6 n m x.size y.size q k f l z.size))) ∧ Kb 0 w w' := by
  obtain ⟨w0, hw0⟩ : ∃ w0, w0 = w.alloc (.cells #[.int .i64 6, .int .i64 n, .int .i64 m, .string x, .string y, .int .i64 k, .int .i64 f, .int .i64 l, .string z, .slice pk q ck] 35) := ⟨_, rfl⟩
  have bw0 : w0.heap[w.heap.size]? = some (.cells #[.int .i64 6, .int .i64 n, .int .i64 m, .string x, .string y, .int .i64 k, .int .i64 f, .int .i64 l, .string z, .slice pk q ck] 35 (0, 0)) := by rw [hw0]; exact alloc_new _ _ _
  have kw0 : Kb 0 w w0 := by rw [hw0]; exact kb_alloc _ _ _
  have c0 : w0.cell? ⟨w.heap.size, 0, none⟩ = some (.int .i64 6) := cell_of bw0 rfl
  have c1 : w0.cell? ⟨w.heap.size, 1, none⟩ = some (.int .i64 n) := cell_of bw0 rfl
  have c2 : w0.cell? ⟨w.heap.size, 2, none⟩ = some (.int .i64 m) := cell_of bw0 rfl
  have c3 : w0.cell? ⟨w.heap.size, 3, none⟩ = some (.string x) := cell_of bw0 rfl
  have c4 : w0.cell? ⟨w.heap.size, 4, none⟩ = some (.string y) := cell_of bw0 rfl
  have c5 : w0.cell? ⟨w.heap.size, 5, none⟩ = some (.int .i64 k) := cell_of bw0 rfl
  have c6 : w0.cell? ⟨w.heap.size, 6, none⟩ = some (.int .i64 f) := cell_of bw0 rfl
  have c7 : w0.cell? ⟨w.heap.size, 7, none⟩ = some (.int .i64 l) := cell_of bw0 rfl
  have c8 : w0.cell? ⟨w.heap.size, 8, none⟩ = some (.string z) := cell_of bw0 rfl
  have c9 : w0.cell? ⟨w.heap.size, 9, none⟩ = some (.slice pk q ck) := cell_of bw0 rfl
  have HB : Hid (w0 = _) := hw0
  have HK : Hid (Kb 0 w w0) := kw0
  clear hw0 bw0 kw0
  have HI : Hid (EvP 6 n m x.size y.size q k f l z.size ↔ _) := (evp_6 (n := n) (m := m) (k := k) (f := f) (l := l) (x := x) (y := y) (z := z) (q := q) (by omega) : EvP 6 n m x.size y.size q k f l z.size ↔ _)
  obtain ⟨ans, hans⟩ : ∃ ans, ans = dc (EvP 6 n m x.size y.size q k f l z.size) := ⟨_, rfl⟩
  rw [← hans]
  have HA : Hid (ans = dc (EvP 6 n m x.size y.size q k f l z.size)) := hans
  clear hans
  have HZ := sp_l58 (k := k) (f := f) (l := l) (z := z) w0 hz
  rw [hs] at HZ
  clear hs
  have HST : Hid (∀ W, Calls Try.prog 7 #[.agg #[.int .i64 k, .int .i64 f, .int .i64 l, .string z]] W fun e w' => e = .returned (.bool (dc (StP k f l z.size))) ∧ Kb 0 W w') := (fun W => sp_stop W hz : ∀ W, _)
  go_enter Try.func11, Try.ntmps11
  go_upto_region 1 with fail
  rw [← (show w0 = _ from HB)]
  clear HB
  go_wp2_with fail
  refine HZ.mono ?_
  rintro e w1 ⟨rfl, k1⟩
  have HF : Hid (Kb 0 w w1) := (show Kb 0 w w0 from HK).trans k1
  have d0 := k1.cell c0
  have d1 := k1.cell c1
  have d2 := k1.cell c2
  have d3 := k1.cell c3
  have d4 := k1.cell c4
  have d5 := k1.cell c5
  have d6 := k1.cell c6
  have d7 := k1.cell c7
  have d8 := k1.cell c8
  have d9 := k1.cell c9
  clear HZ k1 HK c0 c1 c2 c3 c4 c5 c6 c7 c8 c9
  go_upto_region 9 with fail
  by_cases q0 : n = 0
  rotate_left
  · have HN : Hid (ans = false) := ((show ans = _ from HA).trans (dc_f (fun h => q0 (((show _ ↔ _ from HI).1 h).1))) : ans = false)
    have b0 : (n == 0) = false := by simp; omega
    clear q0
    go_wp2_with fail
    go_ret
    exact ⟨by rw [(show ans = false from HN)]; rfl, HF⟩
  have b0 : (n == 0) = true := by simp; omega
  have Q0 : Hid (n = 0) := q0
  clear q0
  by_cases q1 : m = 0
  rotate_left
  · have HN : Hid (ans = false) := ((show ans = _ from HA).trans (dc_f (fun h => q1 (((show _ ↔ _ from HI).1 h).2.1))) : ans = false)
    have b1 : (m == 0) = false := by simp; omega
    clear q1
    go_wp2_with fail
    go_ret
    exact ⟨by rw [(show ans = false from HN)]; rfl, HF⟩
  have b1 : (m == 0) = true := by simp; omega
  have Q1 : Hid (m = 0) := q1
  clear q1
  by_cases q2 : x.size = 0
  rotate_left
  · have HN : Hid (ans = false) := ((show ans = _ from HA).trans (dc_f (fun h => q2 (((show _ ↔ _ from HI).1 h).2.2.1))) : ans = false)
    have b2 : x.toList.isEmpty = false := se_e q2
    clear q2
    go_wp2_with fail
    go_ret
    exact ⟨by rw [(show ans = false from HN)]; rfl, HF⟩
  have b2 : x.toList.isEmpty = true := (by rw [se_0 q2]; rfl)
  have Q2 : Hid (x.size = 0) := q2
  clear q2
  by_cases q3 : y.size = 0
  rotate_left
  · have HN : Hid (ans = false) := ((show ans = _ from HA).trans (dc_f (fun h => q3 (((show _ ↔ _ from HI).1 h).2.2.2.1))) : ans = false)
    have b3 : y.toList.isEmpty = false := se_e q3
    clear q3
    go_wp2_with fail
    go_ret
    exact ⟨by rw [(show ans = false from HN)]; rfl, HF⟩
  have b3 : y.toList.isEmpty = true := (by rw [se_0 q3]; rfl)
  have Q3 : Hid (y.size = 0) := q3
  clear q3
  have HN : Hid (ans = dc (StP k f l z.size)) := ((show ans = _ from HA).trans (by congr 1; exact propext ⟨fun h => ((show _ ↔ _ from HI).1 h).2.2.2.2, fun h => (show _ ↔ _ from HI).2 ⟨Q0, Q1, Q2, Q3, h⟩⟩) : ans = _)
  have HS1 := (show ∀ W, _ from HST) w1
  rw [← (show ans = _ from HN)] at HS1
  clear HST
  go_wp2_with fail
  refine HS1.mono ?_
  rintro e w2 ⟨rfl, k2⟩
  have HF2 : Hid (Kb 0 w w2) := (show Kb 0 w w1 from HF).trans k2
  clear HS1 k2
  cases ans
  · go_wp2_with fail
    go_ret
    exact ⟨rfl, HF2⟩
  · go_wp2_with fail
    go_ret
    exact ⟨rfl, HF2⟩
set_option maxHeartbeats 16000000 in
theorem sp_ev_6b {n m k f l : Int} {x y z : ByteArray} {pk : Option Addr} {q ck : Nat} (w : World) (hx : (x.size : Int) ≤ 9223372036854775807) (hy : (y.size : Int) ≤ 9223372036854775807) (hz : (z.size : Int) ≤ 9223372036854775807) (hq : (q : Int) ≤ 9223372036854775807) (hk : ¬ (0 : Int) < (q : Int)) (hs : dc (k = 0 ∧ f = 0 ∧ l = 0 ∧ z.size = 0) = false) :
    Calls Try.prog 11 #[.agg #[.int .i64 6, .int .i64 n, .int .i64 m, .string x, .string y, .int .i64 k, .int .i64 f, .int .i64 l, .string z, .slice pk q ck]] w fun e w' => e = .returned (.bool (dc (EvP 6 n m x.size y.size q k f l z.size))) ∧ Kb 0 w w' := by
  obtain ⟨w0, hw0⟩ : ∃ w0, w0 = w.alloc (.cells #[.int .i64 6, .int .i64 n, .int .i64 m, .string x, .string y, .int .i64 k, .int .i64 f, .int .i64 l, .string z, .slice pk q ck] 35) := ⟨_, rfl⟩
  have bw0 : w0.heap[w.heap.size]? = some (.cells #[.int .i64 6, .int .i64 n, .int .i64 m, .string x, .string y, .int .i64 k, .int .i64 f, .int .i64 l, .string z, .slice pk q ck] 35 (0, 0)) := by rw [hw0]; exact alloc_new _ _ _
  have kw0 : Kb 0 w w0 := by rw [hw0]; exact kb_alloc _ _ _
  have c0 : w0.cell? ⟨w.heap.size, 0, none⟩ = some (.int .i64 6) := cell_of bw0 rfl
  have c1 : w0.cell? ⟨w.heap.size, 1, none⟩ = some (.int .i64 n) := cell_of bw0 rfl
  have c2 : w0.cell? ⟨w.heap.size, 2, none⟩ = some (.int .i64 m) := cell_of bw0 rfl
  have c3 : w0.cell? ⟨w.heap.size, 3, none⟩ = some (.string x) := cell_of bw0 rfl
  have c4 : w0.cell? ⟨w.heap.size, 4, none⟩ = some (.string y) := cell_of bw0 rfl
  have c5 : w0.cell? ⟨w.heap.size, 5, none⟩ = some (.int .i64 k) := cell_of bw0 rfl
  have c6 : w0.cell? ⟨w.heap.size, 6, none⟩ = some (.int .i64 f) := cell_of bw0 rfl
  have c7 : w0.cell? ⟨w.heap.size, 7, none⟩ = some (.int .i64 l) := cell_of bw0 rfl
  have c8 : w0.cell? ⟨w.heap.size, 8, none⟩ = some (.string z) := cell_of bw0 rfl
  have c9 : w0.cell? ⟨w.heap.size, 9, none⟩ = some (.slice pk q ck) := cell_of bw0 rfl
  have HB : Hid (w0 = _) := hw0
  have HK : Hid (Kb 0 w w0) := kw0
  clear hw0 bw0 kw0
  have HI : Hid (EvP 6 n m x.size y.size q k f l z.size ↔ _) := (evp_6 (n := n) (m := m) (k := k) (f := f) (l := l) (x := x) (y := y) (z := z) (q := q) (by omega) : EvP 6 n m x.size y.size q k f l z.size ↔ _)
  obtain ⟨ans, hans⟩ : ∃ ans, ans = dc (EvP 6 n m x.size y.size q k f l z.size) := ⟨_, rfl⟩
  rw [← hans]
  have HA : Hid (ans = dc (EvP 6 n m x.size y.size q k f l z.size)) := hans
  clear hans
  have HZ := sp_l58 (k := k) (f := f) (l := l) (z := z) w0 hz
  rw [hs] at HZ
  clear hs
  have HST : Hid (∀ W, Calls Try.prog 7 #[.agg #[.int .i64 k, .int .i64 f, .int .i64 l, .string z]] W fun e w' => e = .returned (.bool (dc (StP k f l z.size))) ∧ Kb 0 W w') := (fun W => sp_stop W hz : ∀ W, _)
  go_enter Try.func11, Try.ntmps11
  go_upto_region 1 with fail
  rw [← (show w0 = _ from HB)]
  clear HB
  go_wp2_with fail
  refine HZ.mono ?_
  rintro e w1 ⟨rfl, k1⟩
  have HF : Hid (Kb 0 w w1) := (show Kb 0 w w0 from HK).trans k1
  have d0 := k1.cell c0
  have d1 := k1.cell c1
  have d2 := k1.cell c2
  have d3 := k1.cell c3
  have d4 := k1.cell c4
  have d5 := k1.cell c5
  have d6 := k1.cell c6
  have d7 := k1.cell c7
  have d8 := k1.cell c8
  have d9 := k1.cell c9
  clear HZ k1 HK c0 c1 c2 c3 c4 c5 c6 c7 c8 c9
  go_upto_region 9 with fail
  by_cases q0 : n = 0
  rotate_left
  · have HN : Hid (ans = false) := ((show ans = _ from HA).trans (dc_f (fun h => q0 (((show _ ↔ _ from HI).1 h).1))) : ans = false)
    have b0 : (n == 0) = false := by simp; omega
    clear q0
    go_wp2_with fail
    go_ret
    exact ⟨by rw [(show ans = false from HN)]; rfl, HF⟩
  have b0 : (n == 0) = true := by simp; omega
  have Q0 : Hid (n = 0) := q0
  clear q0
  by_cases q1 : m = 0
  rotate_left
  · have HN : Hid (ans = false) := ((show ans = _ from HA).trans (dc_f (fun h => q1 (((show _ ↔ _ from HI).1 h).2.1))) : ans = false)
    have b1 : (m == 0) = false := by simp; omega
    clear q1
    go_wp2_with fail
    go_ret
    exact ⟨by rw [(show ans = false from HN)]; rfl, HF⟩
  have b1 : (m == 0) = true := by simp; omega
  have Q1 : Hid (m = 0) := q1
  clear q1
  by_cases q2 : x.size = 0
  rotate_left
  · have HN : Hid (ans = false) := ((show ans = _ from HA).trans (dc_f (fun h => q2 (((show _ ↔ _ from HI).1 h).2.2.1))) : ans = false)
    have b2 : x.toList.isEmpty = false := se_e q2
    clear q2
    go_wp2_with fail
    go_ret
    exact ⟨by rw [(show ans = false from HN)]; rfl, HF⟩
  have b2 : x.toList.isEmpty = true := (by rw [se_0 q2]; rfl)
  have Q2 : Hid (x.size = 0) := q2
  clear q2
  by_cases q3 : y.size = 0
  rotate_left
  · have HN : Hid (ans = false) := ((show ans = _ from HA).trans (dc_f (fun h => q3 (((show _ ↔ _ from HI).1 h).2.2.2.1))) : ans = false)
    have b3 : y.toList.isEmpty = false := se_e q3
    clear q3
    go_wp2_with fail
    go_ret
    exact ⟨by rw [(show ans = false from HN)]; rfl, HF⟩
  have b3 : y.toList.isEmpty = true := (by rw [se_0 q3]; rfl)
  have Q3 : Hid (y.size = 0) := q3
  clear q3
  have HN : Hid (ans = dc (StP k f l z.size)) := ((show ans = _ from HA).trans (by congr 1; exact propext ⟨fun h => ((show _ ↔ _ from HI).1 h).2.2.2.2, fun h => (show _ ↔ _ from HI).2 ⟨Q0, Q1, Q2, Q3, h⟩⟩) : ans = _)
  have HS1 := (show ∀ W, _ from HST) w1
  rw [← (show ans = _ from HN)] at HS1
  clear HST
  go_wp2_with fail
  refine HS1.mono ?_
  rintro e w2 ⟨rfl, k2⟩
  have HF2 : Hid (Kb 0 w w2) := (show Kb 0 w w1 from HF).trans k2
  clear HS1 k2
  cases ans
  · go_wp2_with fail
    go_ret
    exact ⟨rfl, HF2⟩
  · go_wp2_with fail
    go_ret
    exact ⟨rfl, HF2⟩
end Go.Proofs.Ytaoagjajjeddcaa.Fo
