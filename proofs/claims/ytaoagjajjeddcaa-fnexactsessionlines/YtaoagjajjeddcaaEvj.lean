import Derived.Test.YtaoagjajjeddcaaEvh
namespace Go.Proofs.Ytaoagjajjeddcaa.Fo
open Go.ChangeShapes Go.WideShapes Go.ChangeAt Go.RowKit
set_option linter.unusedVariables false
set_option maxRecDepth 100000
set_option maxHeartbeats 16000000 in
theorem sp_ev_3 {n m k f l : Int} {x y z : ByteArray} {pk : Option Addr} {q ck : Nat} (w : World) (hx : (x.size : Int) ≤ 9223372036854775807) (hy : (y.size : Int) ≤ 9223372036854775807) (hz : (z.size : Int) ≤ 9223372036854775807) (hq : (q : Int) ≤ 9223372036854775807) (hk : ¬ (0 : Int) < (q : Int)) (hs : k = 0 ∧ f = 0 ∧ l = 0 ∧ z.size = 0) :
    Calls Try.prog 11 #[.agg #[.int .i64 3, .int .i64 n, .int .i64 m, .string x, .string y, .int .i64 k, .int .i64 f, .int .i64 l, .string z, .slice pk q ck]] w fun e w' => e = .returned (.bool (dc (EvP 3 n m x.size y.size q k f l z.size))) ∧ Kb 0 w w' := by
  obtain ⟨w0, hw0⟩ : ∃ w0, w0 = w.alloc (.cells #[.int .i64 3, .int .i64 n, .int .i64 m, .string x, .string y, .int .i64 k, .int .i64 f, .int .i64 l, .string z, .slice pk q ck] 35) := ⟨_, rfl⟩
  have bw0 : w0.heap[w.heap.size]? = some (.cells #[.int .i64 3, .int .i64 n, .int .i64 m, .string x, .string y, .int .i64 k, .int .i64 f, .int .i64 l, .string z, .slice pk q ck] 35 (0, 0)) := by rw [hw0]; exact alloc_new _ _ _
  have kw0 : Kb 0 w w0 := by rw [hw0]; exact kb_alloc _ _ _
  have c0 : w0.cell? ⟨w.heap.size, 0, none⟩ = some (.int .i64 3) := cell_of bw0 rfl
  have c1 : w0.cell? ⟨w.heap.size, 1, none⟩ = some (.int .i64 n) := cell_of bw0 rfl
  have c2 : w0.cell? ⟨w.heap.size, 2, none⟩ = some (.int .i64 m) := cell_of bw0 rfl
  have c3 : w0.cell? ⟨w.heap.size, 3, none⟩ = some (.string x) := cell_of bw0 rfl
  have c4 : w0.cell? ⟨w.heap.size, 4, none⟩ = some (.string y) := cell_of bw0 rfl
  have c5 : w0.cell? ⟨w.heap.size, 5, none⟩ = some (.int .i64 k) := cell_of bw0 rfl
  have c6 : w0.cell? ⟨w.heap.size, 6, none⟩ = some (.int .i64 f) := cell_of bw0 rfl
  have c7 : w0.cell? ⟨w.heap.size, 7, none⟩ = some (.int .i64 l) := cell_of bw0 rfl
  have c8 : w0.cell? ⟨w.heap.size, 8, none⟩ = some (.string z) := cell_of bw0 rfl
  have c9 : w0.cell? ⟨w.heap.size, 9, none⟩ = some (.slice pk q ck) := cell_of bw0 rfl
  have HB : Hid (w0 = _) := hw0
  have HK : Hid (Kb 0 w w0) := kw0
  clear hw0 bw0 kw0
  have HI : Hid (EvP 3 n m x.size y.size q k f l z.size ↔ _) := (evp_3 (n := n) (m := m) (k := k) (f := f) (l := l) (x := x) (y := y) (z := z) (q := q) (by omega) hs : EvP 3 n m x.size y.size q k f l z.size ↔ _)
  obtain ⟨ans, hans⟩ : ∃ ans, ans = dc (EvP 3 n m x.size y.size q k f l z.size) := ⟨_, rfl⟩
  rw [← hans]
  have HA : Hid (ans = dc (EvP 3 n m x.size y.size q k f l z.size)) := hans
  clear hans
  have HZ := sp_l58 (k := k) (f := f) (l := l) (z := z) w0 hz
  rw [dc_t hs] at HZ
  clear hs
  go_enter Try.func11, Try.ntmps11
  go_upto_region 1 with fail
  rw [← (show w0 = _ from HB)]
  clear HB
  go_wp2_with fail
  refine HZ.mono ?_
  rintro e w1 ⟨rfl, k1⟩
  have HF : Hid (Kb 0 w w1) := (show Kb 0 w w0 from HK).trans k1
  have d0 := k1.cell c0
  have d1 := k1.cell c1
  have d2 := k1.cell c2
  have d3 := k1.cell c3
  have d4 := k1.cell c4
  have d5 := k1.cell c5
  have d6 := k1.cell c6
  have d7 := k1.cell c7
  have d8 := k1.cell c8
  have d9 := k1.cell c9
  clear HZ k1 HK c0 c1 c2 c3 c4 c5 c6 c7 c8 c9
  go_upto_region 9 with fail
  by_cases q0 : 0 ≤ n
  rotate_left
  · have HN : Hid (ans = false) := ((show ans = _ from HA).trans (dc_f (fun h => q0 (((show _ ↔ _ from HI).1 h).1))) : ans = false)
    go_wp2_with fail
    go_ret
    exact ⟨by rw [(show ans = false from HN)]; rfl, HF⟩
  have Q0 : Hid (0 ≤ n) := q0
  by_cases q1 : n ≤ 50
  rotate_left
  · have HN : Hid (ans = false) := ((show ans = _ from HA).trans (dc_f (fun h => q1 (((show _ ↔ _ from HI).1 h).2.1))) : ans = false)
    go_wp2_with fail
    go_ret
    exact ⟨by rw [(show ans = false from HN)]; rfl, HF⟩
  have Q1 : Hid (n ≤ 50) := q1
  by_cases q2 : m = 0
  rotate_left
  · have HN : Hid (ans = false) := ((show ans = _ from HA).trans (dc_f (fun h => q2 (((show _ ↔ _ from HI).1 h).2.2.1))) : ans = false)
    have b2 : (m == 0) = false := by simp; omega
    clear q2
    go_wp2_with fail
    go_ret
    exact ⟨by rw [(show ans = false from HN)]; rfl, HF⟩
  have b2 : (m == 0) = true := by simp; omega
  have Q2 : Hid (m = 0) := q2
  clear q2
  by_cases q3 : x.size = 0
  rotate_left
  · have HN : Hid (ans = false) := ((show ans = _ from HA).trans (dc_f (fun h => q3 (((show _ ↔ _ from HI).1 h).2.2.2.1))) : ans = false)
    have b3 : x.toList.isEmpty = false := se_e q3
    clear q3
    go_wp2_with fail
    go_ret
    exact ⟨by rw [(show ans = false from HN)]; rfl, HF⟩
  have b3 : x.toList.isEmpty = true := (by rw [se_0 q3]; rfl)
  have Q3 : Hid (x.size = 0) := q3
  clear q3
  by_cases q4 : y.size = 0
  rotate_left
  · have HN : Hid (ans = false) := ((show ans = _ from HA).trans (dc_f (fun h => q4 (((show _ ↔ _ from HI).1 h).2.2.2.2))) : ans = false)
    have b4 : y.toList.isEmpty = false := se_e q4
    clear q4
    go_wp2_with fail
    go_ret
    exact ⟨by rw [(show ans = false from HN)]; rfl, HF⟩
  have b4 : y.toList.isEmpty = true := (by rw [se_0 q4]; rfl)
  have Q4 : Hid (y.size = 0) := q4
  clear q4
  have HN : Hid (ans = true) := ((show ans = _ from HA).trans (dc_t ((show _ ↔ _ from HI).2 ⟨(show _ from Q0), (show _ from Q1), (show _ from Q2), (show _ from Q3), (show _ from Q4)⟩)) : ans = true)
  go_wp2_with fail
  go_ret
  exact ⟨by rw [(show ans = true from HN)]; rfl, HF⟩
set_option maxHeartbeats 16000000 in
theorem sp_ev_4 {n m k f l : Int} {x y z : ByteArray} {pk : Option Addr} {q ck : Nat} (w : World) (hx : (x.size : Int) ≤ 9223372036854775807) (hy : (y.size : Int) ≤ 9223372036854775807) (hz : (z.size : Int) ≤ 9223372036854775807) (hq : (q : Int) ≤ 9223372036854775807) (hk : ¬ (0 : Int) < (q : Int)) (hs : k = 0 ∧ f = 0 ∧ l = 0 ∧ z.size = 0) :
    Calls Try.prog 11 #[.agg #[.int .i64 4, .int .i64 n, .int .i64 m, .string x, .string y, .int .i64 k, .int .i64 f, .int .i64 l, .string z, .slice pk q ck]] w fun e w' => e = .returned (.bool (dc (EvP 4 n m x.size y.size q k f l z.size))) ∧ Kb 0 w w' := by
  obtain ⟨w0, hw0⟩ : ∃ w0, w0 = w.alloc (.cells #[.int .i64 4, .int .i64 n, .int .i64 m, .string x, .string y, .int .i64 k, .int .i64 f, .int .i64 l, .string z, .slice pk q ck] 35) := ⟨_, rfl⟩
  have bw0 : w0.heap[w.heap.size]? = some (.cells #[.int .i64 4, .int .i64 n, .int .i64 m, .string x, .string y, .int .i64 k, .int .i64 f, .int .i64 l, .string z, .slice pk q ck] 35 (0, 0)) := by rw [hw0]; exact alloc_new _ _ _
  have kw0 : Kb 0 w w0 := by rw [hw0]; exact kb_alloc _ _ _
  have c0 : w0.cell? ⟨w.heap.size, 0, none⟩ = some (.int .i64 4) := cell_of bw0 rfl
  have c1 : w0.cell? ⟨w.heap.size, 1, none⟩ = some (.int .i64 n) := cell_of bw0 rfl
  have c2 : w0.cell? ⟨w.heap.size, 2, none⟩ = some (.int .i64 m) := cell_of bw0 rfl
  have c3 : w0.cell? ⟨w.heap.size, 3, none⟩ = some (.string x) := cell_of bw0 rfl
  have c4 : w0.cell? ⟨w.heap.size, 4, none⟩ = some (.string y) := cell_of bw0 rfl
  have c5 : w0.cell? ⟨w.heap.size, 5, none⟩ = some (.int .i64 k) := cell_of bw0 rfl
  have c6 : w0.cell? ⟨w.heap.size, 6, none⟩ = some (.int .i64 f) := cell_of bw0 rfl
  have c7 : w0.cell? ⟨w.heap.size, 7, none⟩ = some (.int .i64 l) := cell_of bw0 rfl
  have c8 : w0.cell? ⟨w.heap.size, 8, none⟩ = some (.string z) := cell_of bw0 rfl
  have c9 : w0.cell? ⟨w.heap.size, 9, none⟩ = some (.slice pk q ck) := cell_of bw0 rfl
  have HB : Hid (w0 = _) := hw0
  have HK : Hid (Kb 0 w w0) := kw0
  clear hw0 bw0 kw0
  have HI : Hid (EvP 4 n m x.size y.size q k f l z.size ↔ _) := (evp_4 (n := n) (m := m) (k := k) (f := f) (l := l) (x := x) (y := y) (z := z) (q := q) (by omega) hs : EvP 4 n m x.size y.size q k f l z.size ↔ _)
  obtain ⟨ans, hans⟩ : ∃ ans, ans = dc (EvP 4 n m x.size y.size q k f l z.size) := ⟨_, rfl⟩
  rw [← hans]
  have HA : Hid (ans = dc (EvP 4 n m x.size y.size q k f l z.size)) := hans
  clear hans
  have HZ := sp_l58 (k := k) (f := f) (l := l) (z := z) w0 hz
  rw [dc_t hs] at HZ
  clear hs
  go_enter Try.func11, Try.ntmps11
  go_upto_region 1 with fail
  rw [← (show w0 = _ from HB)]
  clear HB
  go_wp2_with fail
  refine HZ.mono ?_
  rintro e w1 ⟨rfl, k1⟩
  have HF : Hid (Kb 0 w w1) := (show Kb 0 w w0 from HK).trans k1
  have d0 := k1.cell c0
  have d1 := k1.cell c1
  have d2 := k1.cell c2
  have d3 := k1.cell c3
  have d4 := k1.cell c4
  have d5 := k1.cell c5
  have d6 := k1.cell c6
  have d7 := k1.cell c7
  have d8 := k1.cell c8
  have d9 := k1.cell c9
  clear HZ k1 HK c0 c1 c2 c3 c4 c5 c6 c7 c8 c9
  go_upto_region 9 with fail
  by_cases q0 : n = 0
  rotate_left
  · have HN : Hid (ans = false) := ((show ans = _ from HA).trans (dc_f (fun h => q0 (((show _ ↔ _ from HI).1 h).1))) : ans = false)
    have b0 : (n == 0) = false := by simp; omega
    clear q0
    go_wp2_with fail
    go_ret
    exact ⟨by rw [(show ans = false from HN)]; rfl, HF⟩
  have b0 : (n == 0) = true := by simp; omega
  have Q0 : Hid (n = 0) := q0
  clear q0
  by_cases q1 : m = 0
  rotate_left
  · have HN : Hid (ans = false) := ((show ans = _ from HA).trans (dc_f (fun h => q1 (((show _ ↔ _ from HI).1 h).2.1))) : ans = false)
    have b1 : (m == 0) = false := by simp; omega
    clear q1
    go_wp2_with fail
    go_ret
    exact ⟨by rw [(show ans = false from HN)]; rfl, HF⟩
  have b1 : (m == 0) = true := by simp; omega
  have Q1 : Hid (m = 0) := q1
  clear q1
  by_cases q2 : (x.size : Int) ≤ 4000
  rotate_left
  · have HN : Hid (ans = false) := ((show ans = _ from HA).trans (dc_f (fun h => q2 (((show _ ↔ _ from HI).1 h).2.2.1))) : ans = false)
    go_wp2_with fail
    go_ret
    exact ⟨by rw [(show ans = false from HN)]; rfl, HF⟩
  have Q2 : Hid ((x.size : Int) ≤ 4000) := q2
  by_cases q3 : (y.size : Int) ≤ 4000
  rotate_left
  · have HN : Hid (ans = false) := ((show ans = _ from HA).trans (dc_f (fun h => q3 (((show _ ↔ _ from HI).1 h).2.2.2))) : ans = false)
    go_wp2_with fail
    go_ret
    exact ⟨by rw [(show ans = false from HN)]; rfl, HF⟩
  have Q3 : Hid ((y.size : Int) ≤ 4000) := q3
  have HN : Hid (ans = true) := ((show ans = _ from HA).trans (dc_t ((show _ ↔ _ from HI).2 ⟨(show _ from Q0), (show _ from Q1), (show _ from Q2), (show _ from Q3)⟩)) : ans = true)
  go_wp2_with fail
  go_ret
  exact ⟨by rw [(show ans = true from HN)]; rfl, HF⟩
set_option maxHeartbeats 16000000 in
theorem sp_ev_5 {n m k f l : Int} {x y z : ByteArray} {pk : Option Addr} {q ck : Nat} (w : World) (hx : (x.size : Int) ≤ 9223372036854775807) (hy : (y.size : Int) ≤ 9223372036854775807) (hz : (z.size : Int) ≤ 9223372036854775807) (hq : (q : Int) ≤ 9223372036854775807) (hk : ¬ (0 : Int) < (q : Int)) (hs : k = 0 ∧ f = 0 ∧ l = 0 ∧ z.size = 0) :
    Calls Try.prog 11 #[.agg #[.int .i64 5, .int .i64 n, .int .i64 m, .string x, .string y, .int .i64 k, .int .i64 f, .int .i64 l, .string z, .slice pk q ck]] w fun e w' => e = .returned (.bool (dc (EvP 5 n m x.size y.size q k f l z.size))) ∧ Kb 0 w w' := by
  obtain ⟨w0, hw0⟩ : ∃ w0, w0 = w.alloc (.cells #[.int .i64 5, .int .i64 n, .int .i64 m, .string x, .string y, .int .i64 k, .int .i64 f, .int .i64 l, .string z, .slice pk q ck] 35) := ⟨_, rfl⟩
  have bw0 : w0.heap[w.heap.size]? = some (.cells #[.int .i64 5, .int .i64 n, .int .i64 m, .string x, .string y, .int .i64 k, .int .i64 f, .int .i64 l, .string z, .slice pk q ck] 35 (0, 0)) := by rw [hw0]; exact alloc_new _ _ _
  have kw0 : Kb 0 w w0 := by rw [hw0]; exact kb_alloc _ _ _
  have c0 : w0.cell? ⟨w.heap.size, 0, none⟩ = some (.int .i64 5) := cell_of bw0 rfl
  have c1 : w0.cell? ⟨w.heap.size, 1, none⟩ = some (.int .i64 n) := cell_of bw0 rfl
  have c2 : w0.cell? ⟨w.heap.size, 2, none⟩ = some (.int .i64 m) := cell_of bw0 rfl
  have c3 : w0.cell? ⟨w.heap.size, 3, none⟩ = some (.string x) := cell_of bw0 rfl
  have c4 : w0.cell? ⟨w.heap.size, 4, none⟩ = some (.string y) := cell_of bw0 rfl
  have c5 : w0.cell? ⟨w.heap.size, 5, none⟩ = some (.int .i64 k) := cell_of bw0 rfl
  have c6 : w0.cell? ⟨w.heap.size, 6, none⟩ = some (.int .i64 f) := cell_of bw0 rfl
  have c7 : w0.cell? ⟨w.heap.size, 7, none⟩ = some (.int .i64 l) := cell_of bw0 rfl
  have c8 : w0.cell? ⟨w.heap.size, 8, none⟩ = some (.string z) := cell_of bw0 rfl
  have c9 : w0.cell? ⟨w.heap.size, 9, none⟩ = some (.slice pk q ck) := cell_of bw0 rfl
  have HB : Hid (w0 = _) := hw0
  have HK : Hid (Kb 0 w w0) := kw0
  clear hw0 bw0 kw0
  have HI : Hid (EvP 5 n m x.size y.size q k f l z.size ↔ _) := (evp_5 (n := n) (m := m) (k := k) (f := f) (l := l) (x := x) (y := y) (z := z) (q := q) (by omega) hs : EvP 5 n m x.size y.size q k f l z.size ↔ _)
  obtain ⟨ans, hans⟩ : ∃ ans, ans = dc (EvP 5 n m x.size y.size q k f l z.size) := ⟨_, rfl⟩
  rw [← hans]
  have HA : Hid (ans = dc (EvP 5 n m x.size y.size q k f l z.size)) := hans
  clear hans
  have HZ := sp_l58 (k := k) (f := f) (l := l) (z := z) w0 hz
  rw [dc_t hs] at HZ
  clear hs
  go_enter Try.func11, Try.ntmps11
  go_upto_region 1 with fail
  rw [← (show w0 = _ from HB)]
  clear HB
  go_wp2_with fail
  refine HZ.mono ?_
  rintro e w1 ⟨rfl, k1⟩
  have HF : Hid (Kb 0 w w1) := (show Kb 0 w w0 from HK).trans k1
  have d0 := k1.cell c0
  have d1 := k1.cell c1
  have d2 := k1.cell c2
  have d3 := k1.cell c3
  have d4 := k1.cell c4
  have d5 := k1.cell c5
  have d6 := k1.cell c6
  have d7 := k1.cell c7
  have d8 := k1.cell c8
  have d9 := k1.cell c9
  clear HZ k1 HK c0 c1 c2 c3 c4 c5 c6 c7 c8 c9
  go_upto_region 9 with fail
  by_cases q0 : 0 ≤ n
  rotate_left
  · have HN : Hid (ans = false) := ((show ans = _ from HA).trans (dc_f (fun h => q0 (((show _ ↔ _ from HI).1 h).1))) : ans = false)
    go_wp2_with fail
    go_ret
    exact ⟨by rw [(show ans = false from HN)]; rfl, HF⟩
  have Q0 : Hid (0 ≤ n) := q0
  by_cases q1 : n ≤ 1000
  rotate_left
  · have HN : Hid (ans = false) := ((show ans = _ from HA).trans (dc_f (fun h => q1 (((show _ ↔ _ from HI).1 h).2.1))) : ans = false)
    go_wp2_with fail
    go_ret
    exact ⟨by rw [(show ans = false from HN)]; rfl, HF⟩
  have Q1 : Hid (n ≤ 1000) := q1
  by_cases q2 : m = 0
  rotate_left
  · have HN : Hid (ans = false) := ((show ans = _ from HA).trans (dc_f (fun h => q2 (((show _ ↔ _ from HI).1 h).2.2.1))) : ans = false)
    have b2 : (m == 0) = false := by simp; omega
    clear q2
    go_wp2_with fail
    go_ret
    exact ⟨by rw [(show ans = false from HN)]; rfl, HF⟩
  have b2 : (m == 0) = true := by simp; omega
  have Q2 : Hid (m = 0) := q2
  clear q2
  by_cases q3 : x.size = 0
  rotate_left
  · have HN : Hid (ans = false) := ((show ans = _ from HA).trans (dc_f (fun h => q3 (((show _ ↔ _ from HI).1 h).2.2.2.1))) : ans = false)
    have b3 : x.toList.isEmpty = false := se_e q3
    clear q3
    go_wp2_with fail
    go_ret
    exact ⟨by rw [(show ans = false from HN)]; rfl, HF⟩
  have b3 : x.toList.isEmpty = true := (by rw [se_0 q3]; rfl)
  have Q3 : Hid (x.size = 0) := q3
  clear q3
  by_cases q4 : y.size = 0
  rotate_left
  · have HN : Hid (ans = false) := ((show ans = _ from HA).trans (dc_f (fun h => q4 (((show _ ↔ _ from HI).1 h).2.2.2.2))) : ans = false)
    have b4 : y.toList.isEmpty = false := se_e q4
    clear q4
    go_wp2_with fail
    go_ret
    exact ⟨by rw [(show ans = false from HN)]; rfl, HF⟩
  have b4 : y.toList.isEmpty = true := (by rw [se_0 q4]; rfl)
  have Q4 : Hid (y.size = 0) := q4
  clear q4
  have HN : Hid (ans = true) := ((show ans = _ from HA).trans (dc_t ((show _ ↔ _ from HI).2 ⟨(show _ from Q0), (show _ from Q1), (show _ from Q2), (show _ from Q3), (show _ from Q4)⟩)) : ans = true)
  go_wp2_with fail
  go_ret
  exact ⟨by rw [(show ans = true from HN)]; rfl, HF⟩
end Go.Proofs.Ytaoagjajjeddcaa.Fo
