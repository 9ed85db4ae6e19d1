import Derived.Test.YtaoagjajjeddcaaEvd
namespace Go.Proofs.Ytaoagjajjeddcaa.Fo
open Go.ChangeShapes Go.WideShapes Go.ChangeAt Go.RowKit
set_option linter.unusedVariables false
set_option maxRecDepth 100000
set_option maxHeartbeats 16000000 in
theorem im_ev_0 {op n m k f l : Int} {x y z : ByteArray} {pk : Option Addr} {q ck : Nat} {a0 b0 a1 b1 a2 b2 a3 b3 a4 b4 : Int} {sb : Bool} (w : World) (hx : (x.size : Int) ≤ 9223372036854775807) (hy : (y.size : Int) ≤ 9223372036854775807) (hz : (z.size : Int) ≤ 9223372036854775807) (hq : (q : Int) ≤ 9223372036854775807) (HR0 : ∀ W, Calls Try.prog 28 #[.int .i64 op] W fun e w' => e = .returned (.tuple #[.agg #[.int .i64 a0, .int .i64 b0, .int .i64 a1, .int .i64 b1, .int .i64 a2, .int .i64 b2, .int .i64 a3, .int .i64 b3, .int .i64 a4, .int .i64 b4, .bool sb], .bool true]) ∧ Kb 0 W w') (qn : ¬ (a0 ≤ n ∧ n ≤ b0)) :
    Calls Try.prog 13 #[.agg #[.int .i64 op, .int .i64 n, .int .i64 m, .string x, .string y, .int .i64 k, .int .i64 f, .int .i64 l, .string z, .slice pk q ck]] w fun e w' => e = .returned (.bool false) ∧ Kb 0 w w' := by
  obtain ⟨w0, hw0⟩ : ∃ w0, w0 = w.alloc (.cells #[.int .i64 op, .int .i64 n, .int .i64 m, .string x, .string y, .int .i64 k, .int .i64 f, .int .i64 l, .string z, .slice pk q ck] 35) := ⟨_, rfl⟩
  have bw0 : w0.heap[w.heap.size]? = some (.cells #[.int .i64 op, .int .i64 n, .int .i64 m, .string x, .string y, .int .i64 k, .int .i64 f, .int .i64 l, .string z, .slice pk q ck] 35 (0, 0)) := by rw [hw0]; exact alloc_new _ _ _
  have kw0 : Kb 0 w w0 := by rw [hw0]; exact kb_alloc _ _ _
  have c0 : w0.cell? ⟨w.heap.size, 0, none⟩ = some (.int .i64 op) := cell_of bw0 rfl
  have c1 : w0.cell? ⟨w.heap.size, 1, none⟩ = some (.int .i64 n) := cell_of bw0 rfl
  have c2 : w0.cell? ⟨w.heap.size, 2, none⟩ = some (.int .i64 m) := cell_of bw0 rfl
  have c3 : w0.cell? ⟨w.heap.size, 3, none⟩ = some (.string x) := cell_of bw0 rfl
  have c4 : w0.cell? ⟨w.heap.size, 4, none⟩ = some (.string y) := cell_of bw0 rfl
  have c5 : w0.cell? ⟨w.heap.size, 5, none⟩ = some (.int .i64 k) := cell_of bw0 rfl
  have c6 : w0.cell? ⟨w.heap.size, 6, none⟩ = some (.int .i64 f) := cell_of bw0 rfl
  have c7 : w0.cell? ⟨w.heap.size, 7, none⟩ = some (.int .i64 l) := cell_of bw0 rfl
  have c8 : w0.cell? ⟨w.heap.size, 8, none⟩ = some (.string z) := cell_of bw0 rfl
  have c9 : w0.cell? ⟨w.heap.size, 9, none⟩ = some (.slice pk q ck) := cell_of bw0 rfl
  have HB : Hid (w0 = _) := hw0
  have HK : Hid (Kb 0 w w0) := kw0
  clear hw0 bw0 kw0
  have HR := HR0 w0
  have G0 : Hid (∀ W, Calls Try.prog 24 #[.agg #[.int .i64 a0, .int .i64 b0], .int .i64 n] W fun e w' => e = .returned (.bool (dc (a0 ≤ n ∧ n ≤ b0))) ∧ Kb 0 W w') := (fun W => im_holds W : ∀ W, _)
  rw [dc_f qn] at G0
  clear HR0  qn
  go_enter Try.func13, Try.ntmps13
  go_upto_region 1 with fail
  rw [← (show w0 = _ from HB)]
  go_wp2_with fail
  refine HR.mono ?_
  rintro e w1 ⟨rfl, k1⟩
  obtain ⟨w2, hw2⟩ : ∃ w2, w2 = w1.alloc (.cells #[.int .i64 a0, .int .i64 b0, .int .i64 a1, .int .i64 b1, .int .i64 a2, .int .i64 b2, .int .i64 a3, .int .i64 b3, .int .i64 a4, .int .i64 b4, .bool sb] 56) := ⟨_, rfl⟩
  have bw2 : w2.heap[w1.heap.size]? = some (.cells #[.int .i64 a0, .int .i64 b0, .int .i64 a1, .int .i64 b1, .int .i64 a2, .int .i64 b2, .int .i64 a3, .int .i64 b3, .int .i64 a4, .int .i64 b4, .bool sb] 56 (0, 0)) := by rw [hw2]; exact alloc_new _ _ _
  have kw2 : Kb 0 w1 w2 := by rw [hw2]; exact kb_alloc _ _ _
  obtain ⟨R, hR⟩ : ∃ R, R = w1.heap.size := ⟨_, rfl⟩
  rw [← hR] at bw2
  have r0 : w2.cell? ⟨R, 0, none⟩ = some (.int .i64 a0) := cell_of bw2 rfl
  have r1 : w2.cell? ⟨R, 1, none⟩ = some (.int .i64 b0) := cell_of bw2 rfl
  have r2 : w2.cell? ⟨R, 2, none⟩ = some (.int .i64 a1) := cell_of bw2 rfl
  have r3 : w2.cell? ⟨R, 3, none⟩ = some (.int .i64 b1) := cell_of bw2 rfl
  have r4 : w2.cell? ⟨R, 4, none⟩ = some (.int .i64 a2) := cell_of bw2 rfl
  have r5 : w2.cell? ⟨R, 5, none⟩ = some (.int .i64 b2) := cell_of bw2 rfl
  have r6 : w2.cell? ⟨R, 6, none⟩ = some (.int .i64 a3) := cell_of bw2 rfl
  have r7 : w2.cell? ⟨R, 7, none⟩ = some (.int .i64 b3) := cell_of bw2 rfl
  have r8 : w2.cell? ⟨R, 8, none⟩ = some (.int .i64 a4) := cell_of bw2 rfl
  have r9 : w2.cell? ⟨R, 9, none⟩ = some (.int .i64 b4) := cell_of bw2 rfl
  have r10 : w2.cell? ⟨R, 10, none⟩ = some (.bool sb) := cell_of bw2 rfl
  have d0 := (k1.trans kw2).cell c0
  have d1 := (k1.trans kw2).cell c1
  have d2 := (k1.trans kw2).cell c2
  have d3 := (k1.trans kw2).cell c3
  have d4 := (k1.trans kw2).cell c4
  have d5 := (k1.trans kw2).cell c5
  have d6 := (k1.trans kw2).cell c6
  have d7 := (k1.trans kw2).cell c7
  have d8 := (k1.trans kw2).cell c8
  have d9 := (k1.trans kw2).cell c9
  have HK2 : Hid (Kb 0 w w2) := (show Kb 0 w w0 from HK).trans (k1.trans kw2)
  have HW2 : Hid (w2 = w1.alloc (.cells #[.int .i64 a0, .int .i64 b0, .int .i64 a1, .int .i64 b1, .int .i64 a2, .int .i64 b2, .int .i64 a3, .int .i64 b3, .int .i64 a4, .int .i64 b4, .bool sb] 56) ∧ R = w1.heap.size) := (⟨hw2, hR⟩ : _ ∧ _)
  clear HR hw2 bw2 kw2 hR k1 HK HB c0 c1 c2 c3 c4 c5 c6 c7 c8 c9
  go_upto_region 2 with fail
  rw [← (show _ ∧ _ from HW2).1, ← (show _ ∧ _ from HW2).2]
  clear HW2
  go_wp2_with fail
  refine ((show ∀ W, _ from G0) w2).mono ?_
  rintro e w3 ⟨rfl, k3⟩
  have HK3 : Hid (Kb 0 w w3) := (show Kb 0 w w2 from HK2).trans k3
  replace d0 := k3.cell d0
  replace d1 := k3.cell d1
  replace d2 := k3.cell d2
  replace d3 := k3.cell d3
  replace d4 := k3.cell d4
  replace d5 := k3.cell d5
  replace d6 := k3.cell d6
  replace d7 := k3.cell d7
  replace d8 := k3.cell d8
  replace d9 := k3.cell d9
  replace r0 := k3.cell r0
  replace r1 := k3.cell r1
  replace r2 := k3.cell r2
  replace r3 := k3.cell r3
  replace r4 := k3.cell r4
  replace r5 := k3.cell r5
  replace r6 := k3.cell r6
  replace r7 := k3.cell r7
  replace r8 := k3.cell r8
  replace r9 := k3.cell r9
  replace r10 := k3.cell r10
  clear G0 k3 HK2
  go_wp2_with fail
  go_ret
  exact ⟨rfl, HK3⟩
set_option maxHeartbeats 16000000 in
theorem im_ev_1 {op n m k f l : Int} {x y z : ByteArray} {pk : Option Addr} {q ck : Nat} {a0 b0 a1 b1 a2 b2 a3 b3 a4 b4 : Int} {sb : Bool} (w : World) (hx : (x.size : Int) ≤ 9223372036854775807) (hy : (y.size : Int) ≤ 9223372036854775807) (hz : (z.size : Int) ≤ 9223372036854775807) (hq : (q : Int) ≤ 9223372036854775807) (HR0 : ∀ W, Calls Try.prog 28 #[.int .i64 op] W fun e w' => e = .returned (.tuple #[.agg #[.int .i64 a0, .int .i64 b0, .int .i64 a1, .int .i64 b1, .int .i64 a2, .int .i64 b2, .int .i64 a3, .int .i64 b3, .int .i64 a4, .int .i64 b4, .bool sb], .bool true]) ∧ Kb 0 W w') (q0 : (a0 ≤ n ∧ n ≤ b0)) (qn : ¬ (a1 ≤ m ∧ m ≤ b1)) :
    Calls Try.prog 13 #[.agg #[.int .i64 op, .int .i64 n, .int .i64 m, .string x, .string y, .int .i64 k, .int .i64 f, .int .i64 l, .string z, .slice pk q ck]] w fun e w' => e = .returned (.bool false) ∧ Kb 0 w w' := by
  obtain ⟨w0, hw0⟩ : ∃ w0, w0 = w.alloc (.cells #[.int .i64 op, .int .i64 n, .int .i64 m, .string x, .string y, .int .i64 k, .int .i64 f, .int .i64 l, .string z, .slice pk q ck] 35) := ⟨_, rfl⟩
  have bw0 : w0.heap[w.heap.size]? = some (.cells #[.int .i64 op, .int .i64 n, .int .i64 m, .string x, .string y, .int .i64 k, .int .i64 f, .int .i64 l, .string z, .slice pk q ck] 35 (0, 0)) := by rw [hw0]; exact alloc_new _ _ _
  have kw0 : Kb 0 w w0 := by rw [hw0]; exact kb_alloc _ _ _
  have c0 : w0.cell? ⟨w.heap.size, 0, none⟩ = some (.int .i64 op) := cell_of bw0 rfl
  have c1 : w0.cell? ⟨w.heap.size, 1, none⟩ = some (.int .i64 n) := cell_of bw0 rfl
  have c2 : w0.cell? ⟨w.heap.size, 2, none⟩ = some (.int .i64 m) := cell_of bw0 rfl
  have c3 : w0.cell? ⟨w.heap.size, 3, none⟩ = some (.string x) := cell_of bw0 rfl
  have c4 : w0.cell? ⟨w.heap.size, 4, none⟩ = some (.string y) := cell_of bw0 rfl
  have c5 : w0.cell? ⟨w.heap.size, 5, none⟩ = some (.int .i64 k) := cell_of bw0 rfl
  have c6 : w0.cell? ⟨w.heap.size, 6, none⟩ = some (.int .i64 f) := cell_of bw0 rfl
  have c7 : w0.cell? ⟨w.heap.size, 7, none⟩ = some (.int .i64 l) := cell_of bw0 rfl
  have c8 : w0.cell? ⟨w.heap.size, 8, none⟩ = some (.string z) := cell_of bw0 rfl
  have c9 : w0.cell? ⟨w.heap.size, 9, none⟩ = some (.slice pk q ck) := cell_of bw0 rfl
  have HB : Hid (w0 = _) := hw0
  have HK : Hid (Kb 0 w w0) := kw0
  clear hw0 bw0 kw0
  have HR := HR0 w0
  have G0 : Hid (∀ W, Calls Try.prog 24 #[.agg #[.int .i64 a0, .int .i64 b0], .int .i64 n] W fun e w' => e = .returned (.bool (dc (a0 ≤ n ∧ n ≤ b0))) ∧ Kb 0 W w') := (fun W => im_holds W : ∀ W, _)
  rw [dc_t q0] at G0
  have G1 : Hid (∀ W, Calls Try.prog 24 #[.agg #[.int .i64 a1, .int .i64 b1], .int .i64 m] W fun e w' => e = .returned (.bool (dc (a1 ≤ m ∧ m ≤ b1))) ∧ Kb 0 W w') := (fun W => im_holds W : ∀ W, _)
  rw [dc_f qn] at G1
  clear HR0 q0 qn
  go_enter Try.func13, Try.ntmps13
  go_upto_region 1 with fail
  rw [← (show w0 = _ from HB)]
  go_wp2_with fail
  refine HR.mono ?_
  rintro e w1 ⟨rfl, k1⟩
  obtain ⟨w2, hw2⟩ : ∃ w2, w2 = w1.alloc (.cells #[.int .i64 a0, .int .i64 b0, .int .i64 a1, .int .i64 b1, .int .i64 a2, .int .i64 b2, .int .i64 a3, .int .i64 b3, .int .i64 a4, .int .i64 b4, .bool sb] 56) := ⟨_, rfl⟩
  have bw2 : w2.heap[w1.heap.size]? = some (.cells #[.int .i64 a0, .int .i64 b0, .int .i64 a1, .int .i64 b1, .int .i64 a2, .int .i64 b2, .int .i64 a3, .int .i64 b3, .int .i64 a4, .int .i64 b4, .bool sb] 56 (0, 0)) := by rw [hw2]; exact alloc_new _ _ _
  have kw2 : Kb 0 w1 w2 := by rw [hw2]; exact kb_alloc _ _ _
  obtain ⟨R, hR⟩ : ∃ R, R = w1.heap.size := ⟨_, rfl⟩
  rw [← hR] at bw2
  have r0 : w2.cell? ⟨R, 0, none⟩ = some (.int .i64 a0) := cell_of bw2 rfl
  have r1 : w2.cell? ⟨R, 1, none⟩ = some (.int .i64 b0) := cell_of bw2 rfl
  have r2 : w2.cell? ⟨R, 2, none⟩ = some (.int .i64 a1) := cell_of bw2 rfl
  have r3 : w2.cell? ⟨R, 3, none⟩ = some (.int .i64 b1) := cell_of bw2 rfl
  have r4 : w2.cell? ⟨R, 4, none⟩ = some (.int .i64 a2) := cell_of bw2 rfl
  have r5 : w2.cell? ⟨R, 5, none⟩ = some (.int .i64 b2) := cell_of bw2 rfl
  have r6 : w2.cell? ⟨R, 6, none⟩ = some (.int .i64 a3) := cell_of bw2 rfl
  have r7 : w2.cell? ⟨R, 7, none⟩ = some (.int .i64 b3) := cell_of bw2 rfl
  have r8 : w2.cell? ⟨R, 8, none⟩ = some (.int .i64 a4) := cell_of bw2 rfl
  have r9 : w2.cell? ⟨R, 9, none⟩ = some (.int .i64 b4) := cell_of bw2 rfl
  have r10 : w2.cell? ⟨R, 10, none⟩ = some (.bool sb) := cell_of bw2 rfl
  have d0 := (k1.trans kw2).cell c0
  have d1 := (k1.trans kw2).cell c1
  have d2 := (k1.trans kw2).cell c2
  have d3 := (k1.trans kw2).cell c3
  have d4 := (k1.trans kw2).cell c4
  have d5 := (k1.trans kw2).cell c5
  have d6 := (k1.trans kw2).cell c6
  have d7 := (k1.trans kw2).cell c7
  have d8 := (k1.trans kw2).cell c8
  have d9 := (k1.trans kw2).cell c9
  have HK2 : Hid (Kb 0 w w2) := (show Kb 0 w w0 from HK).trans (k1.trans kw2)
  have HW2 : Hid (w2 = w1.alloc (.cells #[.int .i64 a0, .int .i64 b0, .int .i64 a1, .int .i64 b1, .int .i64 a2, .int .i64 b2, .int .i64 a3, .int .i64 b3, .int .i64 a4, .int .i64 b4, .bool sb] 56) ∧ R = w1.heap.size) := (⟨hw2, hR⟩ : _ ∧ _)
  clear HR hw2 bw2 kw2 hR k1 HK HB c0 c1 c2 c3 c4 c5 c6 c7 c8 c9
  go_upto_region 2 with fail
  rw [← (show _ ∧ _ from HW2).1, ← (show _ ∧ _ from HW2).2]
  clear HW2
  go_wp2_with fail
  refine ((show ∀ W, _ from G0) w2).mono ?_
  rintro e w3 ⟨rfl, k3⟩
  have HK3 : Hid (Kb 0 w w3) := (show Kb 0 w w2 from HK2).trans k3
  replace d0 := k3.cell d0
  replace d1 := k3.cell d1
  replace d2 := k3.cell d2
  replace d3 := k3.cell d3
  replace d4 := k3.cell d4
  replace d5 := k3.cell d5
  replace d6 := k3.cell d6
  replace d7 := k3.cell d7
  replace d8 := k3.cell d8
  replace d9 := k3.cell d9
  replace r0 := k3.cell r0
  replace r1 := k3.cell r1
  replace r2 := k3.cell r2
  replace r3 := k3.cell r3
  replace r4 := k3.cell r4
  replace r5 := k3.cell r5
  replace r6 := k3.cell r6
  replace r7 := k3.cell r7
  replace r8 := k3.cell r8
  replace r9 := k3.cell r9
  replace r10 := k3.cell r10
  clear G0 k3 HK2
  go_wp2_with fail
  refine ((show ∀ W, _ from G1) w3).mono ?_
  rintro e w4 ⟨rfl, k4⟩
  have HK4 : Hid (Kb 0 w w4) := (show Kb 0 w w3 from HK3).trans k4
  replace d0 := k4.cell d0
  replace d1 := k4.cell d1
  replace d2 := k4.cell d2
  replace d3 := k4.cell d3
  replace d4 := k4.cell d4
  replace d5 := k4.cell d5
  replace d6 := k4.cell d6
  replace d7 := k4.cell d7
  replace d8 := k4.cell d8
  replace d9 := k4.cell d9
  replace r0 := k4.cell r0
  replace r1 := k4.cell r1
  replace r2 := k4.cell r2
  replace r3 := k4.cell r3
  replace r4 := k4.cell r4
  replace r5 := k4.cell r5
  replace r6 := k4.cell r6
  replace r7 := k4.cell r7
  replace r8 := k4.cell r8
  replace r9 := k4.cell r9
  replace r10 := k4.cell r10
  clear G1 k4 HK3
  go_wp2_with fail
  go_ret
  exact ⟨rfl, HK4⟩
set_option maxHeartbeats 16000000 in
theorem im_ev_2 {op n m k f l : Int} {x y z : ByteArray} {pk : Option Addr} {q ck : Nat} {a0 b0 a1 b1 a2 b2 a3 b3 a4 b4 : Int} {sb : Bool} (w : World) (hx : (x.size : Int) ≤ 9223372036854775807) (hy : (y.size : Int) ≤ 9223372036854775807) (hz : (z.size : Int) ≤ 9223372036854775807) (hq : (q : Int) ≤ 9223372036854775807) (HR0 : ∀ W, Calls Try.prog 28 #[.int .i64 op] W fun e w' => e = .returned (.tuple #[.agg #[.int .i64 a0, .int .i64 b0, .int .i64 a1, .int .i64 b1, .int .i64 a2, .int .i64 b2, .int .i64 a3, .int .i64 b3, .int .i64 a4, .int .i64 b4, .bool sb], .bool true]) ∧ Kb 0 W w') (q0 : (a0 ≤ n ∧ n ≤ b0)) (q1 : (a1 ≤ m ∧ m ≤ b1)) (qn : ¬ (a2 ≤ (x.size : Int) ∧ (x.size : Int) ≤ b2)) :
    Calls Try.prog 13 #[.agg #[.int .i64 op, .int .i64 n, .int .i64 m, .string x, .string y, .int .i64 k, .int .i64 f, .int .i64 l, .string z, .slice pk q ck]] w fun e w' => e = .returned (.bool false) ∧ Kb 0 w w' := by
  obtain ⟨w0, hw0⟩ : ∃ w0, w0 = w.alloc (.cells #[.int .i64 op, .int .i64 n, .int .i64 m, .string x, .string y, .int .i64 k, .int .i64 f, .int .i64 l, .string z, .slice pk q ck] 35) := ⟨_, rfl⟩
  have bw0 : w0.heap[w.heap.size]? = some (.cells #[.int .i64 op, .int .i64 n, .int .i64 m, .string x, .string y, .int .i64 k, .int .i64 f, .int .i64 l, .string z, .slice pk q ck] 35 (0, 0)) := by rw [hw0]; exact alloc_new _ _ _
  have kw0 : Kb 0 w w0 := by rw [hw0]; exact kb_alloc _ _ _
  have c0 : w0.cell? ⟨w.heap.size, 0, none⟩ = some (.int .i64 op) := cell_of bw0 rfl
  have c1 : w0.cell? ⟨w.heap.size, 1, none⟩ = some (.int .i64 n) := cell_of bw0 rfl
  have c2 : w0.cell? ⟨w.heap.size, 2, none⟩ = some (.int .i64 m) := cell_of bw0 rfl
  have c3 : w0.cell? ⟨w.heap.size, 3, none⟩ = some (.string x) := cell_of bw0 rfl
  have c4 : w0.cell? ⟨w.heap.size, 4, none⟩ = some (.string y) := cell_of bw0 rfl
  have c5 : w0.cell? ⟨w.heap.size, 5, none⟩ = some (.int .i64 k) := cell_of bw0 rfl
  have c6 : w0.cell? ⟨w.heap.size, 6, none⟩ = some (.int .i64 f) := cell_of bw0 rfl
  have c7 : w0.cell? ⟨w.heap.size, 7, none⟩ = some (.int .i64 l) := cell_of bw0 rfl
  have c8 : w0.cell? ⟨w.heap.size, 8, none⟩ = some (.string z) := cell_of bw0 rfl
  have c9 : w0.cell? ⟨w.heap.size, 9, none⟩ = some (.slice pk q ck) := cell_of bw0 rfl
  have HB : Hid (w0 = _) := hw0
  have HK : Hid (Kb 0 w w0) := kw0
  clear hw0 bw0 kw0
  have HR := HR0 w0
  have G0 : Hid (∀ W, Calls Try.prog 24 #[.agg #[.int .i64 a0, .int .i64 b0], .int .i64 n] W fun e w' => e = .returned (.bool (dc (a0 ≤ n ∧ n ≤ b0))) ∧ Kb 0 W w') := (fun W => im_holds W : ∀ W, _)
  rw [dc_t q0] at G0
  have G1 : Hid (∀ W, Calls Try.prog 24 #[.agg #[.int .i64 a1, .int .i64 b1], .int .i64 m] W fun e w' => e = .returned (.bool (dc (a1 ≤ m ∧ m ≤ b1))) ∧ Kb 0 W w') := (fun W => im_holds W : ∀ W, _)
  rw [dc_t q1] at G1
  have G2 : Hid (∀ W, Calls Try.prog 24 #[.agg #[.int .i64 a2, .int .i64 b2], .int .i64 (x.size : Int)] W fun e w' => e = .returned (.bool (dc (a2 ≤ (x.size : Int) ∧ (x.size : Int) ≤ b2))) ∧ Kb 0 W w') := (fun W => im_holds W : ∀ W, _)
  rw [dc_f qn] at G2
  clear HR0 q0 q1 qn
  go_enter Try.func13, Try.ntmps13
  go_upto_region 1 with fail
  rw [← (show w0 = _ from HB)]
  go_wp2_with fail
  refine HR.mono ?_
  rintro e w1 ⟨rfl, k1⟩
  obtain ⟨w2, hw2⟩ : ∃ w2, w2 = w1.alloc (.cells #[.int .i64 a0, .int .i64 b0, .int .i64 a1, .int .i64 b1, .int .i64 a2, .int .i64 b2, .int .i64 a3, .int .i64 b3, .int .i64 a4, .int .i64 b4, .bool sb] 56) := ⟨_, rfl⟩
  have bw2 : w2.heap[w1.heap.size]? = some (.cells #[.int .i64 a0, .int .i64 b0, .int .i64 a1, .int .i64 b1, .int .i64 a2, .int .i64 b2, .int .i64 a3, .int .i64 b3, .int .i64 a4, .int .i64 b4, .bool sb] 56 (0, 0)) := by rw [hw2]; exact alloc_new _ _ _
  have kw2 : Kb 0 w1 w2 := by rw [hw2]; exact kb_alloc _ _ _
  obtain ⟨R, hR⟩ : ∃ R, R = w1.heap.size := ⟨_, rfl⟩
  rw [← hR] at bw2
  have r0 : w2.cell? ⟨R, 0, none⟩ = some (.int .i64 a0) := cell_of bw2 rfl
  have r1 : w2.cell? ⟨R, 1, none⟩ = some (.int .i64 b0) := cell_of bw2 rfl
  have r2 : w2.cell? ⟨R, 2, none⟩ = some (.int .i64 a1) := cell_of bw2 rfl
  have r3 : w2.cell? ⟨R, 3, none⟩ = some (.int .i64 b1) := cell_of bw2 rfl
  have r4 : w2.cell? ⟨R, 4, none⟩ = some (.int .i64 a2) := cell_of bw2 rfl
  have r5 : w2.cell? ⟨R, 5, none⟩ = some (.int .i64 b2) := cell_of bw2 rfl
  have r6 : w2.cell? ⟨R, 6, none⟩ = some (.int .i64 a3) := cell_of bw2 rfl
  have r7 : w2.cell? ⟨R, 7, none⟩ = some (.int .i64 b3) := cell_of bw2 rfl
  have r8 : w2.cell? ⟨R, 8, none⟩ = some (.int .i64 a4) := cell_of bw2 rfl
  have r9 : w2.cell? ⟨R, 9, none⟩ = some (.int .i64 b4) := cell_of bw2 rfl
  have r10 : w2.cell? ⟨R, 10, none⟩ = some (.bool sb) := cell_of bw2 rfl
  have d0 := (k1.trans kw2).cell c0
  have d1 := (k1.trans kw2).cell c1
  have d2 := (k1.trans kw2).cell c2
  have d3 := (k1.trans kw2).cell c3
  have d4 := (k1.trans kw2).cell c4
  have d5 := (k1.trans kw2).cell c5
  have d6 := (k1.trans kw2).cell c6
  have d7 := (k1.trans kw2).cell c7
  have d8 := (k1.trans kw2).cell c8
  have d9 := (k1.trans kw2).cell c9
  have HK2 : Hid (Kb 0 w w2) := (show Kb 0 w w0 from HK).trans (k1.trans kw2)
  have HW2 : Hid (w2 = w1.alloc (.cells #[.int .i64 a0, .int .i64 b0, .int .i64 a1, .int .i64 b1, .int .i64 a2, .int .i64 b2, .int .i64 a3, .int .i64 b3, .int .i64 a4, .int .i64 b4, .bool sb] 56) ∧ R = w1.heap.size) := (⟨hw2, hR⟩ : _ ∧ _)
  clear HR hw2 bw2 kw2 hR k1 HK HB c0 c1 c2 c3 c4 c5 c6 c7 c8 c9
  go_upto_region 2 with fail
  rw [← (show _ ∧ _ from HW2).1, ← (show _ ∧ _ from HW2).2]
  clear HW2
  go_wp2_with fail
  refine ((show ∀ W, _ from G0) w2).mono ?_
  rintro e w3 ⟨rfl, k3⟩
  have HK3 : Hid (Kb 0 w w3) := (show Kb 0 w w2 from HK2).trans k3
  replace d0 := k3.cell d0
  replace d1 := k3.cell d1
  replace d2 := k3.cell d2
  replace d3 := k3.cell d3
  replace d4 := k3.cell d4
  replace d5 := k3.cell d5
  replace d6 := k3.cell d6
  replace d7 := k3.cell d7
  replace d8 := k3.cell d8
  replace d9 := k3.cell d9
  replace r0 := k3.cell r0
  replace r1 := k3.cell r1
  replace r2 := k3.cell r2
  replace r3 := k3.cell r3
  replace r4 := k3.cell r4
  replace r5 := k3.cell r5
  replace r6 := k3.cell r6
  replace r7 := k3.cell r7
  replace r8 := k3.cell r8
  replace r9 := k3.cell r9
  replace r10 := k3.cell r10
  clear G0 k3 HK2
  go_wp2_with fail
  refine ((show ∀ W, _ from G1) w3).mono ?_
  rintro e w4 ⟨rfl, k4⟩
  have HK4 : Hid (Kb 0 w w4) := (show Kb 0 w w3 from HK3).trans k4
  replace d0 := k4.cell d0
  replace d1 := k4.cell d1
  replace d2 := k4.cell d2
  replace d3 := k4.cell d3
  replace d4 := k4.cell d4
  replace d5 := k4.cell d5
  replace d6 := k4.cell d6
  replace d7 := k4.cell d7
  replace d8 := k4.cell d8
  replace d9 := k4.cell d9
  replace r0 := k4.cell r0
  replace r1 := k4.cell r1
  replace r2 := k4.cell r2
  replace r3 := k4.cell r3
  replace r4 := k4.cell r4
  replace r5 := k4.cell r5
  replace r6 := k4.cell r6
  replace r7 := k4.cell r7
  replace r8 := k4.cell r8
  replace r9 := k4.cell r9
  replace r10 := k4.cell r10
  clear G1 k4 HK3
  go_wp2_with fail
  refine ((show ∀ W, _ from G2) w4).mono ?_
  rintro e w5 ⟨rfl, k5⟩
  have HK5 : Hid (Kb 0 w w5) := (show Kb 0 w w4 from HK4).trans k5
  replace d0 := k5.cell d0
  replace d1 := k5.cell d1
  replace d2 := k5.cell d2
  replace d3 := k5.cell d3
  replace d4 := k5.cell d4
  replace d5 := k5.cell d5
  replace d6 := k5.cell d6
  replace d7 := k5.cell d7
  replace d8 := k5.cell d8
  replace d9 := k5.cell d9
  replace r0 := k5.cell r0
  replace r1 := k5.cell r1
  replace r2 := k5.cell r2
  replace r3 := k5.cell r3
  replace r4 := k5.cell r4
  replace r5 := k5.cell r5
  replace r6 := k5.cell r6
  replace r7 := k5.cell r7
  replace r8 := k5.cell r8
  replace r9 := k5.cell r9
  replace r10 := k5.cell r10
  clear G2 k5 HK4
  go_wp2_with fail
  go_ret
  exact ⟨rfl, HK5⟩
set_option maxHeartbeats 16000000 in
theorem im_ev_3 {op n m k f l : Int} {x y z : ByteArray} {pk : Option Addr} {q ck : Nat} {a0 b0 a1 b1 a2 b2 a3 b3 a4 b4 : Int} {sb : Bool} (w : World) (hx : (x.size : Int) ≤ 9223372036854775807) (hy : (y.size : Int) ≤ 9223372036854775807) (hz : (z.size : Int) ≤ 9223372036854775807) (hq : (q : Int) ≤ 9223372036854775807) (HR0 : ∀ W, Calls Try.prog 28 #[.int .i64 op] W fun e w' => e = .returned (.tuple #[.agg #[.int .i64 a0, .int .i64 b0, .int .i64 a1, .int .i64 b1, .int .i64 a2, .int .i64 b2, .int .i64 a3, .int .i64 b3, .int .i64 a4, .int .i64 b4, .bool sb], .bool true]) ∧ Kb 0 W w') (q0 : (a0 ≤ n ∧ n ≤ b0)) (q1 : (a1 ≤ m ∧ m ≤ b1)) (q2 : (a2 ≤ (x.size : Int) ∧ (x.size : Int) ≤ b2)) (qn : ¬ (a3 ≤ (y.size : Int) ∧ (y.size : Int) ≤ b3)) :
    Calls Try.prog 13 #[.agg #[.int .i64 op, .int .i64 n, .int .i64 m, .string x, .string y, .int .i64 k, .int .i64 f, .int .i64 l, .string z, .slice pk q ck]] w fun e w' => e = .returned (.bool false) ∧ Kb 0 w w' := by
  obtain ⟨w0, hw0⟩ : ∃ w0, w0 = w.alloc (.cells #[.int .i64 op, .int .i64 n, .int .i64 m, .string x, .string y, .int .i64 k, .int .i64 f, .int .i64 l, .string z, .slice pk q ck] 35) := ⟨_, rfl⟩
  have bw0 : w0.heap[w.heap.size]? = some (.cells #[.int .i64 op, .int .i64 n, .int .i64 m, .string x, .string y, .int .i64 k, .int .i64 f, .int .i64 l, .string z, .slice pk q ck] 35 (0, 0)) := by rw [hw0]; exact alloc_new _ _ _
  have kw0 : Kb 0 w w0 := by rw [hw0]; exact kb_alloc _ _ _
  have c0 : w0.cell? ⟨w.heap.size, 0, none⟩ = some (.int .i64 op) := cell_of bw0 rfl
  have c1 : w0.cell? ⟨w.heap.size, 1, none⟩ = some (.int .i64 n) := cell_of bw0 rfl
  have c2 : w0.cell? ⟨w.heap.size, 2, none⟩ = some (.int .i64 m) := cell_of bw0 rfl
  have c3 : w0.cell? ⟨w.heap.size, 3, none⟩ = some (.string x) := cell_of bw0 rfl
  have c4 : w0.cell? ⟨w.heap.size, 4, none⟩ = some (.string y) := cell_of bw0 rfl
  have c5 : w0.cell? ⟨w.heap.size, 5, none⟩ = some (.int .i64 k) := cell_of bw0 rfl
  have c6 : w0.cell? ⟨w.heap.size, 6, none⟩ = some (.int .i64 f) := cell_of bw0 rfl
  have c7 : w0.cell? ⟨w.heap.size, 7, none⟩ = some (.int .i64 l) := cell_of bw0 rfl
  have c8 : w0.cell? ⟨w.heap.size, 8, none⟩ = some (.string z) := cell_of bw0 rfl
  have c9 : w0.cell? ⟨w.heap.size, 9, none⟩ = some (.slice pk q ck) := cell_of bw0 rfl
  have HB : Hid (w0 = _) := hw0
  have HK : Hid (Kb 0 w w0) := kw0
  clear hw0 bw0 kw0
  have HR := HR0 w0
  have G0 : Hid (∀ W, Calls Try.prog 24 #[.agg #[.int .i64 a0, .int .i64 b0], .int .i64 n] W fun e w' => e = .returned (.bool (dc (a0 ≤ n ∧ n ≤ b0))) ∧ Kb 0 W w') := (fun W => im_holds W : ∀ W, _)
  rw [dc_t q0] at G0
  have G1 : Hid (∀ W, Calls Try.prog 24 #[.agg #[.int .i64 a1, .int .i64 b1], .int .i64 m] W fun e w' => e = .returned (.bool (dc (a1 ≤ m ∧ m ≤ b1))) ∧ Kb 0 W w') := (fun W => im_holds W : ∀ W, _)
  rw [dc_t q1] at G1
  have G2 : Hid (∀ W, Calls Try.prog 24 #[.agg #[.int .i64 a2, .int .i64 b2], .int .i64 (x.size : Int)] W fun e w' => e = .returned (.bool (dc (a2 ≤ (x.size : Int) ∧ (x.size : Int) ≤ b2))) ∧ Kb 0 W w') := (fun W => im_holds W : ∀ W, _)
  rw [dc_t q2] at G2
  have G3 : Hid (∀ W, Calls Try.prog 24 #[.agg #[.int .i64 a3, .int .i64 b3], .int .i64 (y.size : Int)] W fun e w' => e = .returned (.bool (dc (a3 ≤ (y.size : Int) ∧ (y.size : Int) ≤ b3))) ∧ Kb 0 W w') := (fun W => im_holds W : ∀ W, _)
  rw [dc_f qn] at G3
  clear HR0 q0 q1 q2 qn
  go_enter Try.func13, Try.ntmps13
  go_upto_region 1 with fail
  rw [← (show w0 = _ from HB)]
  go_wp2_with fail
  refine HR.mono ?_
  rintro e w1 ⟨rfl, k1⟩
  obtain ⟨w2, hw2⟩ : ∃ w2, w2 = w1.alloc (.cells #[.int .i64 a0, .int .i64 b0, .int .i64 a1, .int .i64 b1, .int .i64 a2, .int .i64 b2, .int .i64 a3, .int .i64 b3, .int .i64 a4, .int .i64 b4, .bool sb] 56) := ⟨_, rfl⟩
  have bw2 : w2.heap[w1.heap.size]? = some (.cells #[.int .i64 a0, .int .i64 b0, .int .i64 a1, .int .i64 b1, .int .i64 a2, .int .i64 b2, .int .i64 a3, .int .i64 b3, .int .i64 a4, .int .i64 b4, .bool sb] 56 (0, 0)) := by rw [hw2]; exact alloc_new _ _ _
  have kw2 : Kb 0 w1 w2 := by rw [hw2]; exact kb_alloc _ _ _
  obtain ⟨R, hR⟩ : ∃ R, R = w1.heap.size := ⟨_, rfl⟩
  rw [← hR] at bw2
  have r0 : w2.cell? ⟨R, 0, none⟩ = some (.int .i64 a0) := cell_of bw2 rfl
  have r1 : w2.cell? ⟨R, 1, none⟩ = some (.int .i64 b0) := cell_of bw2 rfl
  have r2 : w2.cell? ⟨R, 2, none⟩ = some (.int .i64 a1) := cell_of bw2 rfl
  have r3 : w2.cell? ⟨R, 3, none⟩ = some (.int .i64 b1) := cell_of bw2 rfl
  have r4 : w2.cell? ⟨R, 4, none⟩ = some (.int .i64 a2) := cell_of bw2 rfl
  have r5 : w2.cell? ⟨R, 5, none⟩ = some (.int .i64 b2) := cell_of bw2 rfl
  have r6 : w2.cell? ⟨R, 6, none⟩ = some (.int .i64 a3) := cell_of bw2 rfl
  have r7 : w2.cell? ⟨R, 7, none⟩ = some (.int .i64 b3) := cell_of bw2 rfl
  have r8 : w2.cell? ⟨R, 8, none⟩ = some (.int .i64 a4) := cell_of bw2 rfl
  have r9 : w2.cell? ⟨R, 9, none⟩ = some (.int .i64 b4) := cell_of bw2 rfl
  have r10 : w2.cell? ⟨R, 10, none⟩ = some (.bool sb) := cell_of bw2 rfl
  have d0 := (k1.trans kw2).cell c0
  have d1 := (k1.trans kw2).cell c1
  have d2 := (k1.trans kw2).cell c2
  have d3 := (k1.trans kw2).cell c3
  have d4 := (k1.trans kw2).cell c4
  have d5 := (k1.trans kw2).cell c5
  have d6 := (k1.trans kw2).cell c6
  have d7 := (k1.trans kw2).cell c7
  have d8 := (k1.trans kw2).cell c8
  have d9 := (k1.trans kw2).cell c9
  have HK2 : Hid (Kb 0 w w2) := (show Kb 0 w w0 from HK).trans (k1.trans kw2)
  have HW2 : Hid (w2 = w1.alloc (.cells #[.int .i64 a0, .int .i64 b0, .int .i64 a1, .int .i64 b1, .int .i64 a2, .int .i64 b2, .int .i64 a3, .int .i64 b3, .int .i64 a4, .int .i64 b4, .bool sb] 56) ∧ R = w1.heap.size) := (⟨hw2, hR⟩ : _ ∧ _)
  clear HR hw2 bw2 kw2 hR k1 HK HB c0 c1 c2 c3 c4 c5 c6 c7 c8 c9
  go_upto_region 2 with fail
  rw [← (show _ ∧ _ from HW2).1, ← (show _ ∧ _ from HW2).2]
  clear HW2
  go_wp2_with fail
  refine ((show ∀ W, _ from G0) w2).mono ?_
  rintro e w3 ⟨rfl, k3⟩
  have HK3 : Hid (Kb 0 w w3) := (show Kb 0 w w2 from HK2).trans k3
  replace d0 := k3.cell d0
  replace d1 := k3.cell d1
  replace d2 := k3.cell d2
  replace d3 := k3.cell d3
  replace d4 := k3.cell d4
  replace d5 := k3.cell d5
  replace d6 := k3.cell d6
  replace d7 := k3.cell d7
  replace d8 := k3.cell d8
  replace d9 := k3.cell d9
  replace r0 := k3.cell r0
  replace r1 := k3.cell r1
  replace r2 := k3.cell r2
  replace r3 := k3.cell r3
  replace r4 := k3.cell r4
  replace r5 := k3.cell r5
  replace r6 := k3.cell r6
  replace r7 := k3.cell r7
  replace r8 := k3.cell r8
  replace r9 := k3.cell r9
  replace r10 := k3.cell r10
  clear G0 k3 HK2
  go_wp2_with fail
  refine ((show ∀ W, _ from G1) w3).mono ?_
  rintro e w4 ⟨rfl, k4⟩
  have HK4 : Hid (Kb 0 w w4) := (show Kb 0 w w3 from HK3).trans k4
  replace d0 := k4.cell d0
  replace d1 := k4.cell d1
  replace d2 := k4.cell d2
  replace d3 := k4.cell d3
  replace d4 := k4.cell d4
  replace d5 := k4.cell d5
  replace d6 := k4.cell d6
  replace d7 := k4.cell d7
  replace d8 := k4.cell d8
  replace d9 := k4.cell d9
  replace r0 := k4.cell r0
  replace r1 := k4.cell r1
  replace r2 := k4.cell r2
  replace r3 := k4.cell r3
  replace r4 := k4.cell r4
  replace r5 := k4.cell r5
  replace r6 := k4.cell r6
  replace r7 := k4.cell r7
  replace r8 := k4.cell r8
  replace r9 := k4.cell r9
  replace r10 := k4.cell r10
  clear G1 k4 HK3
  go_wp2_with fail
  refine ((show ∀ W, _ from G2) w4).mono ?_
  rintro e w5 ⟨rfl, k5⟩
  have HK5 : Hid (Kb 0 w w5) := (show Kb 0 w w4 from HK4).trans k5
  replace d0 := k5.cell d0
  replace d1 := k5.cell d1
  replace d2 := k5.cell d2
  replace d3 := k5.cell d3
  replace d4 := k5.cell d4
  replace d5 := k5.cell d5
  replace d6 := k5.cell d6
  replace d7 := k5.cell d7
  replace d8 := k5.cell d8
  replace d9 := k5.cell d9
  replace r0 := k5.cell r0
  replace r1 := k5.cell r1
  replace r2 := k5.cell r2
  replace r3 := k5.cell r3
  replace r4 := k5.cell r4
  replace r5 := k5.cell r5
  replace r6 := k5.cell r6
  replace r7 := k5.cell r7
  replace r8 := k5.cell r8
  replace r9 := k5.cell r9
  replace r10 := k5.cell r10
  clear G2 k5 HK4
  go_wp2_with fail
  refine ((show ∀ W, _ from G3) w5).mono ?_
  rintro e w6 ⟨rfl, k6⟩
  have HK6 : Hid (Kb 0 w w6) := (show Kb 0 w w5 from HK5).trans k6
  replace d0 := k6.cell d0
  replace d1 := k6.cell d1
  replace d2 := k6.cell d2
  replace d3 := k6.cell d3
  replace d4 := k6.cell d4
  replace d5 := k6.cell d5
  replace d6 := k6.cell d6
  replace d7 := k6.cell d7
  replace d8 := k6.cell d8
  replace d9 := k6.cell d9
  replace r0 := k6.cell r0
  replace r1 := k6.cell r1
  replace r2 := k6.cell r2
  replace r3 := k6.cell r3
  replace r4 := k6.cell r4
  replace r5 := k6.cell r5
  replace r6 := k6.cell r6
  replace r7 := k6.cell r7
  replace r8 := k6.cell r8
  replace r9 := k6.cell r9
  replace r10 := k6.cell r10
  clear G3 k6 HK5
  go_wp2_with fail
  go_ret
  exact ⟨rfl, HK6⟩
set_option maxHeartbeats 16000000 in
theorem im_ev_4 {op n m k f l : Int} {x y z : ByteArray} {pk : Option Addr} {q ck : Nat} {a0 b0 a1 b1 a2 b2 a3 b3 a4 b4 : Int} {sb : Bool} (w : World) (hx : (x.size : Int) ≤ 9223372036854775807) (hy : (y.size : Int) ≤ 9223372036854775807) (hz : (z.size : Int) ≤ 9223372036854775807) (hq : (q : Int) ≤ 9223372036854775807) (HR0 : ∀ W, Calls Try.prog 28 #[.int .i64 op] W fun e w' => e = .returned (.tuple #[.agg #[.int .i64 a0, .int .i64 b0, .int .i64 a1, .int .i64 b1, .int .i64 a2, .int .i64 b2, .int .i64 a3, .int .i64 b3, .int .i64 a4, .int .i64 b4, .bool sb], .bool true]) ∧ Kb 0 W w') (q0 : (a0 ≤ n ∧ n ≤ b0)) (q1 : (a1 ≤ m ∧ m ≤ b1)) (q2 : (a2 ≤ (x.size : Int) ∧ (x.size : Int) ≤ b2)) (q3 : (a3 ≤ (y.size : Int) ∧ (y.size : Int) ≤ b3)) (qn : ¬ (a4 ≤ (q : Int) ∧ (q : Int) ≤ b4)) :
    Calls Try.prog 13 #[.agg #[.int .i64 op, .int .i64 n, .int .i64 m, .string x, .string y, .int .i64 k, .int .i64 f, .int .i64 l, .string z, .slice pk q ck]] w fun e w' => e = .returned (.bool false) ∧ Kb 0 w w' := by
  obtain ⟨w0, hw0⟩ : ∃ w0, w0 = w.alloc (.cells #[.int .i64 op, .int .i64 n, .int .i64 m, .string x, .string y, .int .i64 k, .int .i64 f, .int .i64 l, .string z, .slice pk q ck] 35) := ⟨_, rfl⟩
  have bw0 : w0.heap[w.heap.size]? = some (.cells #[.int .i64 op, .int .i64 n, .int .i64 m, .string x, .string y, .int .i64 k, .int .i64 f, .int .i64 l, .string z, .slice pk q ck] 35 (0, 0)) := by rw [hw0]; exact alloc_new _ _ _
  have kw0 : Kb 0 w w0 := by rw [hw0]; exact kb_alloc _ _ _
  have c0 : w0.cell? ⟨w.heap.size, 0, none⟩ = some (.int .i64 op) := cell_of bw0 rfl
  have c1 : w0.cell? ⟨w.heap.size, 1, none⟩ = some (.int .i64 n) := cell_of bw0 rfl
  have c2 : w0.cell? ⟨w.heap.size, 2, none⟩ = some (.int .i64 m) := cell_of bw0 rfl
  have c3 : w0.cell? ⟨w.heap.size, 3, none⟩ = some (.string x) := cell_of bw0 rfl
  have c4 : w0.cell? ⟨w.heap.size, 4, none⟩ = some (.string y) := cell_of bw0 rfl
  have c5 : w0.cell? ⟨w.heap.size, 5, none⟩ = some (.int .i64 k) := cell_of bw0 rfl
  have c6 : w0.cell? ⟨w.heap.size, 6, none⟩ = some (.int .i64 f) := cell_of bw0 rfl
  have c7 : w0.cell? ⟨w.heap.size, 7, none⟩ = some (.int .i64 l) := cell_of bw0 rfl
  have c8 : w0.cell? ⟨w.heap.size, 8, none⟩ = some (.string z) := cell_of bw0 rfl
  have c9 : w0.cell? ⟨w.heap.size, 9, none⟩ = some (.slice pk q ck) := cell_of bw0 rfl
  have HB : Hid (w0 = _) := hw0
  have HK : Hid (Kb 0 w w0) := kw0
  clear hw0 bw0 kw0
  have HR := HR0 w0
  have G0 : Hid (∀ W, Calls Try.prog 24 #[.agg #[.int .i64 a0, .int .i64 b0], .int .i64 n] W fun e w' => e = .returned (.bool (dc (a0 ≤ n ∧ n ≤ b0))) ∧ Kb 0 W w') := (fun W => im_holds W : ∀ W, _)
  rw [dc_t q0] at G0
  have G1 : Hid (∀ W, Calls Try.prog 24 #[.agg #[.int .i64 a1, .int .i64 b1], .int .i64 m] W fun e w' => e = .returned (.bool (dc (a1 ≤ m ∧ m ≤ b1))) ∧ Kb 0 W w') := (fun W => im_holds W : ∀ W, _)
  rw [dc_t q1] at G1
  have G2 : Hid (∀ W, Calls Try.prog 24 #[.agg #[.int .i64 a2, .int .i64 b2], .int .i64 (x.size : Int)] W fun e w' => e = .returned (.bool (dc (a2 ≤ (x.size : Int) ∧ (x.size : Int) ≤ b2))) ∧ Kb 0 W w') := (fun W => im_holds W : ∀ W, _)
  rw [dc_t q2] at G2
  have G3 : Hid (∀ W, Calls Try.prog 24 #[.agg #[.int .i64 a3, .int .i64 b3], .int .i64 (y.size : Int)] W fun e w' => e = .returned (.bool (dc (a3 ≤ (y.size : Int) ∧ (y.size : Int) ≤ b3))) ∧ Kb 0 W w') := (fun W => im_holds W : ∀ W, _)
  rw [dc_t q3] at G3
  have G4 : Hid (∀ W, Calls Try.prog 24 #[.agg #[.int .i64 a4, .int .i64 b4], .int .i64 (q : Int)] W fun e w' => e = .returned (.bool (dc (a4 ≤ (q : Int) ∧ (q : Int) ≤ b4))) ∧ Kb 0 W w') := (fun W => im_holds W : ∀ W, _)
  rw [dc_f qn] at G4
  clear HR0 q0 q1 q2 q3 qn
  go_enter Try.func13, Try.ntmps13
  go_upto_region 1 with fail
  rw [← (show w0 = _ from HB)]
  go_wp2_with fail
  refine HR.mono ?_
  rintro e w1 ⟨rfl, k1⟩
  obtain ⟨w2, hw2⟩ : ∃ w2, w2 = w1.alloc (.cells #[.int .i64 a0, .int .i64 b0, .int .i64 a1, .int .i64 b1, .int .i64 a2, .int .i64 b2, .int .i64 a3, .int .i64 b3, .int .i64 a4, .int .i64 b4, .bool sb] 56) := ⟨_, rfl⟩
  have bw2 : w2.heap[w1.heap.size]? = some (.cells #[.int .i64 a0, .int .i64 b0, .int .i64 a1, .int .i64 b1, .int .i64 a2, .int .i64 b2, .int .i64 a3, .int .i64 b3, .int .i64 a4, .int .i64 b4, .bool sb] 56 (0, 0)) := by rw [hw2]; exact alloc_new _ _ _
  have kw2 : Kb 0 w1 w2 := by rw [hw2]; exact kb_alloc _ _ _
  obtain ⟨R, hR⟩ : ∃ R, R = w1.heap.size := ⟨_, rfl⟩
  rw [← hR] at bw2
  have r0 : w2.cell? ⟨R, 0, none⟩ = some (.int .i64 a0) := cell_of bw2 rfl
  have r1 : w2.cell? ⟨R, 1, none⟩ = some (.int .i64 b0) := cell_of bw2 rfl
  have r2 : w2.cell? ⟨R, 2, none⟩ = some (.int .i64 a1) := cell_of bw2 rfl
  have r3 : w2.cell? ⟨R, 3, none⟩ = some (.int .i64 b1) := cell_of bw2 rfl
  have r4 : w2.cell? ⟨R, 4, none⟩ = some (.int .i64 a2) := cell_of bw2 rfl
  have r5 : w2.cell? ⟨R, 5, none⟩ = some (.int .i64 b2) := cell_of bw2 rfl
  have r6 : w2.cell? ⟨R, 6, none⟩ = some (.int .i64 a3) := cell_of bw2 rfl
  have r7 : w2.cell? ⟨R, 7, none⟩ = some (.int .i64 b3) := cell_of bw2 rfl
  have r8 : w2.cell? ⟨R, 8, none⟩ = some (.int .i64 a4) := cell_of bw2 rfl
  have r9 : w2.cell? ⟨R, 9, none⟩ = some (.int .i64 b4) := cell_of bw2 rfl
  have r10 : w2.cell? ⟨R, 10, none⟩ = some (.bool sb) := cell_of bw2 rfl
  have d0 := (k1.trans kw2).cell c0
  have d1 := (k1.trans kw2).cell c1
  have d2 := (k1.trans kw2).cell c2
  have d3 := (k1.trans kw2).cell c3
  have d4 := (k1.trans kw2).cell c4
  have d5 := (k1.trans kw2).cell c5
  have d6 := (k1.trans kw2).cell c6
  have d7 := (k1.trans kw2).cell c7
  have d8 := (k1.trans kw2).cell c8
  have d9 := (k1.trans kw2).cell c9
  have HK2 : Hid (Kb 0 w w2) := (show Kb 0 w w0 from HK).trans (k1.trans kw2)
  have HW2 : Hid (w2 = w1.alloc (.cells #[.int .i64 a0, .int .i64 b0, .int .i64 a1, .int .i64 b1, .int .i64 a2, .int .i64 b2, .int .i64 a3, .int .i64 b3, .int .i64 a4, .int .i64 b4, .bool sb] 56) ∧ R = w1.heap.size) := (⟨hw2, hR⟩ : _ ∧ _)
  clear HR hw2 bw2 kw2 hR k1 HK HB c0 c1 c2 c3 c4 c5 c6 c7 c8 c9
  go_upto_region 2 with fail
  rw [← (show _ ∧ _ from HW2).1, ← (show _ ∧ _ from HW2).2]
  clear HW2
  go_wp2_with fail
  refine ((show ∀ W, _ from G0) w2).mono ?_
  rintro e w3 ⟨rfl, k3⟩
  have HK3 : Hid (Kb 0 w w3) := (show Kb 0 w w2 from HK2).trans k3
  replace d0 := k3.cell d0
  replace d1 := k3.cell d1
  replace d2 := k3.cell d2
  replace d3 := k3.cell d3
  replace d4 := k3.cell d4
  replace d5 := k3.cell d5
  replace d6 := k3.cell d6
  replace d7 := k3.cell d7
  replace d8 := k3.cell d8
  replace d9 := k3.cell d9
  replace r0 := k3.cell r0
  replace r1 := k3.cell r1
  replace r2 := k3.cell r2
  replace r3 := k3.cell r3
  replace r4 := k3.cell r4
  replace r5 := k3.cell r5
  replace r6 := k3.cell r6
  replace r7 := k3.cell r7
  replace r8 := k3.cell r8
  replace r9 := k3.cell r9
  replace r10 := k3.cell r10
  clear G0 k3 HK2
  go_wp2_with fail
  refine ((show ∀ W, _ from G1) w3).mono ?_
  rintro e w4 ⟨rfl, k4⟩
  have HK4 : Hid (Kb 0 w w4) := (show Kb 0 w w3 from HK3).trans k4
  replace d0 := k4.cell d0
  replace d1 := k4.cell d1
  replace d2 := k4.cell d2
  replace d3 := k4.cell d3
  replace d4 := k4.cell d4
  replace d5 := k4.cell d5
  replace d6 := k4.cell d6
  replace d7 := k4.cell d7
  replace d8 := k4.cell d8
  replace d9 := k4.cell d9
  replace r0 := k4.cell r0
  replace r1 := k4.cell r1
  replace r2 := k4.cell r2
  replace r3 := k4.cell r3
  replace r4 := k4.cell r4
  replace r5 := k4.cell r5
  replace r6 := k4.cell r6
  replace r7 := k4.cell r7
  replace r8 := k4.cell r8
  replace r9 := k4.cell r9
  replace r10 := k4.cell r10
  clear G1 k4 HK3
  go_wp2_with fail
  refine ((show ∀ W, _ from G2) w4).mono ?_
  rintro e w5 ⟨rfl, k5⟩
  have HK5 : Hid (Kb 0 w w5) := (show Kb 0 w w4 from HK4).trans k5
  replace d0 := k5.cell d0
  replace d1 := k5.cell d1
  replace d2 := k5.cell d2
  replace d3 := k5.cell d3
  replace d4 := k5.cell d4
  replace d5 := k5.cell d5
  replace d6 := k5.cell d6
  replace d7 := k5.cell d7
  replace d8 := k5.cell d8
  replace d9 := k5.cell d9
  replace r0 := k5.cell r0
  replace r1 := k5.cell r1
  replace r2 := k5.cell r2
  replace r3 := k5.cell r3
  replace r4 := k5.cell r4
  replace r5 := k5.cell r5
  replace r6 := k5.cell r6
  replace r7 := k5.cell r7
  replace r8 := k5.cell r8
  replace r9 := k5.cell r9
  replace r10 := k5.cell r10
  clear G2 k5 HK4
  go_wp2_with fail
  refine ((show ∀ W, _ from G3) w5).mono ?_
  rintro e w6 ⟨rfl, k6⟩
  have HK6 : Hid (Kb 0 w w6) := (show Kb 0 w w5 from HK5).trans k6
  replace d0 := k6.cell d0
  replace d1 := k6.cell d1
  replace d2 := k6.cell d2
  replace d3 := k6.cell d3
  replace d4 := k6.cell d4
  replace d5 := k6.cell d5
  replace d6 := k6.cell d6
  replace d7 := k6.cell d7
  replace d8 := k6.cell d8
  replace d9 := k6.cell d9
  replace r0 := k6.cell r0
  replace r1 := k6.cell r1
  replace r2 := k6.cell r2
  replace r3 := k6.cell r3
  replace r4 := k6.cell r4
  replace r5 := k6.cell r5
  replace r6 := k6.cell r6
  replace r7 := k6.cell r7
  replace r8 := k6.cell r8
  replace r9 := k6.cell r9
  replace r10 := k6.cell r10
  clear G3 k6 HK5
  go_wp2_with fail
  refine ((show ∀ W, _ from G4) w6).mono ?_
  rintro e w7 ⟨rfl, k7⟩
  have HK7 : Hid (Kb 0 w w7) := (show Kb 0 w w6 from HK6).trans k7
  replace d0 := k7.cell d0
  replace d1 := k7.cell d1
  replace d2 := k7.cell d2
  replace d3 := k7.cell d3
  replace d4 := k7.cell d4
  replace d5 := k7.cell d5
  replace d6 := k7.cell d6
  replace d7 := k7.cell d7
  replace d8 := k7.cell d8
  replace d9 := k7.cell d9
  replace r0 := k7.cell r0
  replace r1 := k7.cell r1
  replace r2 := k7.cell r2
  replace r3 := k7.cell r3
  replace r4 := k7.cell r4
  replace r5 := k7.cell r5
  replace r6 := k7.cell r6
  replace r7 := k7.cell r7
  replace r8 := k7.cell r8
  replace r9 := k7.cell r9
  replace r10 := k7.cell r10
  clear G4 k7 HK6
  go_wp2_with fail
  go_ret
  exact ⟨rfl, HK7⟩
set_option maxHeartbeats 16000000 in
theorem im_ev_5 {op n m k f l : Int} {x y z : ByteArray} {pk : Option Addr} {q ck : Nat} {a0 b0 a1 b1 a2 b2 a3 b3 a4 b4 : Int} {sb : Bool} (w : World) (hx : (x.size : Int) ≤ 9223372036854775807) (hy : (y.size : Int) ≤ 9223372036854775807) (hz : (z.size : Int) ≤ 9223372036854775807) (hq : (q : Int) ≤ 9223372036854775807) (HR0 : ∀ W, Calls Try.prog 28 #[.int .i64 op] W fun e w' => e = .returned (.tuple #[.agg #[.int .i64 a0, .int .i64 b0, .int .i64 a1, .int .i64 b1, .int .i64 a2, .int .i64 b2, .int .i64 a3, .int .i64 b3, .int .i64 a4, .int .i64 b4, .bool sb], .bool true]) ∧ Kb 0 W w') (q0 : (a0 ≤ n ∧ n ≤ b0)) (q1 : (a1 ≤ m ∧ m ≤ b1)) (q2 : (a2 ≤ (x.size : Int) ∧ (x.size : Int) ≤ b2)) (q3 : (a3 ≤ (y.size : Int) ∧ (y.size : Int) ≤ b3)) (q4 : (a4 ≤ (q : Int) ∧ (q : Int) ≤ b4)) :
    Calls Try.prog 13 #[.agg #[.int .i64 op, .int .i64 n, .int .i64 m, .string x, .string y, .int .i64 k, .int .i64 f, .int .i64 l, .string z, .slice pk q ck]] w fun e w' => e = .returned (.bool (dc ((sb = true → StP k f l z.size) ∧ (sb = false → k = 0 ∧ f = 0 ∧ l = 0 ∧ z.size = 0)))) ∧ Kb 0 w w' := by
  obtain ⟨w0, hw0⟩ : ∃ w0, w0 = w.alloc (.cells #[.int .i64 op, .int .i64 n, .int .i64 m, .string x, .string y, .int .i64 k, .int .i64 f, .int .i64 l, .string z, .slice pk q ck] 35) := ⟨_, rfl⟩
  have bw0 : w0.heap[w.heap.size]? = some (.cells #[.int .i64 op, .int .i64 n, .int .i64 m, .string x, .string y, .int .i64 k, .int .i64 f, .int .i64 l, .string z, .slice pk q ck] 35 (0, 0)) := by rw [hw0]; exact alloc_new _ _ _
  have kw0 : Kb 0 w w0 := by rw [hw0]; exact kb_alloc _ _ _
  have c0 : w0.cell? ⟨w.heap.size, 0, none⟩ = some (.int .i64 op) := cell_of bw0 rfl
  have c1 : w0.cell? ⟨w.heap.size, 1, none⟩ = some (.int .i64 n) := cell_of bw0 rfl
  have c2 : w0.cell? ⟨w.heap.size, 2, none⟩ = some (.int .i64 m) := cell_of bw0 rfl
  have c3 : w0.cell? ⟨w.heap.size, 3, none⟩ = some (.string x) := cell_of bw0 rfl
  have c4 : w0.cell? ⟨w.heap.size, 4, none⟩ = some (.string y) := cell_of bw0 rfl
  have c5 : w0.cell? ⟨w.heap.size, 5, none⟩ = some (.int .i64 k) := cell_of bw0 rfl
  have c6 : w0.cell? ⟨w.heap.size, 6, none⟩ = some (.int .i64 f) := cell_of bw0 rfl
  have c7 : w0.cell? ⟨w.heap.size, 7, none⟩ = some (.int .i64 l) := cell_of bw0 rfl
  have c8 : w0.cell? ⟨w.heap.size, 8, none⟩ = some (.string z) := cell_of bw0 rfl
  have c9 : w0.cell? ⟨w.heap.size, 9, none⟩ = some (.slice pk q ck) := cell_of bw0 rfl
  have HB : Hid (w0 = _) := hw0
  have HK : Hid (Kb 0 w w0) := kw0
  clear hw0 bw0 kw0
  have HR := HR0 w0
  have G0 : Hid (∀ W, Calls Try.prog 24 #[.agg #[.int .i64 a0, .int .i64 b0], .int .i64 n] W fun e w' => e = .returned (.bool (dc (a0 ≤ n ∧ n ≤ b0))) ∧ Kb 0 W w') := (fun W => im_holds W : ∀ W, _)
  rw [dc_t q0] at G0
  have G1 : Hid (∀ W, Calls Try.prog 24 #[.agg #[.int .i64 a1, .int .i64 b1], .int .i64 m] W fun e w' => e = .returned (.bool (dc (a1 ≤ m ∧ m ≤ b1))) ∧ Kb 0 W w') := (fun W => im_holds W : ∀ W, _)
  rw [dc_t q1] at G1
  have G2 : Hid (∀ W, Calls Try.prog 24 #[.agg #[.int .i64 a2, .int .i64 b2], .int .i64 (x.size : Int)] W fun e w' => e = .returned (.bool (dc (a2 ≤ (x.size : Int) ∧ (x.size : Int) ≤ b2))) ∧ Kb 0 W w') := (fun W => im_holds W : ∀ W, _)
  rw [dc_t q2] at G2
  have G3 : Hid (∀ W, Calls Try.prog 24 #[.agg #[.int .i64 a3, .int .i64 b3], .int .i64 (y.size : Int)] W fun e w' => e = .returned (.bool (dc (a3 ≤ (y.size : Int) ∧ (y.size : Int) ≤ b3))) ∧ Kb 0 W w') := (fun W => im_holds W : ∀ W, _)
  rw [dc_t q3] at G3
  have G4 : Hid (∀ W, Calls Try.prog 24 #[.agg #[.int .i64 a4, .int .i64 b4], .int .i64 (q : Int)] W fun e w' => e = .returned (.bool (dc (a4 ≤ (q : Int) ∧ (q : Int) ≤ b4))) ∧ Kb 0 W w') := (fun W => im_holds W : ∀ W, _)
  rw [dc_t q4] at G4
  have GS : Hid (∀ W, Calls Try.prog 29 #[.agg #[.int .i64 a0, .int .i64 b0, .int .i64 a1, .int .i64 b1, .int .i64 a2, .int .i64 b2, .int .i64 a3, .int .i64 b3, .int .i64 a4, .int .i64 b4, .bool sb], .agg #[.int .i64 k, .int .i64 f, .int .i64 l, .string z]] W fun e w' => e = .returned (.bool (dc ((sb = true → StP k f l z.size) ∧ (sb = false → k = 0 ∧ f = 0 ∧ l = 0 ∧ z.size = 0)))) ∧ Kb 0 W w') := (fun W => im_allows W hz : ∀ W, _)
  generalize dc ((sb = true → StP k f l z.size) ∧ (sb = false → k = 0 ∧ f = 0 ∧ l = 0 ∧ z.size = 0)) = ans at GS ⊢
  clear HR0 q0 q1 q2 q3 q4
  go_enter Try.func13, Try.ntmps13
  go_upto_region 1 with fail
  rw [← (show w0 = _ from HB)]
  go_wp2_with fail
  refine HR.mono ?_
  rintro e w1 ⟨rfl, k1⟩
  obtain ⟨w2, hw2⟩ : ∃ w2, w2 = w1.alloc (.cells #[.int .i64 a0, .int .i64 b0, .int .i64 a1, .int .i64 b1, .int .i64 a2, .int .i64 b2, .int .i64 a3, .int .i64 b3, .int .i64 a4, .int .i64 b4, .bool sb] 56) := ⟨_, rfl⟩
  have bw2 : w2.heap[w1.heap.size]? = some (.cells #[.int .i64 a0, .int .i64 b0, .int .i64 a1, .int .i64 b1, .int .i64 a2, .int .i64 b2, .int .i64 a3, .int .i64 b3, .int .i64 a4, .int .i64 b4, .bool sb] 56 (0, 0)) := by rw [hw2]; exact alloc_new _ _ _
  have kw2 : Kb 0 w1 w2 := by rw [hw2]; exact kb_alloc _ _ _
  obtain ⟨R, hR⟩ : ∃ R, R = w1.heap.size := ⟨_, rfl⟩
  rw [← hR] at bw2
  have r0 : w2.cell? ⟨R, 0, none⟩ = some (.int .i64 a0) := cell_of bw2 rfl
  have r1 : w2.cell? ⟨R, 1, none⟩ = some (.int .i64 b0) := cell_of bw2 rfl
  have r2 : w2.cell? ⟨R, 2, none⟩ = some (.int .i64 a1) := cell_of bw2 rfl
  have r3 : w2.cell? ⟨R, 3, none⟩ = some (.int .i64 b1) := cell_of bw2 rfl
  have r4 : w2.cell? ⟨R, 4, none⟩ = some (.int .i64 a2) := cell_of bw2 rfl
  have r5 : w2.cell? ⟨R, 5, none⟩ = some (.int .i64 b2) := cell_of bw2 rfl
  have r6 : w2.cell? ⟨R, 6, none⟩ = some (.int .i64 a3) := cell_of bw2 rfl
  have r7 : w2.cell? ⟨R, 7, none⟩ = some (.int .i64 b3) := cell_of bw2 rfl
  have r8 : w2.cell? ⟨R, 8, none⟩ = some (.int .i64 a4) := cell_of bw2 rfl
  have r9 : w2.cell? ⟨R, 9, none⟩ = some (.int .i64 b4) := cell_of bw2 rfl
  have r10 : w2.cell? ⟨R, 10, none⟩ = some (.bool sb) := cell_of bw2 rfl
  have d0 := (k1.trans kw2).cell c0
  have d1 := (k1.trans kw2).cell c1
  have d2 := (k1.trans kw2).cell c2
  have d3 := (k1.trans kw2).cell c3
  have d4 := (k1.trans kw2).cell c4
  have d5 := (k1.trans kw2).cell c5
  have d6 := (k1.trans kw2).cell c6
  have d7 := (k1.trans kw2).cell c7
  have d8 := (k1.trans kw2).cell c8
  have d9 := (k1.trans kw2).cell c9
  have HK2 : Hid (Kb 0 w w2) := (show Kb 0 w w0 from HK).trans (k1.trans kw2)
  have HW2 : Hid (w2 = w1.alloc (.cells #[.int .i64 a0, .int .i64 b0, .int .i64 a1, .int .i64 b1, .int .i64 a2, .int .i64 b2, .int .i64 a3, .int .i64 b3, .int .i64 a4, .int .i64 b4, .bool sb] 56) ∧ R = w1.heap.size) := (⟨hw2, hR⟩ : _ ∧ _)
  clear HR hw2 bw2 kw2 hR k1 HK HB c0 c1 c2 c3 c4 c5 c6 c7 c8 c9
  go_upto_region 2 with fail
  rw [← (show _ ∧ _ from HW2).1, ← (show _ ∧ _ from HW2).2]
  clear HW2
  go_wp2_with fail
  refine ((show ∀ W, _ from G0) w2).mono ?_
  rintro e w3 ⟨rfl, k3⟩
  have HK3 : Hid (Kb 0 w w3) := (show Kb 0 w w2 from HK2).trans k3
  replace d0 := k3.cell d0
  replace d1 := k3.cell d1
  replace d2 := k3.cell d2
  replace d3 := k3.cell d3
  replace d4 := k3.cell d4
  replace d5 := k3.cell d5
  replace d6 := k3.cell d6
  replace d7 := k3.cell d7
  replace d8 := k3.cell d8
  replace d9 := k3.cell d9
  replace r0 := k3.cell r0
  replace r1 := k3.cell r1
  replace r2 := k3.cell r2
  replace r3 := k3.cell r3
  replace r4 := k3.cell r4
  replace r5 := k3.cell r5
  replace r6 := k3.cell r6
  replace r7 := k3.cell r7
  replace r8 := k3.cell r8
  replace r9 := k3.cell r9
  replace r10 := k3.cell r10
  clear G0 k3 HK2
  go_wp2_with fail
  refine ((show ∀ W, _ from G1) w3).mono ?_
  rintro e w4 ⟨rfl, k4⟩
  have HK4 : Hid (Kb 0 w w4) := (show Kb 0 w w3 from HK3).trans k4
  replace d0 := k4.cell d0
  replace d1 := k4.cell d1
  replace d2 := k4.cell d2
  replace d3 := k4.cell d3
  replace d4 := k4.cell d4
  replace d5 := k4.cell d5
  replace d6 := k4.cell d6
  replace d7 := k4.cell d7
  replace d8 := k4.cell d8
  replace d9 := k4.cell d9
  replace r0 := k4.cell r0
  replace r1 := k4.cell r1
  replace r2 := k4.cell r2
  replace r3 := k4.cell r3
  replace r4 := k4.cell r4
  replace r5 := k4.cell r5
  replace r6 := k4.cell r6
  replace r7 := k4.cell r7
  replace r8 := k4.cell r8
  replace r9 := k4.cell r9
  replace r10 := k4.cell r10
  clear G1 k4 HK3
  go_wp2_with fail
  refine ((show ∀ W, _ from G2) w4).mono ?_
  rintro e w5 ⟨rfl, k5⟩
  have HK5 : Hid (Kb 0 w w5) := (show Kb 0 w w4 from HK4).trans k5
  replace d0 := k5.cell d0
  replace d1 := k5.cell d1
  replace d2 := k5.cell d2
  replace d3 := k5.cell d3
  replace d4 := k5.cell d4
  replace d5 := k5.cell d5
  replace d6 := k5.cell d6
  replace d7 := k5.cell d7
  replace d8 := k5.cell d8
  replace d9 := k5.cell d9
  replace r0 := k5.cell r0
  replace r1 := k5.cell r1
  replace r2 := k5.cell r2
  replace r3 := k5.cell r3
  replace r4 := k5.cell r4
  replace r5 := k5.cell r5
  replace r6 := k5.cell r6
  replace r7 := k5.cell r7
  replace r8 := k5.cell r8
  replace r9 := k5.cell r9
  replace r10 := k5.cell r10
  clear G2 k5 HK4
  go_wp2_with fail
  refine ((show ∀ W, _ from G3) w5).mono ?_
  rintro e w6 ⟨rfl, k6⟩
  have HK6 : Hid (Kb 0 w w6) := (show Kb 0 w w5 from HK5).trans k6
  replace d0 := k6.cell d0
  replace d1 := k6.cell d1
  replace d2 := k6.cell d2
  replace d3 := k6.cell d3
  replace d4 := k6.cell d4
  replace d5 := k6.cell d5
  replace d6 := k6.cell d6
  replace d7 := k6.cell d7
  replace d8 := k6.cell d8
  replace d9 := k6.cell d9
  replace r0 := k6.cell r0
  replace r1 := k6.cell r1
  replace r2 := k6.cell r2
  replace r3 := k6.cell r3
  replace r4 := k6.cell r4
  replace r5 := k6.cell r5
  replace r6 := k6.cell r6
  replace r7 := k6.cell r7
  replace r8 := k6.cell r8
  replace r9 := k6.cell r9
  replace r10 := k6.cell r10
  clear G3 k6 HK5
  go_wp2_with fail
  refine ((show ∀ W, _ from G4) w6).mono ?_
  rintro e w7 ⟨rfl, k7⟩
  have HK7 : Hid (Kb 0 w w7) := (show Kb 0 w w6 from HK6).trans k7
  replace d0 := k7.cell d0
  replace d1 := k7.cell d1
  replace d2 := k7.cell d2
  replace d3 := k7.cell d3
  replace d4 := k7.cell d4
  replace d5 := k7.cell d5
  replace d6 := k7.cell d6
  replace d7 := k7.cell d7
  replace d8 := k7.cell d8
  replace d9 := k7.cell d9
  replace r0 := k7.cell r0
  replace r1 := k7.cell r1
  replace r2 := k7.cell r2
  replace r3 := k7.cell r3
  replace r4 := k7.cell r4
  replace r5 := k7.cell r5
  replace r6 := k7.cell r6
  replace r7 := k7.cell r7
  replace r8 := k7.cell r8
  replace r9 := k7.cell r9
  replace r10 := k7.cell r10
  clear G4 k7 HK6
  go_wp2_with fail
  refine ((show ∀ W, _ from GS) w7).mono ?_
  rintro e w8 ⟨rfl, k8⟩
  have HK8 : Hid (Kb 0 w w8) := (show Kb 0 w w7 from HK7).trans k8
  clear GS k8 HK7
  cases ans
  · go_wp2_with fail
    go_ret
    exact ⟨rfl, HK8⟩
  · go_wp2_with fail
    go_ret
    exact ⟨rfl, HK8⟩
theorem im_ev_all {op n m k f l : Int} {x y z : ByteArray} {pk : Option Addr} {q ck : Nat} {a0 b0 a1 b1 a2 b2 a3 b3 a4 b4 : Int} {sb : Bool} (w : World) (hx : (x.size : Int) ≤ 9223372036854775807) (hy : (y.size : Int) ≤ 9223372036854775807) (hz : (z.size : Int) ≤ 9223372036854775807) (hq : (q : Int) ≤ 9223372036854775807) (HR0 : ∀ W, Calls Try.prog 28 #[.int .i64 op] W fun e w' => e = .returned (.tuple #[.agg #[.int .i64 a0, .int .i64 b0, .int .i64 a1, .int .i64 b1, .int .i64 a2, .int .i64 b2, .int .i64 a3, .int .i64 b3, .int .i64 a4, .int .i64 b4, .bool sb], .bool true]) ∧ Kb 0 W w') :
    Calls Try.prog 13 #[.agg #[.int .i64 op, .int .i64 n, .int .i64 m, .string x, .string y, .int .i64 k, .int .i64 f, .int .i64 l, .string z, .slice pk q ck]] w fun e w' => e = .returned (.bool (dc ((a0 ≤ n ∧ n ≤ b0) ∧ (a1 ≤ m ∧ m ≤ b1) ∧ (a2 ≤ (x.size : Int) ∧ (x.size : Int) ≤ b2) ∧ (a3 ≤ (y.size : Int) ∧ (y.size : Int) ≤ b3) ∧ (a4 ≤ (q : Int) ∧ (q : Int) ≤ b4) ∧ ((sb = true → StP k f l z.size) ∧ (sb = false → k = 0 ∧ f = 0 ∧ l = 0 ∧ z.size = 0))))) ∧ Kb 0 w w' := by
  by_cases q0 : (a0 ≤ n ∧ n ≤ b0)
  rotate_left
  · rw [dc_f (fun h => q0 h.1)]
    exact im_ev_0 w hx hy hz hq HR0  q0
  by_cases q1 : (a1 ≤ m ∧ m ≤ b1)
  rotate_left
  · rw [dc_f (fun h => q1 h.2.1)]
    exact im_ev_1 w hx hy hz hq HR0 q0 q1
  by_cases q2 : (a2 ≤ (x.size : Int) ∧ (x.size : Int) ≤ b2)
  rotate_left
  · rw [dc_f (fun h => q2 h.2.2.1)]
    exact im_ev_2 w hx hy hz hq HR0 q0 q1 q2
  by_cases q3 : (a3 ≤ (y.size : Int) ∧ (y.size : Int) ≤ b3)
  rotate_left
  · rw [dc_f (fun h => q3 h.2.2.2.1)]
    exact im_ev_3 w hx hy hz hq HR0 q0 q1 q2 q3
  by_cases q4 : (a4 ≤ (q : Int) ∧ (q : Int) ≤ b4)
  rotate_left
  · rw [dc_f (fun h => q4 h.2.2.2.2.1)]
    exact im_ev_4 w hx hy hz hq HR0 q0 q1 q2 q3 q4
  rw [show dc ((a0 ≤ n ∧ n ≤ b0) ∧ (a1 ≤ m ∧ m ≤ b1) ∧ (a2 ≤ (x.size : Int) ∧ (x.size : Int) ≤ b2) ∧ (a3 ≤ (y.size : Int) ∧ (y.size : Int) ≤ b3) ∧ (a4 ≤ (q : Int) ∧ (q : Int) ≤ b4) ∧ ((sb = true → StP k f l z.size) ∧ (sb = false → k = 0 ∧ f = 0 ∧ l = 0 ∧ z.size = 0))) = dc ((sb = true → StP k f l z.size) ∧ (sb = false → k = 0 ∧ f = 0 ∧ l = 0 ∧ z.size = 0)) from by congr 1; exact propext ⟨fun h => h.2.2.2.2.2, fun h => ⟨q0, q1, q2, q3, q4, h⟩⟩]
  exact im_ev_5 w hx hy hz hq HR0 q0 q1 q2 q3 q4
end Go.Proofs.Ytaoagjajjeddcaa.Fo
