import Derived.Test.YtaoagjajjeddcaaEvi
import Derived.Test.YtaoagjajjeddcaaEvj
import Derived.Test.YtaoagjajjeddcaaEvk
import Derived.Test.YtaoagjajjeddcaaEvl
import Derived.Test.YtaoagjajjeddcaaEvm
import Derived.Test.YtaoagjajjeddcaaEvn
namespace Go.Proofs.Ytaoagjajjeddcaa.Fo
open Go.ChangeShapes Go.WideShapes Go.ChangeAt Go.RowKit
set_option linter.unusedVariables false
set_option maxRecDepth 100000
set_option maxHeartbeats 16000000 in
theorem sp_ev_A {op n m k f l : Int} {x y z : ByteArray} {pk : Option Addr} {q ck : Nat} (w : World) (hx : (x.size : Int) ≤ 9223372036854775807) (hy : (y.size : Int) ≤ 9223372036854775807) (hz : (z.size : Int) ≤ 9223372036854775807) (hq : (q : Int) ≤ 9223372036854775807) (h : op < 1) :
    Calls Try.prog 11 #[.agg #[.int .i64 op, .int .i64 n, .int .i64 m, .string x, .string y, .int .i64 k, .int .i64 f, .int .i64 l, .string z, .slice pk q ck]] w fun e w' => e = .returned (.bool false) ∧ Kb 0 w w' := by
  obtain ⟨w0, hw0⟩ : ∃ w0, w0 = w.alloc (.cells #[.int .i64 op, .int .i64 n, .int .i64 m, .string x, .string y, .int .i64 k, .int .i64 f, .int .i64 l, .string z, .slice pk q ck] 35) := ⟨_, rfl⟩
  have bw0 : w0.heap[w.heap.size]? = some (.cells #[.int .i64 op, .int .i64 n, .int .i64 m, .string x, .string y, .int .i64 k, .int .i64 f, .int .i64 l, .string z, .slice pk q ck] 35 (0, 0)) := by rw [hw0]; exact alloc_new _ _ _
  have kw0 : Kb 0 w w0 := by rw [hw0]; exact kb_alloc _ _ _
  have c0 : w0.cell? ⟨w.heap.size, 0, none⟩ = some (.int .i64 op) := cell_of bw0 rfl
  have c1 : w0.cell? ⟨w.heap.size, 1, none⟩ = some (.int .i64 n) := cell_of bw0 rfl
  have c2 : w0.cell? ⟨w.heap.size, 2, none⟩ = some (.int .i64 m) := cell_of bw0 rfl
  have c3 : w0.cell? ⟨w.heap.size, 3, none⟩ = some (.string x) := cell_of bw0 rfl
  have c4 : w0.cell? ⟨w.heap.size, 4, none⟩ = some (.string y) := cell_of bw0 rfl
  have c5 : w0.cell? ⟨w.heap.size, 5, none⟩ = some (.int .i64 k) := cell_of bw0 rfl
  have c6 : w0.cell? ⟨w.heap.size, 6, none⟩ = some (.int .i64 f) := cell_of bw0 rfl
  have c7 : w0.cell? ⟨w.heap.size, 7, none⟩ = some (.int .i64 l) := cell_of bw0 rfl
  have c8 : w0.cell? ⟨w.heap.size, 8, none⟩ = some (.string z) := cell_of bw0 rfl
  have c9 : w0.cell? ⟨w.heap.size, 9, none⟩ = some (.slice pk q ck) := cell_of bw0 rfl
  have HB : Hid (w0 = _) := hw0
  have HK : Hid (Kb 0 w w0) := kw0
  clear hw0 bw0 kw0
  go_enter Try.func11, Try.ntmps11
  go_upto_region 1 with fail
  rw [← (show w0 = _ from HB)]
  go_wp2_with fail
  go_ret
  exact ⟨rfl, HK⟩
set_option maxHeartbeats 16000000 in
theorem sp_ev_B {op n m k f l : Int} {x y z : ByteArray} {pk : Option Addr} {q ck : Nat} (w : World) (hx : (x.size : Int) ≤ 9223372036854775807) (hy : (y.size : Int) ≤ 9223372036854775807) (hz : (z.size : Int) ≤ 9223372036854775807) (hq : (q : Int) ≤ 9223372036854775807) (h0 : ¬ op < 1) (h : 21 < op) :
    Calls Try.prog 11 #[.agg #[.int .i64 op, .int .i64 n, .int .i64 m, .string x, .string y, .int .i64 k, .int .i64 f, .int .i64 l, .string z, .slice pk q ck]] w fun e w' => e = .returned (.bool false) ∧ Kb 0 w w' := by
  obtain ⟨w0, hw0⟩ : ∃ w0, w0 = w.alloc (.cells #[.int .i64 op, .int .i64 n, .int .i64 m, .string x, .string y, .int .i64 k, .int .i64 f, .int .i64 l, .string z, .slice pk q ck] 35) := ⟨_, rfl⟩
  have bw0 : w0.heap[w.heap.size]? = some (.cells #[.int .i64 op, .int .i64 n, .int .i64 m, .string x, .string y, .int .i64 k, .int .i64 f, .int .i64 l, .string z, .slice pk q ck] 35 (0, 0)) := by rw [hw0]; exact alloc_new _ _ _
  have kw0 : Kb 0 w w0 := by rw [hw0]; exact kb_alloc _ _ _
  have c0 : w0.cell? ⟨w.heap.size, 0, none⟩ = some (.int .i64 op) := cell_of bw0 rfl
  have c1 : w0.cell? ⟨w.heap.size, 1, none⟩ = some (.int .i64 n) := cell_of bw0 rfl
  have c2 : w0.cell? ⟨w.heap.size, 2, none⟩ = some (.int .i64 m) := cell_of bw0 rfl
  have c3 : w0.cell? ⟨w.heap.size, 3, none⟩ = some (.string x) := cell_of bw0 rfl
  have c4 : w0.cell? ⟨w.heap.size, 4, none⟩ = some (.string y) := cell_of bw0 rfl
  have c5 : w0.cell? ⟨w.heap.size, 5, none⟩ = some (.int .i64 k) := cell_of bw0 rfl
  have c6 : w0.cell? ⟨w.heap.size, 6, none⟩ = some (.int .i64 f) := cell_of bw0 rfl
  have c7 : w0.cell? ⟨w.heap.size, 7, none⟩ = some (.int .i64 l) := cell_of bw0 rfl
  have c8 : w0.cell? ⟨w.heap.size, 8, none⟩ = some (.string z) := cell_of bw0 rfl
  have c9 : w0.cell? ⟨w.heap.size, 9, none⟩ = some (.slice pk q ck) := cell_of bw0 rfl
  have HB : Hid (w0 = _) := hw0
  have HK : Hid (Kb 0 w w0) := kw0
  clear hw0 bw0 kw0
  go_enter Try.func11, Try.ntmps11
  go_upto_region 1 with fail
  rw [← (show w0 = _ from HB)]
  go_wp2_with fail
  go_ret
  exact ⟨rfl, HK⟩
set_option maxHeartbeats 16000000 in
theorem sp_ev_C {op n m k f l : Int} {x y z : ByteArray} {pk : Option Addr} {q ck : Nat} (w : World) (hx : (x.size : Int) ≤ 9223372036854775807) (hy : (y.size : Int) ≤ 9223372036854775807) (hz : (z.size : Int) ≤ 9223372036854775807) (hq : (q : Int) ≤ 9223372036854775807) (h0 : ¬ op < 1) (h1 : ¬ 21 < op) (h : (0 : Int) < (q : Int)) (h7 : ¬ op = 17) :
    Calls Try.prog 11 #[.agg #[.int .i64 op, .int .i64 n, .int .i64 m, .string x, .string y, .int .i64 k, .int .i64 f, .int .i64 l, .string z, .slice pk q ck]] w fun e w' => e = .returned (.bool false) ∧ Kb 0 w w' := by
  obtain ⟨w0, hw0⟩ : ∃ w0, w0 = w.alloc (.cells #[.int .i64 op, .int .i64 n, .int .i64 m, .string x, .string y, .int .i64 k, .int .i64 f, .int .i64 l, .string z, .slice pk q ck] 35) := ⟨_, rfl⟩
  have bw0 : w0.heap[w.heap.size]? = some (.cells #[.int .i64 op, .int .i64 n, .int .i64 m, .string x, .string y, .int .i64 k, .int .i64 f, .int .i64 l, .string z, .slice pk q ck] 35 (0, 0)) := by rw [hw0]; exact alloc_new _ _ _
  have kw0 : Kb 0 w w0 := by rw [hw0]; exact kb_alloc _ _ _
  have c0 : w0.cell? ⟨w.heap.size, 0, none⟩ = some (.int .i64 op) := cell_of bw0 rfl
  have c1 : w0.cell? ⟨w.heap.size, 1, none⟩ = some (.int .i64 n) := cell_of bw0 rfl
  have c2 : w0.cell? ⟨w.heap.size, 2, none⟩ = some (.int .i64 m) := cell_of bw0 rfl
  have c3 : w0.cell? ⟨w.heap.size, 3, none⟩ = some (.string x) := cell_of bw0 rfl
  have c4 : w0.cell? ⟨w.heap.size, 4, none⟩ = some (.string y) := cell_of bw0 rfl
  have c5 : w0.cell? ⟨w.heap.size, 5, none⟩ = some (.int .i64 k) := cell_of bw0 rfl
  have c6 : w0.cell? ⟨w.heap.size, 6, none⟩ = some (.int .i64 f) := cell_of bw0 rfl
  have c7 : w0.cell? ⟨w.heap.size, 7, none⟩ = some (.int .i64 l) := cell_of bw0 rfl
  have c8 : w0.cell? ⟨w.heap.size, 8, none⟩ = some (.string z) := cell_of bw0 rfl
  have c9 : w0.cell? ⟨w.heap.size, 9, none⟩ = some (.slice pk q ck) := cell_of bw0 rfl
  have HB : Hid (w0 = _) := hw0
  have HK : Hid (Kb 0 w w0) := kw0
  clear hw0 bw0 kw0
  have e17 : (op != 17) = true := by simp; omega
  clear h7
  go_enter Try.func11, Try.ntmps11
  go_upto_region 1 with fail
  rw [← (show w0 = _ from HB)]
  go_wp2_with fail
  go_ret
  exact ⟨rfl, HK⟩
set_option maxHeartbeats 16000000 in
theorem sp_ev_D {op n m k f l : Int} {x y z : ByteArray} {pk : Option Addr} {q ck : Nat} (w : World) (hx : (x.size : Int) ≤ 9223372036854775807) (hy : (y.size : Int) ≤ 9223372036854775807) (hz : (z.size : Int) ≤ 9223372036854775807) (hq : (q : Int) ≤ 9223372036854775807) (h0 : ¬ op < 1) (h1 : ¬ 21 < op) (h : (200 : Int) < (q : Int)) (h7 : op = 17) :
    Calls Try.prog 11 #[.agg #[.int .i64 op, .int .i64 n, .int .i64 m, .string x, .string y, .int .i64 k, .int .i64 f, .int .i64 l, .string z, .slice pk q ck]] w fun e w' => e = .returned (.bool false) ∧ Kb 0 w w' := by
  obtain ⟨w0, hw0⟩ : ∃ w0, w0 = w.alloc (.cells #[.int .i64 op, .int .i64 n, .int .i64 m, .string x, .string y, .int .i64 k, .int .i64 f, .int .i64 l, .string z, .slice pk q ck] 35) := ⟨_, rfl⟩
  have bw0 : w0.heap[w.heap.size]? = some (.cells #[.int .i64 op, .int .i64 n, .int .i64 m, .string x, .string y, .int .i64 k, .int .i64 f, .int .i64 l, .string z, .slice pk q ck] 35 (0, 0)) := by rw [hw0]; exact alloc_new _ _ _
  have kw0 : Kb 0 w w0 := by rw [hw0]; exact kb_alloc _ _ _
  have c0 : w0.cell? ⟨w.heap.size, 0, none⟩ = some (.int .i64 op) := cell_of bw0 rfl
  have c1 : w0.cell? ⟨w.heap.size, 1, none⟩ = some (.int .i64 n) := cell_of bw0 rfl
  have c2 : w0.cell? ⟨w.heap.size, 2, none⟩ = some (.int .i64 m) := cell_of bw0 rfl
  have c3 : w0.cell? ⟨w.heap.size, 3, none⟩ = some (.string x) := cell_of bw0 rfl
  have c4 : w0.cell? ⟨w.heap.size, 4, none⟩ = some (.string y) := cell_of bw0 rfl
  have c5 : w0.cell? ⟨w.heap.size, 5, none⟩ = some (.int .i64 k) := cell_of bw0 rfl
  have c6 : w0.cell? ⟨w.heap.size, 6, none⟩ = some (.int .i64 f) := cell_of bw0 rfl
  have c7 : w0.cell? ⟨w.heap.size, 7, none⟩ = some (.int .i64 l) := cell_of bw0 rfl
  have c8 : w0.cell? ⟨w.heap.size, 8, none⟩ = some (.string z) := cell_of bw0 rfl
  have c9 : w0.cell? ⟨w.heap.size, 9, none⟩ = some (.slice pk q ck) := cell_of bw0 rfl
  have HB : Hid (w0 = _) := hw0
  have HK : Hid (Kb 0 w w0) := kw0
  clear hw0 bw0 kw0
  subst h7
  have hq0 : (0 : Int) < (q : Int) := by omega
  go_enter Try.func11, Try.ntmps11
  go_upto_region 1 with fail
  rw [← (show w0 = _ from HB)]
  go_wp2_with fail
  go_ret
  exact ⟨rfl, HK⟩
set_option maxHeartbeats 16000000 in
theorem sp_ev_E {op n m k f l : Int} {x y z : ByteArray} {pk : Option Addr} {q ck : Nat} (w : World) (hx : (x.size : Int) ≤ 9223372036854775807) (hy : (y.size : Int) ≤ 9223372036854775807) (hz : (z.size : Int) ≤ 9223372036854775807) (hq : (q : Int) ≤ 9223372036854775807) (h0 : ¬ op < 1) (h1 : ¬ 21 < op) (h : (q : Int) ≤ 0) (hn : ¬ (k = 0 ∧ f = 0 ∧ l = 0 ∧ z.size = 0)) (h6 : ¬ op = 6) :
    Calls Try.prog 11 #[.agg #[.int .i64 op, .int .i64 n, .int .i64 m, .string x, .string y, .int .i64 k, .int .i64 f, .int .i64 l, .string z, .slice pk q ck]] w fun e w' => e = .returned (.bool false) ∧ Kb 0 w w' := by
  obtain ⟨w0, hw0⟩ : ∃ w0, w0 = w.alloc (.cells #[.int .i64 op, .int .i64 n, .int .i64 m, .string x, .string y, .int .i64 k, .int .i64 f, .int .i64 l, .string z, .slice pk q ck] 35) := ⟨_, rfl⟩
  have bw0 : w0.heap[w.heap.size]? = some (.cells #[.int .i64 op, .int .i64 n, .int .i64 m, .string x, .string y, .int .i64 k, .int .i64 f, .int .i64 l, .string z, .slice pk q ck] 35 (0, 0)) := by rw [hw0]; exact alloc_new _ _ _
  have kw0 : Kb 0 w w0 := by rw [hw0]; exact kb_alloc _ _ _
  have c0 : w0.cell? ⟨w.heap.size, 0, none⟩ = some (.int .i64 op) := cell_of bw0 rfl
  have c1 : w0.cell? ⟨w.heap.size, 1, none⟩ = some (.int .i64 n) := cell_of bw0 rfl
  have c2 : w0.cell? ⟨w.heap.size, 2, none⟩ = some (.int .i64 m) := cell_of bw0 rfl
  have c3 : w0.cell? ⟨w.heap.size, 3, none⟩ = some (.string x) := cell_of bw0 rfl
  have c4 : w0.cell? ⟨w.heap.size, 4, none⟩ = some (.string y) := cell_of bw0 rfl
  have c5 : w0.cell? ⟨w.heap.size, 5, none⟩ = some (.int .i64 k) := cell_of bw0 rfl
  have c6 : w0.cell? ⟨w.heap.size, 6, none⟩ = some (.int .i64 f) := cell_of bw0 rfl
  have c7 : w0.cell? ⟨w.heap.size, 7, none⟩ = some (.int .i64 l) := cell_of bw0 rfl
  have c8 : w0.cell? ⟨w.heap.size, 8, none⟩ = some (.string z) := cell_of bw0 rfl
  have c9 : w0.cell? ⟨w.heap.size, 9, none⟩ = some (.slice pk q ck) := cell_of bw0 rfl
  have HB : Hid (w0 = _) := hw0
  have HK : Hid (Kb 0 w w0) := kw0
  clear hw0 bw0 kw0
  have e6 : (op != 6) = true := by simp; omega
  have hq0 : ¬ (0 : Int) < (q : Int) := by omega
  clear h h6
  have HZ := sp_l58 (k := k) (f := f) (l := l) (z := z) w0 hz
  rw [dc_f hn] at HZ
  clear hn
  go_enter Try.func11, Try.ntmps11
  go_upto_region 1 with fail
  rw [← (show w0 = _ from HB)]
  go_wp2_with fail
  refine HZ.mono ?_
  rintro e w1 ⟨rfl, k1⟩
  have HF : Hid (Kb 0 w w1) := (show Kb 0 w w0 from HK).trans k1
  have d0 := k1.cell c0
  clear HZ k1 HK c0 c1 c2 c3 c4 c5 c6 c7 c8 c9
  go_wp2_with fail
  go_ret
  exact ⟨rfl, HF⟩
set_option maxHeartbeats 16000000 in
theorem sp_ev_F {op n m k f l : Int} {x y z : ByteArray} {pk : Option Addr} {q ck : Nat} (w : World) (hx : (x.size : Int) ≤ 9223372036854775807) (hy : (y.size : Int) ≤ 9223372036854775807) (hz : (z.size : Int) ≤ 9223372036854775807) (hq : (q : Int) ≤ 9223372036854775807) (h7 : op = 17) (h : (0 : Int) < (q : Int)) (h2 : (q : Int) ≤ 200) (hn : ¬ (k = 0 ∧ f = 0 ∧ l = 0 ∧ z.size = 0)) :
    Calls Try.prog 11 #[.agg #[.int .i64 op, .int .i64 n, .int .i64 m, .string x, .string y, .int .i64 k, .int .i64 f, .int .i64 l, .string z, .slice pk q ck]] w fun e w' => e = .returned (.bool false) ∧ Kb 0 w w' := by
  obtain ⟨w0, hw0⟩ : ∃ w0, w0 = w.alloc (.cells #[.int .i64 op, .int .i64 n, .int .i64 m, .string x, .string y, .int .i64 k, .int .i64 f, .int .i64 l, .string z, .slice pk q ck] 35) := ⟨_, rfl⟩
  have bw0 : w0.heap[w.heap.size]? = some (.cells #[.int .i64 op, .int .i64 n, .int .i64 m, .string x, .string y, .int .i64 k, .int .i64 f, .int .i64 l, .string z, .slice pk q ck] 35 (0, 0)) := by rw [hw0]; exact alloc_new _ _ _
  have kw0 : Kb 0 w w0 := by rw [hw0]; exact kb_alloc _ _ _
  have c0 : w0.cell? ⟨w.heap.size, 0, none⟩ = some (.int .i64 op) := cell_of bw0 rfl
  have c1 : w0.cell? ⟨w.heap.size, 1, none⟩ = some (.int .i64 n) := cell_of bw0 rfl
  have c2 : w0.cell? ⟨w.heap.size, 2, none⟩ = some (.int .i64 m) := cell_of bw0 rfl
  have c3 : w0.cell? ⟨w.heap.size, 3, none⟩ = some (.string x) := cell_of bw0 rfl
  have c4 : w0.cell? ⟨w.heap.size, 4, none⟩ = some (.string y) := cell_of bw0 rfl
  have c5 : w0.cell? ⟨w.heap.size, 5, none⟩ = some (.int .i64 k) := cell_of bw0 rfl
  have c6 : w0.cell? ⟨w.heap.size, 6, none⟩ = some (.int .i64 f) := cell_of bw0 rfl
  have c7 : w0.cell? ⟨w.heap.size, 7, none⟩ = some (.int .i64 l) := cell_of bw0 rfl
  have c8 : w0.cell? ⟨w.heap.size, 8, none⟩ = some (.string z) := cell_of bw0 rfl
  have c9 : w0.cell? ⟨w.heap.size, 9, none⟩ = some (.slice pk q ck) := cell_of bw0 rfl
  have HB : Hid (w0 = _) := hw0
  have HK : Hid (Kb 0 w w0) := kw0
  clear hw0 bw0 kw0
  subst h7
  have HZ := sp_l58 (k := k) (f := f) (l := l) (z := z) w0 hz
  rw [dc_f hn] at HZ
  clear hn
  go_enter Try.func11, Try.ntmps11
  go_upto_region 1 with fail
  rw [← (show w0 = _ from HB)]
  go_wp2_with fail
  refine HZ.mono ?_
  rintro e w1 ⟨rfl, k1⟩
  have HF : Hid (Kb 0 w w1) := (show Kb 0 w w0 from HK).trans k1
  have d0 := k1.cell c0
  clear HZ k1 HK c0 c1 c2 c3 c4 c5 c6 c7 c8 c9
  go_wp2_with fail
  go_ret
  exact ⟨rfl, HF⟩
theorem kh_le (op : Int) : khi op ≤ 200 := by unfold khi; split <;> omega
theorem kh_0 {op : Int} (h : ¬ op = 17) : khi op = 0 := by unfold khi; rw [if_neg h]
theorem sp_event {op n m k f l : Int} {x y z : ByteArray} {pk : Option Addr} {q ck : Nat} (w : World) (hx : (x.size : Int) ≤ 9223372036854775807) (hy : (y.size : Int) ≤ 9223372036854775807) (hz : (z.size : Int) ≤ 9223372036854775807) (hq : (q : Int) ≤ 9223372036854775807) :
    Calls Try.prog 11 #[.agg #[.int .i64 op, .int .i64 n, .int .i64 m, .string x, .string y, .int .i64 k, .int .i64 f, .int .i64 l, .string z, .slice pk q ck]] w fun e w' => e = .returned (.bool (dc (EvP op n m x.size y.size q k f l z.size))) ∧ Kb 0 w w' := by
  by_cases h0 : op < 1
  · rw [dc_f (fun h => by have := h.1; omega)]
    exact sp_ev_A w hx hy hz hq h0
  by_cases h1 : 21 < op
  · rw [dc_f (fun h => by have := h.1; omega)]
    exact sp_ev_B w hx hy hz hq h0 h1
  by_cases h7 : op = 17
  · by_cases h2 : (200 : Int) < (q : Int)
    · rw [dc_f (fun h => by have := h.2.2.2.2.2.1.2; have := kh_le op; omega)]
      exact sp_ev_D w hx hy hz hq h0 h1 h2 h7
    by_cases hs : k = 0 ∧ f = 0 ∧ l = 0 ∧ z.size = 0
    · subst h7
      by_cases h3 : (0 : Int) < (q : Int)
      · exact sp_ev_17b w hx hy hz hq h3 (by omega) hs
      · exact sp_ev_17a w hx hy hz hq h3 hs
    · rw [dc_f (fun h => hs (h.2.2.2.2.2.2.2 (by omega)))]
      by_cases h3 : (0 : Int) < (q : Int)
      · exact sp_ev_F w hx hy hz hq h7 h3 (by omega) hs
      · exact sp_ev_E w hx hy hz hq h0 h1 (by omega) hs (by omega)
  by_cases h2 : (0 : Int) < (q : Int)
  · rw [dc_f (fun h => by have := h.2.2.2.2.2.1.2; rw [kh_0 h7] at this; omega)]
    exact sp_ev_C w hx hy hz hq h0 h1 h2 h7
  by_cases h6 : op = 6
  · subst h6
    by_cases hs : k = 0 ∧ f = 0 ∧ l = 0 ∧ z.size = 0
    · exact sp_ev_6a w hx hy hz hq h2 (dc_t hs)
    · exact sp_ev_6b w hx hy hz hq h2 (dc_f hs)
  by_cases hs : k = 0 ∧ f = 0 ∧ l = 0 ∧ z.size = 0
  rotate_left
  · rw [dc_f (fun h => hs (h.2.2.2.2.2.2.2 h6))]
    exact sp_ev_E w hx hy hz hq h0 h1 (by omega) hs h6
  by_cases o2 : op = 2
  · subst o2; exact sp_ev_2 w hx hy hz hq h2 hs
  by_cases o3 : op = 3
  · subst o3; exact sp_ev_3 w hx hy hz hq h2 hs
  by_cases o4 : op = 4
  · subst o4; exact sp_ev_4 w hx hy hz hq h2 hs
  by_cases o5 : op = 5
  · subst o5; exact sp_ev_5 w hx hy hz hq h2 hs
  by_cases o7 : op = 7
  · subst o7; exact sp_ev_7 w hx hy hz hq h2 hs
  by_cases o12 : op = 12
  · subst o12; exact sp_ev_12 w hx hy hz hq h2 hs
  by_cases o14 : op = 14
  · subst o14; exact sp_ev_14 w hx hy hz hq h2 hs
  by_cases o15 : op = 15
  · subst o15; exact sp_ev_15 w hx hy hz hq h2 hs
  by_cases o19 : op = 19
  · subst o19; exact sp_ev_19 w hx hy hz hq h2 hs
  by_cases o20 : op = 20
  · subst o20; exact sp_ev_20 w hx hy hz hq h2 hs
  exact sp_ev_0 w hx hy hz hq h2 (by omega) (by omega) o2 o3 o4 o5 h6 o7 o12 o14 o15 h7 o19 o20 hs
end Go.Proofs.Ytaoagjajjeddcaa.Fo
