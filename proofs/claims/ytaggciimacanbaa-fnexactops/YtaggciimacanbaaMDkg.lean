import Derived.Test.YtaggciimacanbaaMDkd
import Derived.Test.YtaggciimacanbaaMDje
namespace Go.Proofs.Ytaggciimacanbaa.Fo
open Go.ChangeShapes Go.WideShapes Go.ChangeAt Go.RowKit
set_option linter.unusedVariables false
set_option maxRecDepth 100000
set_option linter.unusedSimpArgs false
set_option maxHeartbeats 8000000 in
theorem sp_lops_max0 {v1 v2 : Value} {D : Dd} {pa : Option Addr} {n ca : Nat} {xn : Nat} {xA : Nat → Int} (w : World) (ha : RowD 0 w v1 v2 D) (hN : ∀ x1 x2 W, RowD 0 W x1 x2 D → Calls Try.prog 62 #[.agg #[x1, x2]] W (KiP true 1000000000000 0 xn xA W)) :
    Calls Try.prog 65 #[.agg #[v1, v2], .slice pa n ca] w fun e w' => e = .returned (.slice none 0 0) ∧ Kb 0 w w' := by
  obtain ⟨⟨p1, c1, rfl, -⟩, ⟨p2, c2, rfl, -⟩⟩ := id ha
  obtain ⟨w1, hw1⟩ : ∃ w1, w1 = w.alloc (.cells #[.slice p1 D.n c1, .slice p2 D.m c2] 30) := ⟨_, rfl⟩
  have k1 : Kb 0 w w1 := by rw [hw1]; exact kb_alloc _ _ _
  have b1 : w1.heap[w.heap.size]? = some (.cells #[.slice p1 D.n c1, .slice p2 D.m c2] 30 (0, 0)) := by rw [hw1]; exact alloc_new _ _ _
  have u0 : w1.cell? ⟨w.heap.size, 0, none⟩ = some (.slice p1 D.n c1) := cell_of b1 rfl
  have u1 : w1.cell? ⟨w.heap.size, 1, none⟩ = some (.slice p2 D.m c2) := cell_of b1 rfl
  have HW1 : Hid (w1 = w.alloc (.cells #[.slice p1 D.n c1, .slice p2 D.m c2] 30)) := hw1
  have HK1 : Hid (Kb 0 w w1) := k1
  have HNC := hN _ _ w1 (ha.keep k1)
  clear hw1 k1 b1 ha hN
  go_enter Try.func65, Try.ntmps65
  go_upto_region 1 with fail
  rw [← (show w1 = _ from HW1)]
  clear HW1
  go_wp2_with fail
  refine HNC.mono ?_
  rintro e wA ⟨vb', gb, rfl, ob, hgb, kA⟩
  obtain ⟨pb, cb, rfl, -⟩ := ob.sl
  obtain ⟨P5, hP5⟩ : ∃ P5, P5 = wA.heap.size := ⟨_, rfl⟩
  obtain ⟨w3, hw3⟩ : ∃ w3, w3 = wA.alloc (.cells #[.bool true, .int .i64 1000000000000, .int .i64 0, .slice pb xn cb] 51) := ⟨_, rfl⟩
  have b5 : w3.heap[P5]? = some (.cells #[.bool true, .int .i64 1000000000000, .int .i64 0, .slice pb xn cb] 51 (0, 0)) := by rw [hw3, hP5]; exact alloc_new _ _ _
  have e0 : w3.cell? ⟨P5, 0, none⟩ = some (.bool true) := cell_of b5 rfl
  have e1 : w3.cell? ⟨P5, 1, none⟩ = some (.int .i64 1000000000000) := cell_of b5 rfl
  have e2 : w3.cell? ⟨P5, 2, none⟩ = some (.int .i64 0) := cell_of b5 rfl
  have HF : Hid (Kb 0 w w3) := ((show Kb 0 w w1 from HK1).trans kA).trans (by rw [hw3]; exact kb_alloc _ _ _)
  have HW3 : Hid (w3 = wA.alloc (.cells #[.bool true, .int .i64 1000000000000, .int .i64 0, .slice pb xn cb] 51) ∧ P5 = wA.heap.size) := (⟨hw3, hP5⟩ : _ ∧ _)
  clear HNC u0 u1 ob hgb kA hP5 hw3 b5 HK1
  go_upto_region 2 with fail
  rw [← (show _ ∧ _ from HW3).1, ← (show _ ∧ _ from HW3).2]
  clear HW3
  go_wp2_with fail
  go_ret
  exact ⟨rfl, HF⟩
set_option maxHeartbeats 8000000 in
theorem sp_lops_max1 {v1 v2 : Value} {D : Dd} {pa : Option Addr} {n ca : Nat} {xn : Nat} {xA : Nat → Int} (w : World) (ha : RowD 0 w v1 v2 D) (hN : ∀ x1 x2 W, RowD 0 W x1 x2 D → Calls Try.prog 62 #[.agg #[x1, x2]] W (KiP true 1000000000000 1 xn xA W)) :
    Calls Try.prog 65 #[.agg #[v1, v2], .slice pa n ca] w fun e w' => e = .returned (.slice none 0 0) ∧ Kb 0 w w' := by
  obtain ⟨⟨p1, c1, rfl, -⟩, ⟨p2, c2, rfl, -⟩⟩ := id ha
  obtain ⟨w1, hw1⟩ : ∃ w1, w1 = w.alloc (.cells #[.slice p1 D.n c1, .slice p2 D.m c2] 30) := ⟨_, rfl⟩
  have k1 : Kb 0 w w1 := by rw [hw1]; exact kb_alloc _ _ _
  have b1 : w1.heap[w.heap.size]? = some (.cells #[.slice p1 D.n c1, .slice p2 D.m c2] 30 (0, 0)) := by rw [hw1]; exact alloc_new _ _ _
  have u0 : w1.cell? ⟨w.heap.size, 0, none⟩ = some (.slice p1 D.n c1) := cell_of b1 rfl
  have u1 : w1.cell? ⟨w.heap.size, 1, none⟩ = some (.slice p2 D.m c2) := cell_of b1 rfl
  have HW1 : Hid (w1 = w.alloc (.cells #[.slice p1 D.n c1, .slice p2 D.m c2] 30)) := hw1
  have HK1 : Hid (Kb 0 w w1) := k1
  have HNC := hN _ _ w1 (ha.keep k1)
  clear hw1 k1 b1 ha hN
  go_enter Try.func65, Try.ntmps65
  go_upto_region 1 with fail
  rw [← (show w1 = _ from HW1)]
  clear HW1
  go_wp2_with fail
  refine HNC.mono ?_
  rintro e wA ⟨vb', gb, rfl, ob, hgb, kA⟩
  obtain ⟨pb, cb, rfl, -⟩ := ob.sl
  obtain ⟨P5, hP5⟩ : ∃ P5, P5 = wA.heap.size := ⟨_, rfl⟩
  obtain ⟨w3, hw3⟩ : ∃ w3, w3 = wA.alloc (.cells #[.bool true, .int .i64 1000000000000, .int .i64 1, .slice pb xn cb] 51) := ⟨_, rfl⟩
  have b5 : w3.heap[P5]? = some (.cells #[.bool true, .int .i64 1000000000000, .int .i64 1, .slice pb xn cb] 51 (0, 0)) := by rw [hw3, hP5]; exact alloc_new _ _ _
  have e0 : w3.cell? ⟨P5, 0, none⟩ = some (.bool true) := cell_of b5 rfl
  have e1 : w3.cell? ⟨P5, 1, none⟩ = some (.int .i64 1000000000000) := cell_of b5 rfl
  have e2 : w3.cell? ⟨P5, 2, none⟩ = some (.int .i64 1) := cell_of b5 rfl
  have HF : Hid (Kb 0 w w3) := ((show Kb 0 w w1 from HK1).trans kA).trans (by rw [hw3]; exact kb_alloc _ _ _)
  have HW3 : Hid (w3 = wA.alloc (.cells #[.bool true, .int .i64 1000000000000, .int .i64 1, .slice pb xn cb] 51) ∧ P5 = wA.heap.size) := (⟨hw3, hP5⟩ : _ ∧ _)
  clear HNC u0 u1 ob hgb kA hP5 hw3 b5 HK1
  go_upto_region 2 with fail
  rw [← (show _ ∧ _ from HW3).1, ← (show _ ∧ _ from HW3).2]
  clear HW3
  go_wp2_with fail
  go_ret
  exact ⟨rfl, HF⟩
set_option maxHeartbeats 8000000 in
theorem sp_ops_1 {v1 v2 : Value} {D : Dd} {pa : Option Addr} {n ca : Nat} (w : World) (ha : RowD 0 w v1 v2 D) (hd : BdD D) (hok : ¬ Dok D) :
    Calls Try.prog 32 #[.agg #[v1, v2], .slice pa n ca] w fun e w' => e = .returned (.slice none 0 0) ∧ Kb 0 w w' := by
  obtain ⟨⟨p1, c1, rfl, -⟩, ⟨p2, c2, rfl, -⟩⟩ := id ha
  obtain ⟨w1, hw1⟩ : ∃ w1, w1 = w.alloc (.cells #[.slice p1 D.n c1, .slice p2 D.m c2] 30) := ⟨_, rfl⟩
  have k1 : Kb 0 w w1 := by rw [hw1]; exact kb_alloc _ _ _
  have b1 : w1.heap[w.heap.size]? = some (.cells #[.slice p1 D.n c1, .slice p2 D.m c2] 30 (0, 0)) := by rw [hw1]; exact alloc_new _ _ _
  have u0 : w1.cell? ⟨w.heap.size, 0, none⟩ = some (.slice p1 D.n c1) := cell_of b1 rfl
  have u1 : w1.cell? ⟨w.heap.size, 1, none⟩ = some (.slice p2 D.m c2) := cell_of b1 rfl
  have HW1 : Hid (w1 = w.alloc (.cells #[.slice p1 D.n c1, .slice p2 D.m c2] 30)) := hw1
  have HK1 : Hid (Kb 0 w w1) := k1
  have HI : Calls Try.prog 43 #[.agg #[.slice p1 D.n c1, .slice p2 D.m c2]] w1 fun e w' => e = .returned (.bool false) ∧ Kb 0 w1 w' := by
    have := sp_dok w1 (ha.keep k1) hd
    rw [dc_f hok] at this
    exact this
  clear hw1 k1 b1 ha hd hok
  go_enter Try.func32, Try.ntmps32
  go_upto_region 1 with fail
  rw [← (show w1 = _ from HW1)]
  clear HW1
  go_wp2_with fail
  refine HI.mono ?_
  rintro e w3 ⟨rfl, k3⟩
  have u31 := k3.cell u1
  have HF : Hid (Kb 0 w w3) := (show Kb 0 w w1 from HK1).trans k3
  clear HI u0 u1 k3 HK1
  go_wp2_with fail
  go_ret
  exact ⟨rfl, HF⟩
set_option maxHeartbeats 8000000 in
theorem sp_ops_2 {v1 v2 : Value} {D : Dd} {pa : Option Addr} {n ca : Nat} (w : World) (ha : RowD 0 w v1 v2 D) (hd : BdD D) (hok : Dok D) (hm : 0 < (D.m : Int)) :
    Calls Try.prog 32 #[.agg #[v1, v2], .slice pa n ca] w fun e w' => e = .returned (.slice none 0 0) ∧ Kb 0 w w' := by
  obtain ⟨⟨p1, c1, rfl, -⟩, ⟨p2, c2, rfl, -⟩⟩ := id ha
  obtain ⟨w1, hw1⟩ : ∃ w1, w1 = w.alloc (.cells #[.slice p1 D.n c1, .slice p2 D.m c2] 30) := ⟨_, rfl⟩
  have k1 : Kb 0 w w1 := by rw [hw1]; exact kb_alloc _ _ _
  have b1 : w1.heap[w.heap.size]? = some (.cells #[.slice p1 D.n c1, .slice p2 D.m c2] 30 (0, 0)) := by rw [hw1]; exact alloc_new _ _ _
  have u0 : w1.cell? ⟨w.heap.size, 0, none⟩ = some (.slice p1 D.n c1) := cell_of b1 rfl
  have u1 : w1.cell? ⟨w.heap.size, 1, none⟩ = some (.slice p2 D.m c2) := cell_of b1 rfl
  have HW1 : Hid (w1 = w.alloc (.cells #[.slice p1 D.n c1, .slice p2 D.m c2] 30)) := hw1
  have HK1 : Hid (Kb 0 w w1) := k1
  have HI : Calls Try.prog 43 #[.agg #[.slice p1 D.n c1, .slice p2 D.m c2]] w1 fun e w' => e = .returned (.bool true) ∧ Kb 0 w1 w' := by
    have := sp_dok w1 (ha.keep k1) hd
    rw [dc_t hok] at this
    exact this
  clear hw1 k1 b1 ha hd hok
  go_enter Try.func32, Try.ntmps32
  go_upto_region 1 with fail
  rw [← (show w1 = _ from HW1)]
  clear HW1
  go_wp2_with fail
  refine HI.mono ?_
  rintro e w3 ⟨rfl, k3⟩
  have u31 := k3.cell u1
  have HF : Hid (Kb 0 w w3) := (show Kb 0 w w1 from HK1).trans k3
  clear HI u0 u1 k3 HK1
  go_wp2_with fail
  go_ret
  exact ⟨rfl, HF⟩
set_option maxHeartbeats 8000000 in
theorem sp_ops_3 {v1 v2 : Value} {D : Dd} {pa : Option Addr} {n ca : Nat} (w : World) (ha : RowD 0 w v1 v2 D) (hd : BdD D) (hok : Dok D) (hm : (D.m : Int) = 0) (hn : (n : Int) = 0) :
    Calls Try.prog 32 #[.agg #[v1, v2], .slice pa n ca] w fun e w' => e = .returned (.slice none 0 0) ∧ Kb 0 w w' := by
  obtain ⟨⟨p1, c1, rfl, -⟩, ⟨p2, c2, rfl, -⟩⟩ := id ha
  obtain ⟨w1, hw1⟩ : ∃ w1, w1 = w.alloc (.cells #[.slice p1 D.n c1, .slice p2 D.m c2] 30) := ⟨_, rfl⟩
  have k1 : Kb 0 w w1 := by rw [hw1]; exact kb_alloc _ _ _
  have b1 : w1.heap[w.heap.size]? = some (.cells #[.slice p1 D.n c1, .slice p2 D.m c2] 30 (0, 0)) := by rw [hw1]; exact alloc_new _ _ _
  have u0 : w1.cell? ⟨w.heap.size, 0, none⟩ = some (.slice p1 D.n c1) := cell_of b1 rfl
  have u1 : w1.cell? ⟨w.heap.size, 1, none⟩ = some (.slice p2 D.m c2) := cell_of b1 rfl
  have HW1 : Hid (w1 = w.alloc (.cells #[.slice p1 D.n c1, .slice p2 D.m c2] 30)) := hw1
  have HK1 : Hid (Kb 0 w w1) := k1
  have HI : Calls Try.prog 43 #[.agg #[.slice p1 D.n c1, .slice p2 D.m c2]] w1 fun e w' => e = .returned (.bool true) ∧ Kb 0 w1 w' := by
    have := sp_dok w1 (ha.keep k1) hd
    rw [dc_t hok] at this
    exact this
  clear hw1 k1 b1 ha hd hok
  go_enter Try.func32, Try.ntmps32
  go_upto_region 1 with fail
  rw [← (show w1 = _ from HW1)]
  clear HW1
  go_wp2_with fail
  refine HI.mono ?_
  rintro e w3 ⟨rfl, k3⟩
  have u31 := k3.cell u1
  have HF : Hid (Kb 0 w w3) := (show Kb 0 w w1 from HK1).trans k3
  clear HI u0 u1 k3 HK1
  go_wp2_with fail
  go_ret
  exact ⟨rfl, HF⟩
set_option maxHeartbeats 8000000 in
theorem sp_ops_4 {v1 v2 : Value} {D : Dd} {pa : Option Addr} {n ca : Nat} (w : World) (ha : RowD 0 w v1 v2 D) (hd : BdD D) (hok : Dok D) (hm : (D.m : Int) = 0) (hn : (8192 : Int) < (n : Int)) :
    Calls Try.prog 32 #[.agg #[v1, v2], .slice pa n ca] w fun e w' => e = .returned (.slice none 0 0) ∧ Kb 0 w w' := by
  obtain ⟨⟨p1, c1, rfl, -⟩, ⟨p2, c2, rfl, -⟩⟩ := id ha
  obtain ⟨w1, hw1⟩ : ∃ w1, w1 = w.alloc (.cells #[.slice p1 D.n c1, .slice p2 D.m c2] 30) := ⟨_, rfl⟩
  have k1 : Kb 0 w w1 := by rw [hw1]; exact kb_alloc _ _ _
  have b1 : w1.heap[w.heap.size]? = some (.cells #[.slice p1 D.n c1, .slice p2 D.m c2] 30 (0, 0)) := by rw [hw1]; exact alloc_new _ _ _
  have u0 : w1.cell? ⟨w.heap.size, 0, none⟩ = some (.slice p1 D.n c1) := cell_of b1 rfl
  have u1 : w1.cell? ⟨w.heap.size, 1, none⟩ = some (.slice p2 D.m c2) := cell_of b1 rfl
  have HW1 : Hid (w1 = w.alloc (.cells #[.slice p1 D.n c1, .slice p2 D.m c2] 30)) := hw1
  have HK1 : Hid (Kb 0 w w1) := k1
  have HI : Calls Try.prog 43 #[.agg #[.slice p1 D.n c1, .slice p2 D.m c2]] w1 fun e w' => e = .returned (.bool true) ∧ Kb 0 w1 w' := by
    have := sp_dok w1 (ha.keep k1) hd
    rw [dc_t hok] at this
    exact this
  have hn1 : ¬ (n : Int) = 0 := by omega
  have hx1 : ((n : Int) == 0) = false := by simp; omega
  clear hw1 k1 b1 ha hd hok
  go_enter Try.func32, Try.ntmps32
  go_upto_region 1 with fail
  rw [← (show w1 = _ from HW1)]
  clear HW1
  go_wp2_with fail
  refine HI.mono ?_
  rintro e w3 ⟨rfl, k3⟩
  have u31 := k3.cell u1
  have HF : Hid (Kb 0 w w3) := (show Kb 0 w w1 from HK1).trans k3
  clear HI u0 u1 k3 HK1
  go_wp2_with fail
  go_ret
  exact ⟨rfl, HF⟩
set_option maxHeartbeats 8000000 in
theorem sp_ops_go {v1 v2 : Value} {D : Dd} {pa : Option Addr} {n ca : Nat} {R : Value → World → Prop} (w : World) (ha : RowD 0 w v1 v2 D) (hd : BdD D) (hok : Dok D) (hm : D.m = 0) (hn0 : 0 < n) (hn : n ≤ 8192) (hc : ∀ x1 x2 W, Kb 0 w W → RowD 0 W x1 x2 D → Calls Try.prog 65 #[.agg #[x1, x2], .slice pa n ca] W fun e w' => ∃ v, e = .returned v ∧ (∃ p m c, v = .slice p m c) ∧ R v w' ∧ Kb 0 W w') :
    Calls Try.prog 32 #[.agg #[v1, v2], .slice pa n ca] w fun e w' => ∃ v, e = .returned v ∧ R v w' ∧ Kb 0 w w' := by
  obtain ⟨⟨p1, c1, rfl, -⟩, ⟨p2, c2, rfl, -⟩⟩ := id ha
  obtain ⟨w1, hw1⟩ : ∃ w1, w1 = w.alloc (.cells #[.slice p1 D.n c1, .slice p2 D.m c2] 30) := ⟨_, rfl⟩
  have k1 : Kb 0 w w1 := by rw [hw1]; exact kb_alloc _ _ _
  have b1 : w1.heap[w.heap.size]? = some (.cells #[.slice p1 D.n c1, .slice p2 D.m c2] 30 (0, 0)) := by rw [hw1]; exact alloc_new _ _ _
  have u0 : w1.cell? ⟨w.heap.size, 0, none⟩ = some (.slice p1 D.n c1) := cell_of b1 rfl
  have u1 : w1.cell? ⟨w.heap.size, 1, none⟩ = some (.slice p2 D.m c2) := cell_of b1 rfl
  have HW1 : Hid (w1 = w.alloc (.cells #[.slice p1 D.n c1, .slice p2 D.m c2] 30)) := hw1
  have HK1 : Hid (Kb 0 w w1) := k1
  have HI : Calls Try.prog 43 #[.agg #[.slice p1 D.n c1, .slice p2 D.m c2]] w1 fun e w' => e = .returned (.bool true) ∧ Kb 0 w1 w' := by
    have := sp_dok w1 (ha.keep k1) hd
    rw [dc_t hok] at this
    exact this
  have HCA : Hid (∀ W, Kb 0 w1 W → Calls Try.prog 65 #[.agg #[.slice p1 D.n c1, .slice p2 D.m c2], .slice pa n ca] W fun e w' => ∃ v, e = .returned v ∧ (∃ p m c, v = .slice p m c) ∧ R v w' ∧ Kb 0 W w') := (fun W k => hc _ _ W (k1.trans k) (ha.keep (k1.trans k)) : ∀ W, _)
  have hmI : ¬ (0 : Int) < (D.m : Int) := by omega
  have hn1 : ¬ (n : Int) = 0 := by omega
  have hn2 : ¬ (8192 : Int) < (n : Int) := by omega
  have hx1 : ((n : Int) == 0) = false := by simp; omega
  have HMM : Hid (D.m = 0) := hm
  clear hw1 k1 b1 ha hd hok hc hm
  go_enter Try.func32, Try.ntmps32
  go_upto_region 1 with fail
  rw [← (show w1 = _ from HW1)]
  clear HW1
  go_wp2_with fail
  refine HI.mono ?_
  rintro e w3 ⟨rfl, k3⟩
  have u30 := k3.cell u0
  have u31 := k3.cell u1
  have HC := (show ∀ W, Kb 0 w1 W → _ from HCA) w3 k3
  have HK3 : Hid (Kb 0 w w3) := (show Kb 0 w w1 from HK1).trans k3
  rw [(show D.m = 0 from HMM)] at HC
  clear HI u0 u1 k3 HK1 HCA
  go_wp2_with fail
  refine HC.mono ?_
  rintro e w4 ⟨v, rfl, ⟨p, mm, c, rfl⟩, hR, k4⟩
  have HF : Hid (R (.slice p mm c) w4 ∧ Kb 0 w w4) := (⟨hR, (show Kb 0 w w3 from HK3).trans k4⟩ : _ ∧ _)
  clear HC hR k4 HK3 u30 u31
  go_wp2_with fail
  go_ret
  exact ⟨_, rfl, HF⟩
end Go.Proofs.Ytaggciimacanbaa.Fo

namespace Go.Proofs.Ytaggciimacanbaa.Fo
open Go.ChangeShapes Go.WideShapes Go.ChangeAt Go.RowKit
set_option linter.unusedVariables false
set_option maxRecDepth 100000
set_option linter.unusedSimpArgs false
set_option maxHeartbeats 8000000 in
theorem im_ops_max {v1 v2 : Value} {D : Dd} {pa : Option Addr} {n ca : Nat} {xs : Int} {xn : Nat} {xA : Nat → Int} (w : World) (ha : RowD 0 w v1 v2 D) (hd : BdD D) (hok : Dok D) (hm : D.m = 0) (hn0 : 0 < n) (hn : n ≤ 8192) (hN : ∀ x1 x2 W, RowD 0 W x1 x2 D → Calls Try.prog 28 #[.agg #[x1, x2]] W (KiP true 1000000000000 xs xn xA W)) :
    Calls Try.prog 33 #[.agg #[v1, v2], .slice pa n ca] w fun e w' => e = .returned (.slice none 0 0) ∧ Kb 0 w w' := by
  obtain ⟨⟨p1, c1, rfl, -⟩, ⟨p2, c2, rfl, -⟩⟩ := id ha
  obtain ⟨w1, hw1⟩ : ∃ w1, w1 = w.alloc (.cells #[.slice p1 D.n c1, .slice p2 D.m c2] 30) := ⟨_, rfl⟩
  have k1 : Kb 0 w w1 := by rw [hw1]; exact kb_alloc _ _ _
  have b1 : w1.heap[w.heap.size]? = some (.cells #[.slice p1 D.n c1, .slice p2 D.m c2] 30 (0, 0)) := by rw [hw1]; exact alloc_new _ _ _
  have u0 : w1.cell? ⟨w.heap.size, 0, none⟩ = some (.slice p1 D.n c1) := cell_of b1 rfl
  have u1 : w1.cell? ⟨w.heap.size, 1, none⟩ = some (.slice p2 D.m c2) := cell_of b1 rfl
  have HW1 : Hid (w1 = w.alloc (.cells #[.slice p1 D.n c1, .slice p2 D.m c2] 30)) := hw1
  have HK1 : Hid (Kb 0 w w1) := k1
  have HI : Calls Try.prog 66 #[.agg #[.slice p1 D.n c1, .slice p2 D.m c2]] w1 fun e w' => e = .returned (.bool true) ∧ Kb 0 w1 w' := by
    have := im_dok w1 (ha.keep k1) hd
    rw [dc_t hok] at this
    exact this
  have HCA : Hid (∀ W, Kb 0 w1 W → Calls Try.prog 28 #[.agg #[.slice p1 D.n c1, .slice p2 D.m c2]] W (KiP true 1000000000000 xs xn xA W)) := (fun W k => hN _ _ W (ha.keep (k1.trans k)) : ∀ W, _)
  have hmI : (D.m : Int) = 0 := by omega
  have hn1 : ¬ (n : Int) = 0 := by omega
  have hn2 : ¬ (8192 : Int) < (n : Int) := by omega
  have hx1 : ((n : Int) == 0) = false := by simp; omega
  have HMM : Hid (D.m = 0) := hm
  clear hw1 k1 b1 ha hd hok hN hm
  go_enter Try.func33, Try.ntmps33
  go_upto_region 1 with fail
  rw [← (show w1 = _ from HW1)]
  clear HW1
  go_wp2_with fail
  refine HI.mono ?_
  rintro e w3 ⟨rfl, k3⟩
  have u30 := k3.cell u0
  have u31 := k3.cell u1
  have HC := (show ∀ W, Kb 0 w1 W → _ from HCA) w3 k3
  have HK3 : Hid (Kb 0 w w3) := (show Kb 0 w w1 from HK1).trans k3
  clear HI u0 u1 k3 HK1 HCA
  go_wp2_with fail
  refine HC.mono ?_
  rintro e wA ⟨vb', gb, rfl, ob, hgb, kA⟩
  obtain ⟨pb, cb, rfl, -⟩ := ob.sl
  obtain ⟨P5, hP5⟩ : ∃ P5, P5 = wA.heap.size := ⟨_, rfl⟩
  obtain ⟨w4, hw4⟩ : ∃ w4, w4 = wA.alloc (.cells #[.bool true, .int .i64 1000000000000, .int .i64 xs, .slice pb xn cb] 51) := ⟨_, rfl⟩
  have b5 : w4.heap[P5]? = some (.cells #[.bool true, .int .i64 1000000000000, .int .i64 xs, .slice pb xn cb] 51 (0, 0)) := by rw [hw4, hP5]; exact alloc_new _ _ _
  have e0 : w4.cell? ⟨P5, 0, none⟩ = some (.bool true) := cell_of b5 rfl
  have e1 : w4.cell? ⟨P5, 1, none⟩ = some (.int .i64 1000000000000) := cell_of b5 rfl
  have e2 : w4.cell? ⟨P5, 2, none⟩ = some (.int .i64 xs) := cell_of b5 rfl
  have HF : Hid (Kb 0 w w4) := ((show Kb 0 w w3 from HK3).trans kA).trans (by rw [hw4]; exact kb_alloc _ _ _)
  have HW4 : Hid (w4 = wA.alloc (.cells #[.bool true, .int .i64 1000000000000, .int .i64 xs, .slice pb xn cb] 51) ∧ P5 = wA.heap.size) := (⟨hw4, hP5⟩ : _ ∧ _)
  clear HC u30 u31 ob hgb kA hP5 hw4 b5 HK3
  go_upto_region 4 with fail
  rw [← (show _ ∧ _ from HW4).1, ← (show _ ∧ _ from HW4).2]
  clear HW4
  go_wp2_with fail
  go_ret
  exact ⟨rfl, HF⟩
end Go.Proofs.Ytaggciimacanbaa.Fo

namespace Go.Proofs.Ytaggciimacanbaa.Fo
open Go.ChangeShapes Go.WideShapes Go.ChangeAt Go.RowKit
set_option linter.unusedVariables false
set_option maxRecDepth 100000
set_option linter.unusedSimpArgs false
set_option maxHeartbeats 8000000 in
theorem im_ops_1 {v1 v2 : Value} {D : Dd} {pa : Option Addr} {n ca : Nat} (w : World) (ha : RowD 0 w v1 v2 D) (hd : BdD D) (hok : ¬ Dok D) :
    Calls Try.prog 33 #[.agg #[v1, v2], .slice pa n ca] w fun e w' => e = .returned (.slice none 0 0) ∧ Kb 0 w w' := by
  obtain ⟨⟨p1, c1, rfl, -⟩, ⟨p2, c2, rfl, -⟩⟩ := id ha
  obtain ⟨w1, hw1⟩ : ∃ w1, w1 = w.alloc (.cells #[.slice p1 D.n c1, .slice p2 D.m c2] 30) := ⟨_, rfl⟩
  have k1 : Kb 0 w w1 := by rw [hw1]; exact kb_alloc _ _ _
  have b1 : w1.heap[w.heap.size]? = some (.cells #[.slice p1 D.n c1, .slice p2 D.m c2] 30 (0, 0)) := by rw [hw1]; exact alloc_new _ _ _
  have u0 : w1.cell? ⟨w.heap.size, 0, none⟩ = some (.slice p1 D.n c1) := cell_of b1 rfl
  have u1 : w1.cell? ⟨w.heap.size, 1, none⟩ = some (.slice p2 D.m c2) := cell_of b1 rfl
  have HW1 : Hid (w1 = w.alloc (.cells #[.slice p1 D.n c1, .slice p2 D.m c2] 30)) := hw1
  have HK1 : Hid (Kb 0 w w1) := k1
  have HI : Calls Try.prog 66 #[.agg #[.slice p1 D.n c1, .slice p2 D.m c2]] w1 fun e w' => e = .returned (.bool false) ∧ Kb 0 w1 w' := by
    have := im_dok w1 (ha.keep k1) hd
    rw [dc_f hok] at this
    exact this
  clear hw1 k1 b1 ha hd hok
  go_enter Try.func33, Try.ntmps33
  go_upto_region 1 with fail
  rw [← (show w1 = _ from HW1)]
  clear HW1
  go_wp2_with fail
  refine HI.mono ?_
  rintro e w3 ⟨rfl, k3⟩
  have u31 := k3.cell u1
  have HF : Hid (Kb 0 w w3) := (show Kb 0 w w1 from HK1).trans k3
  clear HI u0 u1 k3 HK1
  go_wp2_with fail
  go_ret
  exact ⟨rfl, HF⟩
set_option maxHeartbeats 8000000 in
theorem im_ops_2 {v1 v2 : Value} {D : Dd} {pa : Option Addr} {n ca : Nat} (w : World) (ha : RowD 0 w v1 v2 D) (hd : BdD D) (hok : Dok D) (hm : 0 < (D.m : Int)) :
    Calls Try.prog 33 #[.agg #[v1, v2], .slice pa n ca] w fun e w' => e = .returned (.slice none 0 0) ∧ Kb 0 w w' := by
  obtain ⟨⟨p1, c1, rfl, -⟩, ⟨p2, c2, rfl, -⟩⟩ := id ha
  obtain ⟨w1, hw1⟩ : ∃ w1, w1 = w.alloc (.cells #[.slice p1 D.n c1, .slice p2 D.m c2] 30) := ⟨_, rfl⟩
  have k1 : Kb 0 w w1 := by rw [hw1]; exact kb_alloc _ _ _
  have b1 : w1.heap[w.heap.size]? = some (.cells #[.slice p1 D.n c1, .slice p2 D.m c2] 30 (0, 0)) := by rw [hw1]; exact alloc_new _ _ _
  have u0 : w1.cell? ⟨w.heap.size, 0, none⟩ = some (.slice p1 D.n c1) := cell_of b1 rfl
  have u1 : w1.cell? ⟨w.heap.size, 1, none⟩ = some (.slice p2 D.m c2) := cell_of b1 rfl
  have HW1 : Hid (w1 = w.alloc (.cells #[.slice p1 D.n c1, .slice p2 D.m c2] 30)) := hw1
  have HK1 : Hid (Kb 0 w w1) := k1
  have HI : Calls Try.prog 66 #[.agg #[.slice p1 D.n c1, .slice p2 D.m c2]] w1 fun e w' => e = .returned (.bool true) ∧ Kb 0 w1 w' := by
    have := im_dok w1 (ha.keep k1) hd
    rw [dc_t hok] at this
    exact this
  have hmn : ¬ (D.m : Int) = 0 := by omega
  have hmx : ((D.m : Int) == 0) = false := by simp; omega
  have hmy : ((D.m : Int) != 0) = true := by simp; omega
  clear hw1 k1 b1 ha hd hok
  go_enter Try.func33, Try.ntmps33
  go_upto_region 1 with fail
  rw [← (show w1 = _ from HW1)]
  clear HW1
  go_wp2_with fail
  refine HI.mono ?_
  rintro e w3 ⟨rfl, k3⟩
  have u31 := k3.cell u1
  have HF : Hid (Kb 0 w w3) := (show Kb 0 w w1 from HK1).trans k3
  clear HI u0 u1 k3 HK1
  go_wp2_with fail
  go_ret
  exact ⟨rfl, HF⟩
set_option maxHeartbeats 8000000 in
theorem im_ops_3 {v1 v2 : Value} {D : Dd} {pa : Option Addr} {n ca : Nat} (w : World) (ha : RowD 0 w v1 v2 D) (hd : BdD D) (hok : Dok D) (hm : (D.m : Int) = 0) (hn : (n : Int) = 0) :
    Calls Try.prog 33 #[.agg #[v1, v2], .slice pa n ca] w fun e w' => e = .returned (.slice none 0 0) ∧ Kb 0 w w' := by
  obtain ⟨⟨p1, c1, rfl, -⟩, ⟨p2, c2, rfl, -⟩⟩ := id ha
  obtain ⟨w1, hw1⟩ : ∃ w1, w1 = w.alloc (.cells #[.slice p1 D.n c1, .slice p2 D.m c2] 30) := ⟨_, rfl⟩
  have k1 : Kb 0 w w1 := by rw [hw1]; exact kb_alloc _ _ _
  have b1 : w1.heap[w.heap.size]? = some (.cells #[.slice p1 D.n c1, .slice p2 D.m c2] 30 (0, 0)) := by rw [hw1]; exact alloc_new _ _ _
  have u0 : w1.cell? ⟨w.heap.size, 0, none⟩ = some (.slice p1 D.n c1) := cell_of b1 rfl
  have u1 : w1.cell? ⟨w.heap.size, 1, none⟩ = some (.slice p2 D.m c2) := cell_of b1 rfl
  have HW1 : Hid (w1 = w.alloc (.cells #[.slice p1 D.n c1, .slice p2 D.m c2] 30)) := hw1
  have HK1 : Hid (Kb 0 w w1) := k1
  have HI : Calls Try.prog 66 #[.agg #[.slice p1 D.n c1, .slice p2 D.m c2]] w1 fun e w' => e = .returned (.bool true) ∧ Kb 0 w1 w' := by
    have := im_dok w1 (ha.keep k1) hd
    rw [dc_t hok] at this
    exact this
  clear hw1 k1 b1 ha hd hok
  go_enter Try.func33, Try.ntmps33
  go_upto_region 1 with fail
  rw [← (show w1 = _ from HW1)]
  clear HW1
  go_wp2_with fail
  refine HI.mono ?_
  rintro e w3 ⟨rfl, k3⟩
  have u31 := k3.cell u1
  have HF : Hid (Kb 0 w w3) := (show Kb 0 w w1 from HK1).trans k3
  clear HI u0 u1 k3 HK1
  go_wp2_with fail
  go_ret
  exact ⟨rfl, HF⟩
set_option maxHeartbeats 8000000 in
theorem im_ops_4 {v1 v2 : Value} {D : Dd} {pa : Option Addr} {n ca : Nat} (w : World) (ha : RowD 0 w v1 v2 D) (hd : BdD D) (hok : Dok D) (hm : (D.m : Int) = 0) (hn : (8192 : Int) < (n : Int)) :
    Calls Try.prog 33 #[.agg #[v1, v2], .slice pa n ca] w fun e w' => e = .returned (.slice none 0 0) ∧ Kb 0 w w' := by
  obtain ⟨⟨p1, c1, rfl, -⟩, ⟨p2, c2, rfl, -⟩⟩ := id ha
  obtain ⟨w1, hw1⟩ : ∃ w1, w1 = w.alloc (.cells #[.slice p1 D.n c1, .slice p2 D.m c2] 30) := ⟨_, rfl⟩
  have k1 : Kb 0 w w1 := by rw [hw1]; exact kb_alloc _ _ _
  have b1 : w1.heap[w.heap.size]? = some (.cells #[.slice p1 D.n c1, .slice p2 D.m c2] 30 (0, 0)) := by rw [hw1]; exact alloc_new _ _ _
  have u0 : w1.cell? ⟨w.heap.size, 0, none⟩ = some (.slice p1 D.n c1) := cell_of b1 rfl
  have u1 : w1.cell? ⟨w.heap.size, 1, none⟩ = some (.slice p2 D.m c2) := cell_of b1 rfl
  have HW1 : Hid (w1 = w.alloc (.cells #[.slice p1 D.n c1, .slice p2 D.m c2] 30)) := hw1
  have HK1 : Hid (Kb 0 w w1) := k1
  have HI : Calls Try.prog 66 #[.agg #[.slice p1 D.n c1, .slice p2 D.m c2]] w1 fun e w' => e = .returned (.bool true) ∧ Kb 0 w1 w' := by
    have := im_dok w1 (ha.keep k1) hd
    rw [dc_t hok] at this
    exact this
  have hn1 : ¬ (n : Int) = 0 := by omega
  have hx1 : ((n : Int) == 0) = false := by simp; omega
  clear hw1 k1 b1 ha hd hok
  go_enter Try.func33, Try.ntmps33
  go_upto_region 1 with fail
  rw [← (show w1 = _ from HW1)]
  clear HW1
  go_wp2_with fail
  refine HI.mono ?_
  rintro e w3 ⟨rfl, k3⟩
  have u31 := k3.cell u1
  have HF : Hid (Kb 0 w w3) := (show Kb 0 w w1 from HK1).trans k3
  clear HI u0 u1 k3 HK1
  go_wp2_with fail
  go_ret
  exact ⟨rfl, HF⟩
end Go.Proofs.Ytaggciimacanbaa.Fo
