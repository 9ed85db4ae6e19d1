import Derived.Test.YtieccnkabllamaaNbe
import Derived.Deep.RegionHeldLaw
namespace Go.Proofs.Ytieccnkabllamaa.Fo
open Go.ChangeShapes Go.WideShapes Go.ChangeAt Go.RowKit
set_option linter.unusedVariables false
set_option maxRecDepth 100000
theorem eq_ints' {va vb : Value} {n : Nat} {A : Nat → Int} (w : World) (ha : RowB 0 w va n (fun i => .int .i64 (A i))) (hb : RowB 0 w vb n (fun i => .int .i64 (A i))) (hn : n ≤ 1048576) :
    Calls Try.prog 103 #[va, vb] w fun e w' => e = .returned (.bool true) ∧ Kb 0 w w' := by
  refine (eq_ints w ha.row hb.row hn).mono ?_
  rintro e w' ⟨rfl, d, rfl⟩
  exact ⟨rfl, (Kb.refl _ _).drewN d⟩
theorem eq_strs' {va vb : Value} {n : Nat} {A : Nat → ByteArray} (w : World) (ha : RowB 0 w va n (fun i => .string (A i))) (hb : RowB 0 w vb n (fun i => .string (A i))) (hn : n ≤ 1048576) :
    Calls Try.prog 34 #[va, vb] w fun e w' => e = .returned (.bool true) ∧ Kb 0 w w' := by
  refine (eq_strs w ha.row hb.row hn).mono ?_
  rintro e w' ⟨rfl, d, rfl⟩
  exact ⟨rfl, (Kb.refl _ _).drewN d⟩
set_option maxHeartbeats 4000000 in
theorem eq_up (u : Bool × Int) (w : World) : Calls Try.prog 95 #[upv u, upv u] w fun e w' => e = .returned (.bool true) ∧ Kb 0 w w' := by
  unfold upv
  obtain ⟨b, z⟩ := u
  have h1 : (z != z) = false := by simp
  have h2 : (b != b) = false := by cases b <;> rfl
  cases b
  all_goals
    go_enter Try.func95, Try.ntmps95
    go_wp2_with fail
    go_ret
    exact ⟨rfl, kb_alloc2 _ _ _ _⟩
set_option maxHeartbeats 8000000 in
theorem eq_node {a : Nv} {vr vk ur uk : Value} (w : World)
    (g0 : ∀ W', Kb 0 w W' → Calls Try.prog 103 #[vr, ur] W' fun e w' => e = .returned (.bool true) ∧ Kb 0 W' w')
    (g1 : ∀ W', Kb 0 w W' → Calls Try.prog 103 #[vk, uk] W' fun e w' => e = .returned (.bool true) ∧ Kb 0 W' w') (hg : a.g < 18446744073709551616) :
    Calls Try.prog 96 #[ndv a vr vk, ndv a ur uk] w fun e w' => e = .returned (.bool true) ∧ Kb 0 w w' := by
  have G0 : Hid (∀ W', Kb 0 w W' → Calls Try.prog 103 #[vr, ur] W' fun e w' => e = .returned (.bool true) ∧ Kb 0 W' w') := g0
  have G1 : Hid (∀ W', Kb 0 w W' → Calls Try.prog 103 #[vk, uk] W' fun e w' => e = .returned (.bool true) ∧ Kb 0 W' w') := g1
  clear g0 g1
  unfold ndv
  obtain ⟨k, l, o, m, g, x⟩ := a
  have hsf := same_flt g hg
  have e1 : (k != k) = false := by simp
  have e2 : (l != l) = false := by simp
  have e3 : (o != o) = false := by simp
  have e4 : (m != m) = false := by simp
  dsimp only
  clear hg
  obtain ⟨w2, hw2⟩ : ∃ w2, w2 = (w.alloc (.cells #[.int .i64 k, .int .i64 l, .int .i64 o, .int .i64 m, .float .f64 g, .string x, vr, vk] 79)).alloc (.cells #[.int .i64 k, .int .i64 l, .int .i64 o, .int .i64 m, .float .f64 g, .string x, ur, uk] 79) := ⟨_, rfl⟩
  have k2 : Kb 0 w w2 := by rw [hw2]; exact kb_alloc2 _ _ _ _
  have b0 : w2.heap[w.heap.size]? = some (.cells #[.int .i64 k, .int .i64 l, .int .i64 o, .int .i64 m, .float .f64 g, .string x, vr, vk] 79 (0, 0)) := by
    rw [hw2, (kb_alloc 0 _ _).block _ (Nat.zero_le _) (by rw [World.size_alloc]; omega)]
    exact alloc_new _ _ _
  have b1 : w2.heap[w.heap.size + 1]? = some (.cells #[.int .i64 k, .int .i64 l, .int .i64 o, .int .i64 m, .float .f64 g, .string x, ur, uk] 79 (0, 0)) := by
    have e : (w.alloc (.cells #[.int .i64 k, .int .i64 l, .int .i64 o, .int .i64 m, .float .f64 g, .string x, vr, vk] 79)).heap.size = w.heap.size + 1 := World.size_alloc _ _
    rw [hw2, ← e]
    exact alloc_new _ _ _
  have HK : Hid (Kb 0 w w2 ∧ w2.heap[w.heap.size]? = some (.cells #[.int .i64 k, .int .i64 l, .int .i64 o, .int .i64 m, .float .f64 g, .string x, vr, vk] 79 (0, 0)) ∧ w2.heap[w.heap.size + 1]? = some (.cells #[.int .i64 k, .int .i64 l, .int .i64 o, .int .i64 m, .float .f64 g, .string x, ur, uk] 79 (0, 0)) ∧ w.heap.size + 1 < w2.heap.size) := (⟨k2, b0, b1, by rw [hw2]; simp⟩ : _ ∧ _)
  have HW : Hid (w2 = (w.alloc (.cells #[.int .i64 k, .int .i64 l, .int .i64 o, .int .i64 m, .float .f64 g, .string x, vr, vk] 79)).alloc (.cells #[.int .i64 k, .int .i64 l, .int .i64 o, .int .i64 m, .float .f64 g, .string x, ur, uk] 79)) := hw2
  clear hw2 k2 b0 b1
  go_enter Try.func96, Try.ntmps96
  go_wp2_with fail
  refine (hsf _).mono ?_
  rintro e w4 ⟨rfl, rfl⟩
  go_wp2_with fail
  rw [← (show w2 = _ from HW)]
  clear HW
  refine ((show ∀ W', Kb 0 w W' → Calls Try.prog 103 #[vr, ur] W' fun e w' => e = .returned (.bool true) ∧ Kb 0 W' w' from G0) w2 HK.1).mono ?_
  rintro e x0 ⟨rfl, k0⟩
  have HL : Hid (Kb 0 w x0 ∧ x0.heap[w.heap.size]? = some (.cells #[.int .i64 k, .int .i64 l, .int .i64 o, .int .i64 m, .float .f64 g, .string x, vr, vk] 79 (0, 0)) ∧ x0.heap[w.heap.size + 1]? = some (.cells #[.int .i64 k, .int .i64 l, .int .i64 o, .int .i64 m, .float .f64 g, .string x, ur, uk] 79 (0, 0)) ∧ w.heap.size + 1 < x0.heap.size) := by
    obtain ⟨q1, q2, q3, q4⟩ := (show Kb 0 w w2 ∧ w2.heap[w.heap.size]? = some (.cells #[.int .i64 k, .int .i64 l, .int .i64 o, .int .i64 m, .float .f64 g, .string x, vr, vk] 79 (0, 0)) ∧ w2.heap[w.heap.size + 1]? = some (.cells #[.int .i64 k, .int .i64 l, .int .i64 o, .int .i64 m, .float .f64 g, .string x, ur, uk] 79 (0, 0)) ∧ w.heap.size + 1 < w2.heap.size from HK)
    have q5 := k0.size
    exact ⟨q1.trans k0, (k0.block _ (Nat.zero_le _) (by omega)).trans q2, (k0.block _ (Nat.zero_le _) (by omega)).trans q3, by omega⟩
  clear HK
  have HK := HL
  clear HL k0 G0
  have c0 : x0.cell? ⟨w.heap.size, 7, none⟩ = some (vk) := cell_of HK.2.1 rfl
  have d0 : x0.cell? ⟨w.heap.size + 1, 7, none⟩ = some (uk) := cell_of HK.2.2.1 rfl
  go_wp2_with fail
  clear c0 d0
  refine ((show ∀ W', Kb 0 w W' → Calls Try.prog 103 #[vk, uk] W' fun e w' => e = .returned (.bool true) ∧ Kb 0 W' w' from G1) x0 HK.1).mono ?_
  rintro e x1 ⟨rfl, k1⟩
  have HL : Hid (Kb 0 w x1 ∧ x1.heap[w.heap.size]? = some (.cells #[.int .i64 k, .int .i64 l, .int .i64 o, .int .i64 m, .float .f64 g, .string x, vr, vk] 79 (0, 0)) ∧ x1.heap[w.heap.size + 1]? = some (.cells #[.int .i64 k, .int .i64 l, .int .i64 o, .int .i64 m, .float .f64 g, .string x, ur, uk] 79 (0, 0)) ∧ w.heap.size + 1 < x1.heap.size) := by
    obtain ⟨q1, q2, q3, q4⟩ := (show Kb 0 w x0 ∧ x0.heap[w.heap.size]? = some (.cells #[.int .i64 k, .int .i64 l, .int .i64 o, .int .i64 m, .float .f64 g, .string x, vr, vk] 79 (0, 0)) ∧ x0.heap[w.heap.size + 1]? = some (.cells #[.int .i64 k, .int .i64 l, .int .i64 o, .int .i64 m, .float .f64 g, .string x, ur, uk] 79 (0, 0)) ∧ w.heap.size + 1 < x0.heap.size from HK)
    have q5 := k1.size
    exact ⟨q1.trans k1, (k1.block _ (Nat.zero_le _) (by omega)).trans q2, (k1.block _ (Nat.zero_le _) (by omega)).trans q3, by omega⟩
  clear HK
  have HK := HL
  clear HL k1 G1
  go_wp2_with fail
  go_ret
  exact ⟨rfl, HK.1⟩
set_option maxHeartbeats 8000000 in
theorem eq_fn {f : Fd} {vv vu vn uv uu un : Value} (w : World)
    (g0 : ∀ W', Kb 0 w W' → Calls Try.prog 34 #[vv, uv] W' fun e w' => e = .returned (.bool true) ∧ Kb 0 W' w')
    (g1 : ∀ W', Kb 0 w W' → Calls Try.prog 76 #[vu, uu] W' fun e w' => e = .returned (.bool true) ∧ Kb 0 W' w')
    (g2 : ∀ W', Kb 0 w W' → Calls Try.prog 77 #[vn, un] W' fun e w' => e = .returned (.bool true) ∧ Kb 0 W' w') :
    Calls Try.prog 55 #[fnv f vv vu vn, fnv f uv uu un] w fun e w' => e = .returned (.bool true) ∧ Kb 0 w w' := by
  have G0 : Hid (∀ W', Kb 0 w W' → Calls Try.prog 34 #[vv, uv] W' fun e w' => e = .returned (.bool true) ∧ Kb 0 W' w') := g0
  have G1 : Hid (∀ W', Kb 0 w W' → Calls Try.prog 76 #[vu, uu] W' fun e w' => e = .returned (.bool true) ∧ Kb 0 W' w') := g1
  have G2 : Hid (∀ W', Kb 0 w W' → Calls Try.prog 77 #[vn, un] W' fun e w' => e = .returned (.bool true) ∧ Kb 0 W' w') := g2
  clear g0 g1 g2
  unfold fnv
  generalize f.x = x at *
  generalize f.l = l at *
  generalize f.m = m at *
  generalize f.r = r at *
  have e1 : (l != l) = false := by simp
  have e2 : (m != m) = false := by simp
  have e3 : (r != r) = false := by cases r <;> rfl
  obtain ⟨w2, hw2⟩ : ∃ w2, w2 = (w.alloc (.cells #[.string x, .int .i64 l, .int .i64 m, .bool r, vv, vu, vn] 70)).alloc (.cells #[.string x, .int .i64 l, .int .i64 m, .bool r, uv, uu, un] 70) := ⟨_, rfl⟩
  have k2 : Kb 0 w w2 := by rw [hw2]; exact kb_alloc2 _ _ _ _
  have b0 : w2.heap[w.heap.size]? = some (.cells #[.string x, .int .i64 l, .int .i64 m, .bool r, vv, vu, vn] 70 (0, 0)) := by
    rw [hw2, (kb_alloc 0 _ _).block _ (Nat.zero_le _) (by rw [World.size_alloc]; omega)]
    exact alloc_new _ _ _
  have b1 : w2.heap[w.heap.size + 1]? = some (.cells #[.string x, .int .i64 l, .int .i64 m, .bool r, uv, uu, un] 70 (0, 0)) := by
    have e : (w.alloc (.cells #[.string x, .int .i64 l, .int .i64 m, .bool r, vv, vu, vn] 70)).heap.size = w.heap.size + 1 := World.size_alloc _ _
    rw [hw2, ← e]
    exact alloc_new _ _ _
  have HK : Hid (Kb 0 w w2 ∧ w2.heap[w.heap.size]? = some (.cells #[.string x, .int .i64 l, .int .i64 m, .bool r, vv, vu, vn] 70 (0, 0)) ∧ w2.heap[w.heap.size + 1]? = some (.cells #[.string x, .int .i64 l, .int .i64 m, .bool r, uv, uu, un] 70 (0, 0)) ∧ w.heap.size + 1 < w2.heap.size) := (⟨k2, b0, b1, by rw [hw2]; simp⟩ : _ ∧ _)
  have HW : Hid (w2 = (w.alloc (.cells #[.string x, .int .i64 l, .int .i64 m, .bool r, vv, vu, vn] 70)).alloc (.cells #[.string x, .int .i64 l, .int .i64 m, .bool r, uv, uu, un] 70)) := hw2
  clear hw2 k2 b0 b1
  go_enter Try.func55, Try.ntmps55
  go_wp2_with fail
  rw [← (show w2 = _ from HW)]
  clear HW
  refine ((show ∀ W', Kb 0 w W' → Calls Try.prog 34 #[vv, uv] W' fun e w' => e = .returned (.bool true) ∧ Kb 0 W' w' from G0) w2 HK.1).mono ?_
  rintro e x0 ⟨rfl, k0⟩
  have HL : Hid (Kb 0 w x0 ∧ x0.heap[w.heap.size]? = some (.cells #[.string x, .int .i64 l, .int .i64 m, .bool r, vv, vu, vn] 70 (0, 0)) ∧ x0.heap[w.heap.size + 1]? = some (.cells #[.string x, .int .i64 l, .int .i64 m, .bool r, uv, uu, un] 70 (0, 0)) ∧ w.heap.size + 1 < x0.heap.size) := by
    obtain ⟨q1, q2, q3, q4⟩ := (show Kb 0 w w2 ∧ w2.heap[w.heap.size]? = some (.cells #[.string x, .int .i64 l, .int .i64 m, .bool r, vv, vu, vn] 70 (0, 0)) ∧ w2.heap[w.heap.size + 1]? = some (.cells #[.string x, .int .i64 l, .int .i64 m, .bool r, uv, uu, un] 70 (0, 0)) ∧ w.heap.size + 1 < w2.heap.size from HK)
    have q5 := k0.size
    exact ⟨q1.trans k0, (k0.block _ (Nat.zero_le _) (by omega)).trans q2, (k0.block _ (Nat.zero_le _) (by omega)).trans q3, by omega⟩
  clear HK
  have HK := HL
  clear HL k0 G0
  have c0 : x0.cell? ⟨w.heap.size, 5, none⟩ = some (vu) := cell_of HK.2.1 rfl
  have d0 : x0.cell? ⟨w.heap.size + 1, 5, none⟩ = some (uu) := cell_of HK.2.2.1 rfl
  go_wp2_with fail
  clear c0 d0
  refine ((show ∀ W', Kb 0 w W' → Calls Try.prog 76 #[vu, uu] W' fun e w' => e = .returned (.bool true) ∧ Kb 0 W' w' from G1) x0 HK.1).mono ?_
  rintro e x1 ⟨rfl, k1⟩
  have HL : Hid (Kb 0 w x1 ∧ x1.heap[w.heap.size]? = some (.cells #[.string x, .int .i64 l, .int .i64 m, .bool r, vv, vu, vn] 70 (0, 0)) ∧ x1.heap[w.heap.size + 1]? = some (.cells #[.string x, .int .i64 l, .int .i64 m, .bool r, uv, uu, un] 70 (0, 0)) ∧ w.heap.size + 1 < x1.heap.size) := by
    obtain ⟨q1, q2, q3, q4⟩ := (show Kb 0 w x0 ∧ x0.heap[w.heap.size]? = some (.cells #[.string x, .int .i64 l, .int .i64 m, .bool r, vv, vu, vn] 70 (0, 0)) ∧ x0.heap[w.heap.size + 1]? = some (.cells #[.string x, .int .i64 l, .int .i64 m, .bool r, uv, uu, un] 70 (0, 0)) ∧ w.heap.size + 1 < x0.heap.size from HK)
    have q5 := k1.size
    exact ⟨q1.trans k1, (k1.block _ (Nat.zero_le _) (by omega)).trans q2, (k1.block _ (Nat.zero_le _) (by omega)).trans q3, by omega⟩
  clear HK
  have HK := HL
  clear HL k1 G1
  have c1 : x1.cell? ⟨w.heap.size, 6, none⟩ = some (vn) := cell_of HK.2.1 rfl
  have d1 : x1.cell? ⟨w.heap.size + 1, 6, none⟩ = some (un) := cell_of HK.2.2.1 rfl
  go_wp2_with fail
  clear c1 d1
  refine ((show ∀ W', Kb 0 w W' → Calls Try.prog 77 #[vn, un] W' fun e w' => e = .returned (.bool true) ∧ Kb 0 W' w' from G2) x1 HK.1).mono ?_
  rintro e x2 ⟨rfl, k2⟩
  have HL : Hid (Kb 0 w x2 ∧ x2.heap[w.heap.size]? = some (.cells #[.string x, .int .i64 l, .int .i64 m, .bool r, vv, vu, vn] 70 (0, 0)) ∧ x2.heap[w.heap.size + 1]? = some (.cells #[.string x, .int .i64 l, .int .i64 m, .bool r, uv, uu, un] 70 (0, 0)) ∧ w.heap.size + 1 < x2.heap.size) := by
    obtain ⟨q1, q2, q3, q4⟩ := (show Kb 0 w x1 ∧ x1.heap[w.heap.size]? = some (.cells #[.string x, .int .i64 l, .int .i64 m, .bool r, vv, vu, vn] 70 (0, 0)) ∧ x1.heap[w.heap.size + 1]? = some (.cells #[.string x, .int .i64 l, .int .i64 m, .bool r, uv, uu, un] 70 (0, 0)) ∧ w.heap.size + 1 < x1.heap.size from HK)
    have q5 := k2.size
    exact ⟨q1.trans k2, (k2.block _ (Nat.zero_le _) (by omega)).trans q2, (k2.block _ (Nat.zero_le _) (by omega)).trans q3, by omega⟩
  clear HK
  have HK := HL
  clear HL k2 G2
  go_wp2_with fail
  go_ret
  exact ⟨rfl, HK.1⟩
end Go.Proofs.Ytieccnkabllamaa.Fo
