import Derived.Test.YtieccnkabllamaaNjb
import Derived.Test.YtieccnkabllamaaNca
namespace Go.Proofs.Ytieccnkabllamaa.Fo
open Go.ChangeShapes Go.WideShapes Go.ChangeAt Go.RowKit
set_option linter.unusedVariables false
set_option maxRecDepth 100000
set_option maxHeartbeats 4000000 in
theorem sz_input {va vl : Value} {p q : Nat} (T D C : Int) (w : World)
    (g0 : ∀ W (l : Int), Kb 0 w W → 0 ≤ l → l ≤ 1048576 → Calls Try.prog 31 #[va, .int .i64 l] W (Szd p l W))
    (g1 : ∀ W (l : Int), Kb 0 w W → 0 ≤ l → l ≤ 1048576 → Calls Try.prog 31 #[vl, .int .i64 l] W (Szd q l W)) :
    Calls Try.prog 11 #[.agg #[va, vl, .int .i64 T, .int .i64 D, .int .i64 C], .int .i64 1048576] w (Szd (p + q) 1048576 w) := by
  have G0 : Hid (∀ W (l : Int), Kb 0 w W → 0 ≤ l → l ≤ 1048576 → Calls Try.prog 31 #[va, .int .i64 l] W (Szd p l W)) := g0
  have G1 : Hid (∀ W (l : Int), Kb 0 w W → 0 ≤ l → l ≤ 1048576 → Calls Try.prog 31 #[vl, .int .i64 l] W (Szd q l W)) := g1
  obtain ⟨w0, hw0⟩ : ∃ w0, w0 = w.alloc (.cells #[va, vl, .int .i64 T, .int .i64 D, .int .i64 C] 38) := ⟨_, rfl⟩
  have k0 : Kb 0 w w0 := by rw [hw0]; exact kb_alloc _ _ _
  have b0 : w0.cell? ⟨w.heap.size, 1, none⟩ = some vl := by rw [hw0]; exact cell_of (alloc_new _ _ _) rfl
  have HC : Hid (Kb 0 w w0 ∧ w0.cell? ⟨w.heap.size, 1, none⟩ = some vl) := (⟨k0, b0⟩ : _ ∧ _)
  have HW0 : Hid (w0 = w.alloc (.cells #[va, vl, .int .i64 T, .int .i64 D, .int .i64 C] 38)) := hw0
  clear g0 g1 k0 b0 hw0
  go_enter Try.func11, Try.ntmps11
  go_wp2_with fail
  rw [← (show w0 = _ from HW0)]
  clear HW0
  refine ((show ∀ W (l : Int), Kb 0 w W → 0 ≤ l → l ≤ 1048576 → Calls Try.prog 31 #[va, .int .i64 l] W (Szd p l W) from G0) w0 1048576 HC.1 (by omega) (by omega)).mono ?_
  rintro e w1 ⟨r, rfl, s1, m1, t1, k1⟩
  have c1 : w1.cell? ⟨w.heap.size, 1, none⟩ = some vl := k1.cell HC.2
  have HK : Hid (Kb 0 w w1 ∧ (0 ≤ r → r + (p : Int) ≤ 1048576)) := (⟨HC.1.trans k1, s1⟩ : _ ∧ _)
  clear G0 HC s1 k1
  rcases Int.lt_or_le r 0 with c | c
  · clear G1
    go_wp2_with fail
    go_ret
    exact ⟨-1, rfl, fun h => by omega, by omega, by omega, HK.1⟩
  · have c' : ¬ r < 0 := by omega
    go_wp2_with fail
    refine ((show ∀ W (l : Int), Kb 0 w W → 0 ≤ l → l ≤ 1048576 → Calls Try.prog 31 #[vl, .int .i64 l] W (Szd q l W) from G1) w1 r HK.1 c t1).mono ?_
    rintro e w2 ⟨r2, rfl, s2, m2, t2, k2⟩
    have HK2 : Hid (Kb 0 w w2 ∧ (0 ≤ r2 → r2 + ((p + q : Nat) : Int) ≤ 1048576) ∧ r2 ≤ 1048576) := (⟨HK.1.trans k2, fun h => by have := s2 h; have := HK.2 c; omega, by omega⟩ : _ ∧ _)
    clear G1 HK s2 k2 c1 t2
    rcases Int.lt_or_le r2 0 with d | d
    · go_wp2_with fail
      go_ret
      exact ⟨-1, rfl, fun h => by omega, by omega, by omega, HK2.1⟩
    · have d' : ¬ r2 < 0 := by omega
      go_wp2_with fail
      go_ret
      exact ⟨r2, rfl, HK2.2.1, m2, HK2.2.2, HK2.1⟩
set_option maxHeartbeats 8000000 in
theorem to_input {va vl : Value} {p q : Nat} {A L : Nat → ByteArray} (T D C : Int) (w : World)
    (g0 : ∀ W, Kb 0 w W → Calls Try.prog 32 #[va] W fun e w' => ∃ v, e = .returned v ∧ RowB W.heap.size w' (v) p (fun i => .string (A i)) ∧ Kb 0 W w')
    (g1 : ∀ W, Kb 0 w W → Calls Try.prog 32 #[vl] W fun e w' => ∃ v, e = .returned v ∧ RowB W.heap.size w' (v) q (fun i => .string (L i)) ∧ Kb 0 W w') :
    Calls Try.prog 13 #[.agg #[va, vl, .int .i64 T, .int .i64 D, .int .i64 C]] w fun e w' => ∃ v0 v1, e = .returned (.agg #[v0, v1, .int .i64 T, .int .i64 D, .int .i64 C]) ∧ RowB w.heap.size w' (v0) p (fun i => .string (A i)) ∧ RowB w.heap.size w' (v1) q (fun i => .string (L i)) ∧ Kb 0 w w' := by
  have G0 : Hid (∀ W, Kb 0 w W → Calls Try.prog 32 #[va] W fun e w' => ∃ v, e = .returned v ∧ RowB W.heap.size w' (v) p (fun i => .string (A i)) ∧ Kb 0 W w') := g0
  have G1 : Hid (∀ W, Kb 0 w W → Calls Try.prog 32 #[vl] W fun e w' => ∃ v, e = .returned v ∧ RowB W.heap.size w' (v) q (fun i => .string (L i)) ∧ Kb 0 W w') := g1
  clear g0 g1
  go_enter Try.func13, Try.ntmps13
  go_wp2_with fail
  obtain ⟨w3, hw3⟩ : ∃ w3, w3 = ((w.alloc (.cells #[va, vl, .int .i64 T, .int .i64 D, .int .i64 C] 38)).alloc (.cells #[.slice none 0 0, .slice none 0 0, .int .i64 0, .int .i64 0, .int .i64 0] 41)).alloc (.cells #[.slice none 0 0, .slice none 0 0, .int .i64 0, .int .i64 0, .int .i64 0] 41) := ⟨_, rfl⟩
  rw [← hw3]
  obtain ⟨b0, b1, b2, z3, k3⟩ := three_new w _ _ _ _ _ _ w3 hw3
  clear hw3
  refine ((show ∀ W, Kb 0 w W → Calls Try.prog 32 #[va] W fun e w' => ∃ v, e = .returned v ∧ RowB W.heap.size w' (v) p (fun i => .string (A i)) ∧ Kb 0 W w' from G0) w3 k3).mono ?_
  rintro e x0 ⟨v0, rfl, r0, q0⟩
  clear G0
  have zq0 := q0.size
  have zz0 : w.heap.size + 3 ≤ w3.heap.size := by omega
  have b0x0 : x0.heap[w.heap.size]? = some (.cells #[va, vl, .int .i64 T, .int .i64 D, .int .i64 C] 38 (0, 0)) := (q0.block _ (Nat.zero_le _) (by omega)).trans b0
  have b1x0 : x0.heap[w.heap.size + 1]? = some (.cells #[.slice none 0 0, .slice none 0 0, .int .i64 0, .int .i64 0, .int .i64 0] 41 (0, 0)) := (q0.block _ (Nat.zero_le _) (by omega)).trans b1
  have b2x0 : x0.heap[w.heap.size + 1 + 1]? = some (.cells #[.slice none 0 0, .slice none 0 0, .int .i64 0, .int .i64 0, .int .i64 0] 41 (0, 0)) := (q0.block _ (Nat.zero_le _) (by omega)).trans b2
  clear b0 b1 b2
  obtain ⟨p0, l0, rfl, _⟩ := id r0
  have o0 : x0.cell? ⟨w.heap.size + 1 + 1, 0, none⟩ = some (.slice none 0 0) := cell_of b2x0 rfl
  have f0 : x0.frozen? ⟨w.heap.size + 1 + 1, 0, none⟩ = false := frozen_of b2x0
  have n0 : x0.cell? ⟨w.heap.size, 1, none⟩ = some vl := cell_of b0x0 rfl
  obtain ⟨y0, hy0⟩ : ∃ W, W = x0.setCell ⟨w.heap.size + 1 + 1, 0, none⟩ (.slice p0 p l0) := ⟨_, rfl⟩
  have c0 : y0.heap[w.heap.size]? = some (.cells #[va, vl, .int .i64 T, .int .i64 D, .int .i64 C] 38 (0, 0)) := by rw [hy0, Below.heap_setCell _ _ _ _ (show w.heap.size ≠ w.heap.size + 1 + 1 by omega)]; exact b0x0
  have c1 : y0.heap[w.heap.size + 1]? = some (.cells #[.slice none 0 0, .slice none 0 0, .int .i64 0, .int .i64 0, .int .i64 0] 41 (0, 0)) := by rw [hy0, Below.heap_setCell _ _ _ _ (show w.heap.size + 1 ≠ w.heap.size + 1 + 1 by omega)]; exact b1x0
  have c2 : y0.heap[w.heap.size + 1 + 1]? = some (.cells #[.slice p0 p l0, .slice none 0 0, .int .i64 0, .int .i64 0, .int .i64 0] 41 (0, 0)) := by rw [hy0]; exact set_known _ b2x0
  have ky0 : Kb 0 w y0 := by rw [hy0]; exact (k3.trans q0).setCell _ (Or.inr (by show w.heap.size ≤ w.heap.size + 1 + 1; omega)) _
  have qy0 : Kb (w.heap.size + 3) x0 y0 := by rw [hy0]; exact (Kb.refl _ _).setCell _ (Or.inl (by show w.heap.size + 1 + 1 < w.heap.size + 3; omega)) _
  have zy0 : y0.heap.size = x0.heap.size := by rw [hy0]; simp
  have HX : Hid ((y0.heap[w.heap.size]? = some (.cells #[va, vl, .int .i64 T, .int .i64 D, .int .i64 C] 38 (0, 0)) ∧ y0.heap[w.heap.size + 1]? = some (.cells #[.slice none 0 0, .slice none 0 0, .int .i64 0, .int .i64 0, .int .i64 0] 41 (0, 0)) ∧ y0.heap[w.heap.size + 1 + 1]? = some (.cells #[.slice p0 p l0, .slice none 0 0, .int .i64 0, .int .i64 0, .int .i64 0] 41 (0, 0))) ∧ Kb 0 w y0 ∧ RowB (w.heap.size + 3) y0 (.slice p0 p l0) p (fun i => .string (A i)) ∧ w.heap.size + 3 ≤ y0.heap.size) := (⟨⟨c0, c1, c2⟩, ky0, (r0.mono zz0).keep qy0, by omega⟩ : _ ∧ _)
  have HW : Hid (y0 = x0.setCell ⟨w.heap.size + 1 + 1, 0, none⟩ (.slice p0 p l0)) := hy0
  clear b0x0 b1x0 b2x0 c0 c1 c2 ky0 qy0 zy0 r0 q0 zq0 hy0 zz0 z3 k3
  go_wp2_with fail
  rw [← (show y0 = x0.setCell ⟨w.heap.size + 1 + 1, 0, none⟩ (.slice p0 p l0) from HW)]
  clear HW o0 f0 n0
  obtain ⟨⟨b0, b1, b2⟩, ky, s0, zu⟩ := (show (y0.heap[w.heap.size]? = some (.cells #[va, vl, .int .i64 T, .int .i64 D, .int .i64 C] 38 (0, 0)) ∧ y0.heap[w.heap.size + 1]? = some (.cells #[.slice none 0 0, .slice none 0 0, .int .i64 0, .int .i64 0, .int .i64 0] 41 (0, 0)) ∧ y0.heap[w.heap.size + 1 + 1]? = some (.cells #[.slice p0 p l0, .slice none 0 0, .int .i64 0, .int .i64 0, .int .i64 0] 41 (0, 0))) ∧ Kb 0 w y0 ∧ RowB (w.heap.size + 3) y0 (.slice p0 p l0) p (fun i => .string (A i)) ∧ w.heap.size + 3 ≤ y0.heap.size from HX)
  clear HX
  refine ((show ∀ W, Kb 0 w W → Calls Try.prog 32 #[vl] W fun e w' => ∃ v, e = .returned v ∧ RowB W.heap.size w' (v) q (fun i => .string (L i)) ∧ Kb 0 W w' from G1) y0 ky).mono ?_
  rintro e x1 ⟨v1, rfl, r1, q1⟩
  clear G1
  have zq1 := q1.size
  have b0x1 : x1.heap[w.heap.size]? = some (.cells #[va, vl, .int .i64 T, .int .i64 D, .int .i64 C] 38 (0, 0)) := (q1.block _ (Nat.zero_le _) (by omega)).trans b0
  have b1x1 : x1.heap[w.heap.size + 1]? = some (.cells #[.slice none 0 0, .slice none 0 0, .int .i64 0, .int .i64 0, .int .i64 0] 41 (0, 0)) := (q1.block _ (Nat.zero_le _) (by omega)).trans b1
  have b2x1 : x1.heap[w.heap.size + 1 + 1]? = some (.cells #[.slice p0 p l0, .slice none 0 0, .int .i64 0, .int .i64 0, .int .i64 0] 41 (0, 0)) := (q1.block _ (Nat.zero_le _) (by omega)).trans b2
  clear b0 b1 b2
  obtain ⟨p1, l1, rfl, _⟩ := id r1
  replace s0 := s0.keep (q1.mono (Nat.zero_le _))
  have s1 := r1.mono (show w.heap.size + 3 ≤ y0.heap.size from zu)
  have KW := ky.trans q1
  have e0 : x1.cell? ⟨w.heap.size + 1 + 1, 0, none⟩ = some (.slice p0 p l0) := cell_of b2x1 rfl
  have a0 : x1.cell? ⟨w.heap.size + 1, 0, none⟩ = some (.slice none 0 0) := cell_of b1x1 rfl
  have e1 : x1.cell? ⟨w.heap.size + 1 + 1, 1, none⟩ = some (.slice none 0 0) := cell_of b2x1 rfl
  have a1 : x1.cell? ⟨w.heap.size + 1, 1, none⟩ = some (.slice none 0 0) := cell_of b1x1 rfl
  have e2 : x1.cell? ⟨w.heap.size + 1 + 1, 2, none⟩ = some (.int .i64 0) := cell_of b2x1 rfl
  have a2 : x1.cell? ⟨w.heap.size + 1, 2, none⟩ = some (.int .i64 0) := cell_of b1x1 rfl
  have d2 : x1.cell? ⟨w.heap.size, 2, none⟩ = some (.int .i64 T) := cell_of b0x1 rfl
  have e3 : x1.cell? ⟨w.heap.size + 1 + 1, 3, none⟩ = some (.int .i64 0) := cell_of b2x1 rfl
  have a3 : x1.cell? ⟨w.heap.size + 1, 3, none⟩ = some (.int .i64 0) := cell_of b1x1 rfl
  have d3 : x1.cell? ⟨w.heap.size, 3, none⟩ = some (.int .i64 D) := cell_of b0x1 rfl
  have e4 : x1.cell? ⟨w.heap.size + 1 + 1, 4, none⟩ = some (.int .i64 0) := cell_of b2x1 rfl
  have a4 : x1.cell? ⟨w.heap.size + 1, 4, none⟩ = some (.int .i64 0) := cell_of b1x1 rfl
  have d4 : x1.cell? ⟨w.heap.size, 4, none⟩ = some (.int .i64 C) := cell_of b0x1 rfl
  have fz : ∀ j, x1.frozen? ⟨w.heap.size + 1 + 1, j, none⟩ = false := fun j => frozen_of b2x1
  have fy : ∀ j, x1.frozen? ⟨w.heap.size + 1, j, none⟩ = false := fun j => frozen_of b1x1
  have HE : Hid (Kb 0 w x1 ∧ RowB (w.heap.size + 3) x1 (.slice p0 p l0) p (fun i => .string (A i)) ∧ RowB (w.heap.size + 3) x1 (.slice p1 q l1) q (fun i => .string (L i))) := (⟨KW, s0, s1⟩ : _ ∧ _)
  clear KW s0 s1 b0x1 b1x1 b2x1 r1 q1 zq1 zu ky
  go_wp2_with fail
  refine bodyPost_ret (by simp [results, Try.results13, go_sem, a0, a1, a2, a3, a4]; rfl) rfl ?_
  obtain ⟨KW, s0, s1⟩ := (show Kb 0 w x1 ∧ RowB (w.heap.size + 3) x1 (.slice p0 p l0) p (fun i => .string (A i)) ∧ RowB (w.heap.size + 3) x1 (.slice p1 q l1) q (fun i => .string (L i)) from HE)
  clear HE
  have hq := (((((((((Kb.refl (w.heap.size + 3) x1).setCell ⟨w.heap.size + 1 + 1, 1, none⟩ (Or.inl (show w.heap.size + 1 + 1 < w.heap.size + 3 by omega)) (.slice p1 q l1)).setCell ⟨w.heap.size + 1 + 1, 2, none⟩ (Or.inl (show w.heap.size + 1 + 1 < w.heap.size + 3 by omega)) (.int .i64 T)).setCell ⟨w.heap.size + 1 + 1, 3, none⟩ (Or.inl (show w.heap.size + 1 + 1 < w.heap.size + 3 by omega)) (.int .i64 D)).setCell ⟨w.heap.size + 1 + 1, 4, none⟩ (Or.inl (show w.heap.size + 1 + 1 < w.heap.size + 3 by omega)) (.int .i64 C)).setCell ⟨w.heap.size + 1, 0, none⟩ (Or.inl (show w.heap.size + 1 < w.heap.size + 3 by omega)) (.slice p0 p l0)).setCell ⟨w.heap.size + 1, 1, none⟩ (Or.inl (show w.heap.size + 1 < w.heap.size + 3 by omega)) (.slice p1 q l1)).setCell ⟨w.heap.size + 1, 2, none⟩ (Or.inl (show w.heap.size + 1 < w.heap.size + 3 by omega)) (.int .i64 T)).setCell ⟨w.heap.size + 1, 3, none⟩ (Or.inl (show w.heap.size + 1 < w.heap.size + 3 by omega)) (.int .i64 D)).setCell ⟨w.heap.size + 1, 4, none⟩ (Or.inl (show w.heap.size + 1 < w.heap.size + 3 by omega)) (.int .i64 C)
  have hk := (((((((((KW).setCell ⟨w.heap.size + 1 + 1, 1, none⟩ (Or.inr (show w.heap.size ≤ w.heap.size + 1 + 1 by omega)) (.slice p1 q l1)).setCell ⟨w.heap.size + 1 + 1, 2, none⟩ (Or.inr (show w.heap.size ≤ w.heap.size + 1 + 1 by omega)) (.int .i64 T)).setCell ⟨w.heap.size + 1 + 1, 3, none⟩ (Or.inr (show w.heap.size ≤ w.heap.size + 1 + 1 by omega)) (.int .i64 D)).setCell ⟨w.heap.size + 1 + 1, 4, none⟩ (Or.inr (show w.heap.size ≤ w.heap.size + 1 + 1 by omega)) (.int .i64 C)).setCell ⟨w.heap.size + 1, 0, none⟩ (Or.inr (show w.heap.size ≤ w.heap.size + 1 by omega)) (.slice p0 p l0)).setCell ⟨w.heap.size + 1, 1, none⟩ (Or.inr (show w.heap.size ≤ w.heap.size + 1 by omega)) (.slice p1 q l1)).setCell ⟨w.heap.size + 1, 2, none⟩ (Or.inr (show w.heap.size ≤ w.heap.size + 1 by omega)) (.int .i64 T)).setCell ⟨w.heap.size + 1, 3, none⟩ (Or.inr (show w.heap.size ≤ w.heap.size + 1 by omega)) (.int .i64 D)).setCell ⟨w.heap.size + 1, 4, none⟩ (Or.inr (show w.heap.size ≤ w.heap.size + 1 by omega)) (.int .i64 C)
  exact ⟨_, _, rfl, (s0.keep hq).mono (by omega), (s1.keep hq).mono (by omega), hk⟩
set_option maxHeartbeats 8000000 in
theorem eq_input {va vl ua ul : Value} (T D C : Int) (w : World)
    (g0 : ∀ W', Kb 0 w W' → Calls Try.prog 34 #[va, ua] W' fun e w' => e = .returned (.bool true) ∧ Kb 0 W' w')
    (g1 : ∀ W', Kb 0 w W' → Calls Try.prog 34 #[vl, ul] W' fun e w' => e = .returned (.bool true) ∧ Kb 0 W' w') :
    Calls Try.prog 15 #[.agg #[va, vl, .int .i64 T, .int .i64 D, .int .i64 C], .agg #[ua, ul, .int .i64 T, .int .i64 D, .int .i64 C]] w fun e w' => e = .returned (.bool true) ∧ Kb 0 w w' := by
  have G0 : Hid (∀ W', Kb 0 w W' → Calls Try.prog 34 #[va, ua] W' fun e w' => e = .returned (.bool true) ∧ Kb 0 W' w') := g0
  have G1 : Hid (∀ W', Kb 0 w W' → Calls Try.prog 34 #[vl, ul] W' fun e w' => e = .returned (.bool true) ∧ Kb 0 W' w') := g1
  have h1 : (T != T) = false := by simp
  have h2 : (D != D) = false := by simp
  have h3 : (C != C) = false := by simp
  clear g0 g1
  obtain ⟨w2, hw2⟩ : ∃ w2, w2 = (w.alloc (.cells #[va, vl, .int .i64 T, .int .i64 D, .int .i64 C] 41)).alloc (.cells #[ua, ul, .int .i64 T, .int .i64 D, .int .i64 C] 41) := ⟨_, rfl⟩
  have k2 : Kb 0 w w2 := by rw [hw2]; exact kb_alloc2 _ _ _ _
  have b0 : w2.heap[w.heap.size]? = some (.cells #[va, vl, .int .i64 T, .int .i64 D, .int .i64 C] 41 (0, 0)) := by
    rw [hw2, (kb_alloc 0 _ _).block _ (Nat.zero_le _) (by rw [World.size_alloc]; omega)]
    exact alloc_new _ _ _
  have b1 : w2.heap[w.heap.size + 1]? = some (.cells #[ua, ul, .int .i64 T, .int .i64 D, .int .i64 C] 41 (0, 0)) := by
    have e : (w.alloc (.cells #[va, vl, .int .i64 T, .int .i64 D, .int .i64 C] 41)).heap.size = w.heap.size + 1 := World.size_alloc _ _
    rw [hw2, ← e]
    exact alloc_new _ _ _
  have HK : Hid (Kb 0 w w2 ∧ w2.heap[w.heap.size]? = some (.cells #[va, vl, .int .i64 T, .int .i64 D, .int .i64 C] 41 (0, 0)) ∧ w2.heap[w.heap.size + 1]? = some (.cells #[ua, ul, .int .i64 T, .int .i64 D, .int .i64 C] 41 (0, 0)) ∧ w.heap.size + 1 < w2.heap.size) := (⟨k2, b0, b1, by rw [hw2]; simp⟩ : _ ∧ _)
  have HW : Hid (w2 = (w.alloc (.cells #[va, vl, .int .i64 T, .int .i64 D, .int .i64 C] 41)).alloc (.cells #[ua, ul, .int .i64 T, .int .i64 D, .int .i64 C] 41)) := hw2
  clear hw2 k2 b0 b1
  go_enter Try.func15, Try.ntmps15
  go_wp2_with fail
  rw [← (show w2 = _ from HW)]
  clear HW
  refine ((show ∀ W', Kb 0 w W' → Calls Try.prog 34 #[va, ua] W' fun e w' => e = .returned (.bool true) ∧ Kb 0 W' w' from G0) w2 HK.1).mono ?_
  rintro e x0 ⟨rfl, k0⟩
  have HL : Hid (Kb 0 w x0 ∧ x0.heap[w.heap.size]? = some (.cells #[va, vl, .int .i64 T, .int .i64 D, .int .i64 C] 41 (0, 0)) ∧ x0.heap[w.heap.size + 1]? = some (.cells #[ua, ul, .int .i64 T, .int .i64 D, .int .i64 C] 41 (0, 0)) ∧ w.heap.size + 1 < x0.heap.size) := by
    obtain ⟨q1, q2, q3, q4⟩ := (show Kb 0 w w2 ∧ w2.heap[w.heap.size]? = some (.cells #[va, vl, .int .i64 T, .int .i64 D, .int .i64 C] 41 (0, 0)) ∧ w2.heap[w.heap.size + 1]? = some (.cells #[ua, ul, .int .i64 T, .int .i64 D, .int .i64 C] 41 (0, 0)) ∧ w.heap.size + 1 < w2.heap.size from HK)
    have q5 := k0.size
    exact ⟨q1.trans k0, (k0.block _ (Nat.zero_le _) (by omega)).trans q2, (k0.block _ (Nat.zero_le _) (by omega)).trans q3, by omega⟩
  clear HK k0 G0
  have c0 : x0.cell? ⟨w.heap.size, 1, none⟩ = some vl := cell_of HL.2.1 rfl
  have d0 : x0.cell? ⟨w.heap.size + 1, 1, none⟩ = some ul := cell_of HL.2.2.1 rfl
  go_wp2_with fail
  clear c0 d0
  refine ((show ∀ W', Kb 0 w W' → Calls Try.prog 34 #[vl, ul] W' fun e w' => e = .returned (.bool true) ∧ Kb 0 W' w' from G1) x0 HL.1).mono ?_
  rintro e x1 ⟨rfl, k1⟩
  have HK : Hid (Kb 0 w x1 ∧ x1.heap[w.heap.size]? = some (.cells #[va, vl, .int .i64 T, .int .i64 D, .int .i64 C] 41 (0, 0)) ∧ x1.heap[w.heap.size + 1]? = some (.cells #[ua, ul, .int .i64 T, .int .i64 D, .int .i64 C] 41 (0, 0)) ∧ w.heap.size + 1 < x1.heap.size) := by
    obtain ⟨q1, q2, q3, q4⟩ := (show Kb 0 w x0 ∧ x0.heap[w.heap.size]? = some (.cells #[va, vl, .int .i64 T, .int .i64 D, .int .i64 C] 41 (0, 0)) ∧ x0.heap[w.heap.size + 1]? = some (.cells #[ua, ul, .int .i64 T, .int .i64 D, .int .i64 C] 41 (0, 0)) ∧ w.heap.size + 1 < x0.heap.size from HL)
    have q5 := k1.size
    exact ⟨q1.trans k1, (k1.block _ (Nat.zero_le _) (by omega)).trans q2, (k1.block _ (Nat.zero_le _) (by omega)).trans q3, by omega⟩
  clear HL k1 G1
  have c2 : x1.cell? ⟨w.heap.size, 2, none⟩ = some (.int .i64 T) := cell_of HK.2.1 rfl
  have d2 : x1.cell? ⟨w.heap.size + 1, 2, none⟩ = some (.int .i64 T) := cell_of HK.2.2.1 rfl
  have c3 : x1.cell? ⟨w.heap.size, 3, none⟩ = some (.int .i64 D) := cell_of HK.2.1 rfl
  have d3 : x1.cell? ⟨w.heap.size + 1, 3, none⟩ = some (.int .i64 D) := cell_of HK.2.2.1 rfl
  have c4 : x1.cell? ⟨w.heap.size, 4, none⟩ = some (.int .i64 C) := cell_of HK.2.1 rfl
  have d4 : x1.cell? ⟨w.heap.size + 1, 4, none⟩ = some (.int .i64 C) := cell_of HK.2.2.1 rfl
  go_wp2_with fail
  go_ret
  exact ⟨rfl, HK.1⟩
end Go.Proofs.Ytieccnkabllamaa.Fo
