import Derived.Deep.RegionHeldLaw
import Derived.Test.YtdgainfmidoemaaMGbb
namespace Go.Proofs.Ytdgainfmidoemaa.Fo
open Go.ChangeShapes Go.WideShapes Go.ChangeAt Go.RowKit
set_option linter.unusedVariables false
set_option maxRecDepth 100000
set_option maxHeartbeats 4000000 in
theorem eq_val (u : Gv) (w : World) : Calls Try.prog 39 #[gvv u, gvv u] w fun e w' => e = .returned (.bool true) ∧ Kb 0 w w' := by
  unfold gvv
  obtain ⟨k, m, x, r⟩ := u
  have h1 : (k != k) = false := by simp
  have h2 : (m != m) = false := by simp
  have h3 : (r != r) = false := by simp
  go_enter Try.func39, Try.ntmps39
  go_wp2_with fail
  go_ret
  exact ⟨rfl, kb_alloc2 _ _ _ _⟩
set_option maxHeartbeats 8000000 in
theorem eq_vals {va vb : Value} {n : Nat} {C : Nat → Gv} (w : World) (ha : RowW 0 w va n C) (hb : RowW 0 w vb n C) (hn : n ≤ 1048576)  :
    Calls Try.prog 87 #[va, vb] w fun e w' => e = .returned (.bool true) ∧ Kb 0 w w' := by
  obtain ⟨pa, ca, rfl, ha2⟩ := ha
  obtain ⟨pb, cb, rfl, hb2⟩ := hb
  have HA : Hid ((0 < n → ∃ a : Addr, pa = some a ∧ n ≤ ca ∧ 0 ≤ a.block ∧ ∀ i, i < n → ValC 0 w (a.add (i * 4)) (C i)) ∧ (0 < n → ∃ a : Addr, pb = some a ∧ n ≤ cb ∧ 0 ≤ a.block ∧ ∀ i, i < n → ValC 0 w (a.add (i * 4)) (C i))) := (⟨ha2, hb2⟩ : _ ∧ _)
  have hnI : (n : Int) ≤ 1048576 := by omega
  clear ha2 hb2 hn 
  go_enter Try.func87, Try.ntmps87
  go_wp2_with fail
  go_loopw [5] (fun s5 wr => ∃ i : Nat, s5 = .int .i64 (i : Int) ∧ i ≤ n ∧ Hid (Kb 0 w wr)) (fun s5 _ => n - (intOf s5).toNat)
  case atStart => exact ⟨0, rfl, Nat.zero_le _, Kb.refl _ _⟩
  case round =>
    obtain ⟨i, rfl, hin, HB⟩ := hrel
    rcases Nat.lt_or_ge i n with hi | hi
    · have hA := (show (0 < n → ∃ a : Addr, pa = some a ∧ n ≤ ca ∧ 0 ≤ a.block ∧ ∀ i, i < n → ValC 0 w (a.add (i * 4)) (C i)) ∧ (0 < n → ∃ a : Addr, pb = some a ∧ n ≤ cb ∧ 0 ≤ a.block ∧ ∀ i, i < n → ValC 0 w (a.add (i * 4)) (C i)) from HA)
      obtain ⟨qa, rfl, hca, -, hra⟩ := hA.1 (by omega)
      obtain ⟨qb, rfl, hcb, -, hrb⟩ := hA.2 (by omega)
      have hiI : (i : Int) < (n : Int) := by omega
      have ca := (hra i hi).keep (Nat.zero_le _) HB
      have cb := (hrb i hi).keep (Nat.zero_le _) HB
      have heq : ∀ W', Kb 0 wr W' → Calls Try.prog 39 #[gvv (C i), gvv (C i)] W' fun e w' => e = .returned (.bool true) ∧ Kb 0 W' w' := fun W' _ => eq_val (C i) W'
      replace heq : ∀ W', W'.heap = wr.heap → W'.os = wr.os → W'.output = wr.output → Calls Try.prog 39 #[gvv (C i), gvv (C i)] W' fun e w' => e = .returned (.bool true) ∧ Kb 0 wr w' := fun W' h0 h1 h2 => by
        have kk : Kb 0 wr W' := ⟨h1, h2, by rw [h0]; exact Nat.le_refl _, fun k _ _ => by rw [h0]⟩
        refine (heq W' kk).mono ?_
        rintro e w' ⟨rfl, k⟩
        exact ⟨rfl, kk.trans k⟩
      obtain ⟨a0, a1, a2, a3⟩ := ca
      obtain ⟨b0, b1, b2, b3⟩ := cb
      clear hra hrb hA HA
      generalize C i = u at *
      obtain ⟨xk, xm, xx, xr⟩ := u
      unfold gvv at heq
      dsimp only at a0 a1 a2 a3 b0 b1 b2 b3 heq
      have HKEEP : Hid (∀ (W' : World), Kb 0 wr W' → W'.cell? (qa.add (i * 4)) = some (.int .i64 xk) ∧ W'.cell? ⟨(qa.add (i * 4)).block, (qa.add (i * 4)).off + 1, none⟩ = some (.int .i64 xm) ∧ W'.cell? ⟨(qa.add (i * 4)).block, (qa.add (i * 4)).off + 2, none⟩ = some (.string xx) ∧ W'.cell? ⟨(qa.add (i * 4)).block, (qa.add (i * 4)).off + 3, none⟩ = some (.int .i64 xr) ∧ W'.cell? (qb.add (i * 4)) = some (.int .i64 xk) ∧ W'.cell? ⟨(qb.add (i * 4)).block, (qb.add (i * 4)).off + 1, none⟩ = some (.int .i64 xm) ∧ W'.cell? ⟨(qb.add (i * 4)).block, (qb.add (i * 4)).off + 2, none⟩ = some (.string xx) ∧ W'.cell? ⟨(qb.add (i * 4)).block, (qb.add (i * 4)).off + 3, none⟩ = some (.int .i64 xr)) := by
        show ∀ (W' : World), _
        intro W' k
        exact ⟨k.cell a0, k.cell a1, k.cell a2, k.cell a3, k.cell b0, k.cell b1, k.cell b2, k.cell b3⟩
      have HEQ : Hid (∀ W', W'.heap = wr.heap → W'.os = wr.os → W'.output = wr.output → Calls Try.prog 39 #[.agg #[.int .i64 xk, .int .i64 xm, .string xx, .int .i64 xr], .agg #[.int .i64 xk, .int .i64 xm, .string xx, .int .i64 xr]] W' fun e w' => e = .returned (.bool true) ∧ Kb 0 wr w') := heq
      clear hin heq
      go_wp2_with fail
      go_region_held_law (fun W' => W'.cell? (qa.add (i * 4)) = some (.int .i64 xk) ∧ W'.cell? ⟨(qa.add (i * 4)).block, (qa.add (i * 4)).off + 1, none⟩ = some (.int .i64 xm) ∧ W'.cell? ⟨(qa.add (i * 4)).block, (qa.add (i * 4)).off + 2, none⟩ = some (.string xx) ∧ W'.cell? ⟨(qa.add (i * 4)).block, (qa.add (i * 4)).off + 3, none⟩ = some (.int .i64 xr) ∧ W'.cell? (qb.add (i * 4)) = some (.int .i64 xk) ∧ W'.cell? ⟨(qb.add (i * 4)).block, (qb.add (i * 4)).off + 1, none⟩ = some (.int .i64 xm) ∧ W'.cell? ⟨(qb.add (i * 4)).block, (qb.add (i * 4)).off + 2, none⟩ = some (.string xx) ∧ W'.cell? ⟨(qb.add (i * 4)).block, (qb.add (i * 4)).off + 3, none⟩ = some (.int .i64 xr)) (first | exact ⟨a0, a1, a2, a3, b0, b1, b2, b3⟩ | exact (show ∀ (W' : World), _ from HKEEP) _ k5)
        ((go_at_call 39; refine ((show ∀ W', W'.heap = wr.heap → W'.os = wr.os → W'.output = wr.output → Calls Try.prog 39 #[.agg #[.int .i64 xk, .int .i64 xm, .string xx, .int .i64 xr], .agg #[.int .i64 xk, .int .i64 xm, .string xx, .int .i64 xr]] W' fun e w' => e = .returned (.bool true) ∧ Kb 0 wr w' from HEQ) _ (by exact rfl) (by exact rfl) (by exact rfl)).mono ?_; rintro e w5 ⟨rfl, k5⟩))
      all_goals
        have HB5 : Hid (Kb 0 w w5) := (show Kb 0 w wr from HB).trans k5
        clear HB HKEEP HEQ k5 a0 a1 a2 a3 b0 b1 b2 b3
        go_wp2_with fail
        go_roundw
        case rel => exact ⟨i + 1, by go_num, by omega, HB5⟩
        case measure => simp [intOf]; omega
    · obtain rfl : i = n := by omega
      clear HA
      go_wp2_with fail
      go_ret
      exact ⟨rfl, HB⟩
set_option maxHeartbeats 8000000 in
theorem eq_thing {f : Td} {vc uc : Value} (w : World)
    (g0 : ∀ W', Kb 0 w W' → Calls Try.prog 87 #[vc, uc] W' fun e w' => e = .returned (.bool true) ∧ Kb 0 W' w') :
    Calls Try.prog 62 #[thv f vc, thv f uc] w fun e w' => e = .returned (.bool true) ∧ Kb 0 w w' := by
  have G0 : Hid (∀ W', Kb 0 w W' → Calls Try.prog 87 #[vc, uc] W' fun e w' => e = .returned (.bool true) ∧ Kb 0 W' w') := g0
  clear g0
  unfold thv
  generalize f.t = t at *
  have e1 : (t != t) = false := by simp
  obtain ⟨w2, hw2⟩ : ∃ w2, w2 = (w.alloc (.cells #[.int .i64 t, vc] 56)).alloc (.cells #[.int .i64 t, uc] 56) := ⟨_, rfl⟩
  have k2 : Kb 0 w w2 := by rw [hw2]; exact kb_alloc2 _ _ _ _
  have b0 : w2.heap[w.heap.size]? = some (.cells #[.int .i64 t, vc] 56 (0, 0)) := by
    rw [hw2, (kb_alloc 0 _ _).block _ (Nat.zero_le _) (by rw [World.size_alloc]; omega)]
    exact alloc_new _ _ _
  have b1 : w2.heap[w.heap.size + 1]? = some (.cells #[.int .i64 t, uc] 56 (0, 0)) := by
    have e : (w.alloc (.cells #[.int .i64 t, vc] 56)).heap.size = w.heap.size + 1 := World.size_alloc _ _
    rw [hw2, ← e]
    exact alloc_new _ _ _
  have HK : Hid (Kb 0 w w2 ∧ w2.heap[w.heap.size]? = some (.cells #[.int .i64 t, vc] 56 (0, 0)) ∧ w2.heap[w.heap.size + 1]? = some (.cells #[.int .i64 t, uc] 56 (0, 0)) ∧ w.heap.size + 1 < w2.heap.size) := (⟨k2, b0, b1, by rw [hw2]; simp⟩ : _ ∧ _)
  have HW : Hid (w2 = (w.alloc (.cells #[.int .i64 t, vc] 56)).alloc (.cells #[.int .i64 t, uc] 56)) := hw2
  clear hw2 k2 b0 b1
  go_enter Try.func62, Try.ntmps62
  go_wp2_with fail
  rw [← (show w2 = _ from HW)]
  clear HW
  refine ((show ∀ W', Kb 0 w W' → Calls Try.prog 87 #[vc, uc] W' fun e w' => e = .returned (.bool true) ∧ Kb 0 W' w' from G0) w2 HK.1).mono ?_
  rintro e x0 ⟨rfl, k0⟩
  have HL : Hid (Kb 0 w x0 ∧ x0.heap[w.heap.size]? = some (.cells #[.int .i64 t, vc] 56 (0, 0)) ∧ x0.heap[w.heap.size + 1]? = some (.cells #[.int .i64 t, uc] 56 (0, 0)) ∧ w.heap.size + 1 < x0.heap.size) := by
    obtain ⟨q1, q2, q3, q4⟩ := (show Kb 0 w w2 ∧ w2.heap[w.heap.size]? = some (.cells #[.int .i64 t, vc] 56 (0, 0)) ∧ w2.heap[w.heap.size + 1]? = some (.cells #[.int .i64 t, uc] 56 (0, 0)) ∧ w.heap.size + 1 < w2.heap.size from HK)
    have q5 := k0.size
    exact ⟨q1.trans k0, (k0.block _ (Nat.zero_le _) (by omega)).trans q2, (k0.block _ (Nat.zero_le _) (by omega)).trans q3, by omega⟩
  clear HK
  have HK := HL
  clear HL k0 G0
  go_wp2_with fail
  go_ret
  exact ⟨rfl, HK.1⟩
end Go.Proofs.Ytdgainfmidoemaa.Fo
