import Derived.Deep.RegionHeldLaw
import Derived.Test.YtbbjbojjglhgmaaMGbb
import Derived.Test.YtbbjbojjglhgmaaMGbd
import Derived.Test.YtbbjbojjglhgmaaMGcc
namespace Go.Proofs.Ytbbjbojjglhgmaa.Fo
open Go.ChangeShapes Go.WideShapes Go.ChangeAt Go.RowKit
set_option linter.unusedVariables false
set_option maxRecDepth 100000
set_option maxHeartbeats 4000000 in
theorem eq_val (u : Gv) (w : World) : Calls Try.prog 135 #[gvv u, gvv u] w fun e w' => e = .returned (.bool true) ∧ Kb 0 w w' := by
  unfold gvv
  obtain ⟨k, m, x, r⟩ := u
  have h1 : (k != k) = false := by simp
  have h2 : (m != m) = false := by simp
  have h3 : (r != r) = false := by simp
  go_enter Try.func135, Try.ntmps135
  go_wp2_with fail
  go_ret
  exact ⟨rfl, kb_alloc2 _ _ _ _⟩
set_option maxHeartbeats 8000000 in
theorem eq_vals {va vb : Value} {n : Nat} {C : Nat → Gv} (w : World) (ha : RowW 0 w va n C) (hb : RowW 0 w vb n C) (hn : n ≤ 1048576)  :
    Calls Try.prog 173 #[va, vb] w fun e w' => e = .returned (.bool true) ∧ Kb 0 w w' := by
  obtain ⟨pa, ca, rfl, ha2⟩ := ha
  obtain ⟨pb, cb, rfl, hb2⟩ := hb
  have HA : Hid ((0 < n → ∃ a : Addr, pa = some a ∧ n ≤ ca ∧ 0 ≤ a.block ∧ ∀ i, i < n → ValC 0 w (a.add (i * 4)) (C i)) ∧ (0 < n → ∃ a : Addr, pb = some a ∧ n ≤ cb ∧ 0 ≤ a.block ∧ ∀ i, i < n → ValC 0 w (a.add (i * 4)) (C i))) := (⟨ha2, hb2⟩ : _ ∧ _)
  have hnI : (n : Int) ≤ 1048576 := by omega
  clear ha2 hb2 hn 
  go_enter Try.func173, Try.ntmps173
  go_wp2_with fail
  go_loopw [5] (fun s5 wr => ∃ i : Nat, s5 = .int .i64 (i : Int) ∧ i ≤ n ∧ Hid (Kb 0 w wr)) (fun s5 _ => n - (intOf s5).toNat)
  case atStart => exact ⟨0, rfl, Nat.zero_le _, Kb.refl _ _⟩
  case round =>
    obtain ⟨i, rfl, hin, HB⟩ := hrel
    rcases Nat.lt_or_ge i n with hi | hi
    · have hA := (show (0 < n → ∃ a : Addr, pa = some a ∧ n ≤ ca ∧ 0 ≤ a.block ∧ ∀ i, i < n → ValC 0 w (a.add (i * 4)) (C i)) ∧ (0 < n → ∃ a : Addr, pb = some a ∧ n ≤ cb ∧ 0 ≤ a.block ∧ ∀ i, i < n → ValC 0 w (a.add (i * 4)) (C i)) from HA)
      obtain ⟨qa, rfl, hca, -, hra⟩ := hA.1 (by omega)
      obtain ⟨qb, rfl, hcb, -, hrb⟩ := hA.2 (by omega)
      have hiI : (i : Int) < (n : Int) := by omega
      have ca := (hra i hi).keep (Nat.zero_le _) HB
      have cb := (hrb i hi).keep (Nat.zero_le _) HB
      have heq : ∀ W', Kb 0 wr W' → Calls Try.prog 135 #[gvv (C i), gvv (C i)] W' fun e w' => e = .returned (.bool true) ∧ Kb 0 W' w' := fun W' _ => eq_val (C i) W'
      replace heq : ∀ W', W'.heap = wr.heap → W'.os = wr.os → W'.output = wr.output → Calls Try.prog 135 #[gvv (C i), gvv (C i)] W' fun e w' => e = .returned (.bool true) ∧ Kb 0 wr w' := fun W' h0 h1 h2 => by
        have kk : Kb 0 wr W' := ⟨h1, h2, by rw [h0]; exact Nat.le_refl _, fun k _ _ => by rw [h0]⟩
        refine (heq W' kk).mono ?_
        rintro e w' ⟨rfl, k⟩
        exact ⟨rfl, kk.trans k⟩
      obtain ⟨a0, a1, a2, a3⟩ := ca
      obtain ⟨b0, b1, b2, b3⟩ := cb
      clear hra hrb hA HA
      generalize C i = u at *
      obtain ⟨xk, xm, xx, xr⟩ := u
      unfold gvv at heq
      dsimp only at a0 a1 a2 a3 b0 b1 b2 b3 heq
      have HKEEP : Hid (∀ (W' : World), Kb 0 wr W' → W'.cell? (qa.add (i * 4)) = some (.int .i64 xk) ∧ W'.cell? ⟨(qa.add (i * 4)).block, (qa.add (i * 4)).off + 1, none⟩ = some (.int .i64 xm) ∧ W'.cell? ⟨(qa.add (i * 4)).block, (qa.add (i * 4)).off + 2, none⟩ = some (.string xx) ∧ W'.cell? ⟨(qa.add (i * 4)).block, (qa.add (i * 4)).off + 3, none⟩ = some (.int .i64 xr) ∧ W'.cell? (qb.add (i * 4)) = some (.int .i64 xk) ∧ W'.cell? ⟨(qb.add (i * 4)).block, (qb.add (i * 4)).off + 1, none⟩ = some (.int .i64 xm) ∧ W'.cell? ⟨(qb.add (i * 4)).block, (qb.add (i * 4)).off + 2, none⟩ = some (.string xx) ∧ W'.cell? ⟨(qb.add (i * 4)).block, (qb.add (i * 4)).off + 3, none⟩ = some (.int .i64 xr)) := by
        show ∀ (W' : World), _
        intro W' k
        exact ⟨k.cell a0, k.cell a1, k.cell a2, k.cell a3, k.cell b0, k.cell b1, k.cell b2, k.cell b3⟩
      have HEQ : Hid (∀ W', W'.heap = wr.heap → W'.os = wr.os → W'.output = wr.output → Calls Try.prog 135 #[.agg #[.int .i64 xk, .int .i64 xm, .string xx, .int .i64 xr], .agg #[.int .i64 xk, .int .i64 xm, .string xx, .int .i64 xr]] W' fun e w' => e = .returned (.bool true) ∧ Kb 0 wr w') := heq
      clear hin heq
      go_wp2_with fail
      go_region_held_law (fun W' => W'.cell? (qa.add (i * 4)) = some (.int .i64 xk) ∧ W'.cell? ⟨(qa.add (i * 4)).block, (qa.add (i * 4)).off + 1, none⟩ = some (.int .i64 xm) ∧ W'.cell? ⟨(qa.add (i * 4)).block, (qa.add (i * 4)).off + 2, none⟩ = some (.string xx) ∧ W'.cell? ⟨(qa.add (i * 4)).block, (qa.add (i * 4)).off + 3, none⟩ = some (.int .i64 xr) ∧ W'.cell? (qb.add (i * 4)) = some (.int .i64 xk) ∧ W'.cell? ⟨(qb.add (i * 4)).block, (qb.add (i * 4)).off + 1, none⟩ = some (.int .i64 xm) ∧ W'.cell? ⟨(qb.add (i * 4)).block, (qb.add (i * 4)).off + 2, none⟩ = some (.string xx) ∧ W'.cell? ⟨(qb.add (i * 4)).block, (qb.add (i * 4)).off + 3, none⟩ = some (.int .i64 xr)) (first | exact ⟨a0, a1, a2, a3, b0, b1, b2, b3⟩ | exact (show ∀ (W' : World), _ from HKEEP) _ k5)
        ((go_at_call 135; refine ((show ∀ W', W'.heap = wr.heap → W'.os = wr.os → W'.output = wr.output → Calls Try.prog 135 #[.agg #[.int .i64 xk, .int .i64 xm, .string xx, .int .i64 xr], .agg #[.int .i64 xk, .int .i64 xm, .string xx, .int .i64 xr]] W' fun e w' => e = .returned (.bool true) ∧ Kb 0 wr w' from HEQ) _ (by exact rfl) (by exact rfl) (by exact rfl)).mono ?_; rintro e w5 ⟨rfl, k5⟩))
      all_goals
        have HB5 : Hid (Kb 0 w w5) := (show Kb 0 w wr from HB).trans k5
        clear HB HKEEP HEQ k5 a0 a1 a2 a3 b0 b1 b2 b3
        go_wp2_with fail
        go_roundw
        case rel => exact ⟨i + 1, by go_num, by omega, HB5⟩
        case measure => simp [intOf]; omega
    · obtain rfl : i = n := by omega
      clear HA
      go_wp2_with fail
      go_ret
      exact ⟨rfl, HB⟩
set_option maxHeartbeats 8000000 in
theorem eq_thing {f : Td} {vc uc : Value} (w : World)
    (g0 : ∀ W', Kb 0 w W' → Calls Try.prog 173 #[vc, uc] W' fun e w' => e = .returned (.bool true) ∧ Kb 0 W' w') :
    Calls Try.prog 168 #[thv f vc, thv f uc] w fun e w' => e = .returned (.bool true) ∧ Kb 0 w w' := by
  have G0 : Hid (∀ W', Kb 0 w W' → Calls Try.prog 173 #[vc, uc] W' fun e w' => e = .returned (.bool true) ∧ Kb 0 W' w') := g0
  clear g0
  unfold thv
  generalize f.t = t at *
  have e1 : (t != t) = false := by simp
  obtain ⟨w2, hw2⟩ : ∃ w2, w2 = (w.alloc (.cells #[.int .i64 t, vc] 93)).alloc (.cells #[.int .i64 t, uc] 93) := ⟨_, rfl⟩
  have k2 : Kb 0 w w2 := by rw [hw2]; exact kb_alloc2 _ _ _ _
  have b0 : w2.heap[w.heap.size]? = some (.cells #[.int .i64 t, vc] 93 (0, 0)) := by
    rw [hw2, (kb_alloc 0 _ _).block _ (Nat.zero_le _) (by rw [World.size_alloc]; omega)]
    exact alloc_new _ _ _
  have b1 : w2.heap[w.heap.size + 1]? = some (.cells #[.int .i64 t, uc] 93 (0, 0)) := by
    have e : (w.alloc (.cells #[.int .i64 t, vc] 93)).heap.size = w.heap.size + 1 := World.size_alloc _ _
    rw [hw2, ← e]
    exact alloc_new _ _ _
  have HK : Hid (Kb 0 w w2 ∧ w2.heap[w.heap.size]? = some (.cells #[.int .i64 t, vc] 93 (0, 0)) ∧ w2.heap[w.heap.size + 1]? = some (.cells #[.int .i64 t, uc] 93 (0, 0)) ∧ w.heap.size + 1 < w2.heap.size) := (⟨k2, b0, b1, by rw [hw2]; simp⟩ : _ ∧ _)
  have HW : Hid (w2 = (w.alloc (.cells #[.int .i64 t, vc] 93)).alloc (.cells #[.int .i64 t, uc] 93)) := hw2
  clear hw2 k2 b0 b1
  go_enter Try.func168, Try.ntmps168
  go_wp2_with fail
  rw [← (show w2 = _ from HW)]
  clear HW
  refine ((show ∀ W', Kb 0 w W' → Calls Try.prog 173 #[vc, uc] W' fun e w' => e = .returned (.bool true) ∧ Kb 0 W' w' from G0) w2 HK.1).mono ?_
  rintro e x0 ⟨rfl, k0⟩
  have HL : Hid (Kb 0 w x0 ∧ x0.heap[w.heap.size]? = some (.cells #[.int .i64 t, vc] 93 (0, 0)) ∧ x0.heap[w.heap.size + 1]? = some (.cells #[.int .i64 t, uc] 93 (0, 0)) ∧ w.heap.size + 1 < x0.heap.size) := by
    obtain ⟨q1, q2, q3, q4⟩ := (show Kb 0 w w2 ∧ w2.heap[w.heap.size]? = some (.cells #[.int .i64 t, vc] 93 (0, 0)) ∧ w2.heap[w.heap.size + 1]? = some (.cells #[.int .i64 t, uc] 93 (0, 0)) ∧ w.heap.size + 1 < w2.heap.size from HK)
    have q5 := k0.size
    exact ⟨q1.trans k0, (k0.block _ (Nat.zero_le _) (by omega)).trans q2, (k0.block _ (Nat.zero_le _) (by omega)).trans q3, by omega⟩
  clear HK
  have HK := HL
  clear HL k0 G0
  go_wp2_with fail
  go_ret
  exact ⟨rfl, HK.1⟩
end Go.Proofs.Ytbbjbojjglhgmaa.Fo

namespace Go.Proofs.Ytbbjbojjglhgmaa.Fo
open Go.ChangeShapes Go.WideShapes Go.ChangeAt Go.RowKit
set_option linter.unusedVariables false
set_option maxRecDepth 100000
set_option maxHeartbeats 8000000 in
theorem eq_things {va vb : Value} {n : Nat} {F : Nat → Td} (w : World) (ha : RowT 0 w va n F) (hb : RowT 0 w vb n F) (hn : n ≤ 1048576) (hF : ∀ i, i < n → (F i).c ≤ 1048576) :
    Calls Try.prog 136 #[va, vb] w fun e w' => e = .returned (.bool true) ∧ Kb 0 w w' := by
  obtain ⟨pa, ca, rfl, ha2⟩ := ha
  obtain ⟨pb, cb, rfl, hb2⟩ := hb
  have HA : Hid ((0 < n → ∃ a : Addr, pa = some a ∧ n ≤ ca ∧ 0 ≤ a.block ∧ ∀ i, i < n → ThC 0 w (a.add (i * 2)) (F i)) ∧ (0 < n → ∃ a : Addr, pb = some a ∧ n ≤ cb ∧ 0 ≤ a.block ∧ ∀ i, i < n → ThC 0 w (a.add (i * 2)) (F i)) ∧ (∀ i, i < n → (F i).c ≤ 1048576)) := (⟨ha2, hb2, hF⟩ : _ ∧ _)
  have hnI : (n : Int) ≤ 1048576 := by omega
  clear ha2 hb2 hn hF
  go_enter Try.func136, Try.ntmps136
  go_wp2_with fail
  go_loopw [5] (fun s5 wr => ∃ i : Nat, s5 = .int .i64 (i : Int) ∧ i ≤ n ∧ Hid (Kb 0 w wr)) (fun s5 _ => n - (intOf s5).toNat)
  case atStart => exact ⟨0, rfl, Nat.zero_le _, Kb.refl _ _⟩
  case round =>
    obtain ⟨i, rfl, hin, HB⟩ := hrel
    rcases Nat.lt_or_ge i n with hi | hi
    · have hA := (show (0 < n → ∃ a : Addr, pa = some a ∧ n ≤ ca ∧ 0 ≤ a.block ∧ ∀ i, i < n → ThC 0 w (a.add (i * 2)) (F i)) ∧ (0 < n → ∃ a : Addr, pb = some a ∧ n ≤ cb ∧ 0 ≤ a.block ∧ ∀ i, i < n → ThC 0 w (a.add (i * 2)) (F i)) ∧ (∀ i, i < n → (F i).c ≤ 1048576) from HA)
      obtain ⟨qa, rfl, hca, -, hra⟩ := hA.1 (by omega)
      obtain ⟨qb, rfl, hcb, -, hrb⟩ := hA.2.1 (by omega)
      have hiI : (i : Int) < (n : Int) := by omega
      obtain ⟨vc, ca, h1⟩ := (hra i hi).keep (Nat.zero_le _) HB
      obtain ⟨uc, cb, h2⟩ := (hrb i hi).keep (Nat.zero_le _) HB
      have y1 := hA.2.2 i hi
      have heq : ∀ W', Kb 0 wr W' → Calls Try.prog 168 #[thv (F i) vc, thv (F i) uc] W' fun e w' => e = .returned (.bool true) ∧ Kb 0 W' w' := fun W' k => eq_thing W' (fun W k2 => eq_vals W (h1.keep (k.trans k2)) (h2.keep (k.trans k2)) y1)
      replace heq : ∀ W', W'.heap = wr.heap → W'.os = wr.os → W'.output = wr.output → Calls Try.prog 168 #[thv (F i) vc, thv (F i) uc] W' fun e w' => e = .returned (.bool true) ∧ Kb 0 wr w' := fun W' h0 h1 h2 => by
        have kk : Kb 0 wr W' := ⟨h1, h2, by rw [h0]; exact Nat.le_refl _, fun k _ _ => by rw [h0]⟩
        refine (heq W' kk).mono ?_
        rintro e w' ⟨rfl, k⟩
        exact ⟨rfl, kk.trans k⟩
      obtain ⟨a0, a1⟩ := ca
      obtain ⟨b0, b1⟩ := cb
      clear hra hrb hA HA h1 h2 y1
      generalize F i = G at *
      obtain ⟨xt, gc, gC⟩ := G
      unfold thv at heq
      dsimp only at a0 b0 heq
      have HKEEP : Hid (∀ (W' : World), Kb 0 wr W' → W'.cell? (qa.add (i * 2)) = some (.int .i64 xt) ∧ W'.cell? ⟨(qa.add (i * 2)).block, (qa.add (i * 2)).off + 1, none⟩ = some (vc) ∧ W'.cell? (qb.add (i * 2)) = some (.int .i64 xt) ∧ W'.cell? ⟨(qb.add (i * 2)).block, (qb.add (i * 2)).off + 1, none⟩ = some (uc)) := by
        show ∀ (W' : World), _
        intro W' k
        exact ⟨k.cell a0, k.cell a1, k.cell b0, k.cell b1⟩
      have HEQ : Hid (∀ W', W'.heap = wr.heap → W'.os = wr.os → W'.output = wr.output → Calls Try.prog 168 #[.agg #[.int .i64 xt, vc], .agg #[.int .i64 xt, uc]] W' fun e w' => e = .returned (.bool true) ∧ Kb 0 wr w') := heq
      clear hin heq
      go_wp2_with fail
      go_region_held_law (fun W' => W'.cell? (qa.add (i * 2)) = some (.int .i64 xt) ∧ W'.cell? ⟨(qa.add (i * 2)).block, (qa.add (i * 2)).off + 1, none⟩ = some (vc) ∧ W'.cell? (qb.add (i * 2)) = some (.int .i64 xt) ∧ W'.cell? ⟨(qb.add (i * 2)).block, (qb.add (i * 2)).off + 1, none⟩ = some (uc)) (first | exact ⟨a0, a1, b0, b1⟩ | exact (show ∀ (W' : World), _ from HKEEP) _ k5)
        ((go_at_call 168; refine ((show ∀ W', W'.heap = wr.heap → W'.os = wr.os → W'.output = wr.output → Calls Try.prog 168 #[.agg #[.int .i64 xt, vc], .agg #[.int .i64 xt, uc]] W' fun e w' => e = .returned (.bool true) ∧ Kb 0 wr w' from HEQ) _ (by exact rfl) (by exact rfl) (by exact rfl)).mono ?_; rintro e w5 ⟨rfl, k5⟩))
      all_goals
        have HB5 : Hid (Kb 0 w w5) := (show Kb 0 w wr from HB).trans k5
        clear HB HKEEP HEQ k5 a0 a1 b0 b1
        go_wp2_with fail
        go_roundw
        case rel => exact ⟨i + 1, by go_num, by omega, HB5⟩
        case measure => simp [intOf]; omega
    · obtain rfl : i = n := by omega
      clear HA
      go_wp2_with fail
      go_ret
      exact ⟨rfl, HB⟩
end Go.Proofs.Ytbbjbojjglhgmaa.Fo

namespace Go.Proofs.Ytbbjbojjglhgmaa.Fo
open Go.ChangeShapes Go.WideShapes Go.ChangeAt Go.RowKit
set_option linter.unusedVariables false
set_option maxRecDepth 100000
set_option maxHeartbeats 8000000 in
theorem eq_graph0 {a : Gv} {va vb : Value} (w : World)
    (g0 : ∀ W', Kb 0 w W' → Calls Try.prog 136 #[va, vb] W' fun e w' => e = .returned (.bool true) ∧ Kb 0 W' w') :
    Calls Try.prog 73 #[grv a va, grv a vb] w fun e w' => e = .returned (.bool true) ∧ Kb 0 w w' := by
  have G0 : Hid (∀ W', Kb 0 w W' → Calls Try.prog 136 #[va, vb] W' fun e w' => e = .returned (.bool true) ∧ Kb 0 W' w') := g0
  clear g0
  unfold grv
  obtain ⟨w2, hw2⟩ : ∃ w2, w2 = (w.alloc (.cells #[.int .i64 a.k, .int .i64 a.m, .string a.x, .int .i64 a.r, va] 27)).alloc (.cells #[.int .i64 a.k, .int .i64 a.m, .string a.x, .int .i64 a.r, vb] 27) := ⟨_, rfl⟩
  have k2 : Kb 0 w w2 := by rw [hw2]; exact kb_alloc2 _ _ _ _
  have b0 : w2.heap[w.heap.size]? = some (.cells #[.int .i64 a.k, .int .i64 a.m, .string a.x, .int .i64 a.r, va] 27 (0, 0)) := by
    rw [hw2, (kb_alloc 0 _ _).block _ (Nat.zero_le _) (by rw [World.size_alloc]; omega)]
    exact alloc_new _ _ _
  have b1 : w2.heap[w.heap.size + 1]? = some (.cells #[.int .i64 a.k, .int .i64 a.m, .string a.x, .int .i64 a.r, vb] 27 (0, 0)) := by
    have e : (w.alloc (.cells #[.int .i64 a.k, .int .i64 a.m, .string a.x, .int .i64 a.r, va] 27)).heap.size = w.heap.size + 1 := World.size_alloc _ _
    rw [hw2, ← e]
    exact alloc_new _ _ _
  have HV : Hid (Calls Try.prog 135 #[.agg #[.int .i64 a.k, .int .i64 a.m, .string a.x, .int .i64 a.r], .agg #[.int .i64 a.k, .int .i64 a.m, .string a.x, .int .i64 a.r]] w2 fun e w' => e = .returned (.bool true) ∧ Kb 0 w2 w') := eq_val a w2
  have HW2 : Hid (w2 = (w.alloc (.cells #[.int .i64 a.k, .int .i64 a.m, .string a.x, .int .i64 a.r, va] 27)).alloc (.cells #[.int .i64 a.k, .int .i64 a.m, .string a.x, .int .i64 a.r, vb] 27)) := hw2
  have HB : Hid (Kb 0 w w2 ∧ w2.heap[w.heap.size]? = some (.cells #[.int .i64 a.k, .int .i64 a.m, .string a.x, .int .i64 a.r, va] 27 (0, 0)) ∧ w2.heap[w.heap.size + 1]? = some (.cells #[.int .i64 a.k, .int .i64 a.m, .string a.x, .int .i64 a.r, vb] 27 (0, 0))) := (⟨k2, b0, b1⟩ : _ ∧ _)
  clear hw2 k2 b0 b1
  go_enter Try.func73, Try.ntmps73
  go_wp2_with fail
  rw [← (show w2 = _ from HW2)]
  clear HW2
  refine (show Calls Try.prog 135 _ w2 _ from HV).mono ?_
  rintro e w3 ⟨rfl, k1⟩
  obtain ⟨k2, b0, b1⟩ := (show Kb 0 w w2 ∧ _ ∧ _ from HB)
  have u0 : w3.cell? ⟨w.heap.size, 4, none⟩ = some va := k1.cell (cell_of b0 rfl)
  have u1 : w3.cell? ⟨w.heap.size + 1, 4, none⟩ = some vb := k1.cell (cell_of b1 rfl)
  have HC : Hid (Kb 0 w w3 ∧ Calls Try.prog 136 #[va, vb] w3 fun e w' => e = .returned (.bool true) ∧ Kb 0 w3 w') := (⟨k2.trans k1, (show ∀ W', Kb 0 w W' → _ from G0) w3 (k2.trans k1)⟩ : _ ∧ _)
  clear k1 k2 b0 b1 HV HB G0
  go_wp2_with fail
  refine (show Kb 0 w w3 ∧ Calls Try.prog 136 #[va, vb] w3 _ from HC).2.mono ?_
  rintro e w4 ⟨rfl, k4⟩
  have HK : Hid (Kb 0 w w4) := (show Kb 0 w w3 ∧ _ from HC).1.trans k4
  clear HC k4 u0 u1
  go_wp2_with fail
  go_ret
  exact ⟨rfl, HK⟩
end Go.Proofs.Ytbbjbojjglhgmaa.Fo

namespace Go.Proofs.Ytbbjbojjglhgmaa.Fo
open Go.ChangeShapes Go.WideShapes Go.ChangeAt Go.RowKit
set_option linter.unusedVariables false
set_option maxRecDepth 100000
theorem eq_graph {a : Gv} {va vb : Value} {n : Nat} {F : Nat → Td} (w : World) (ha : RowT 0 w va n F) (hv : RowT 0 w vb n F) (hb : Bg n F a) : Calls Try.prog 73 #[grv a va, grv a vb] w fun e w' => e = .returned (.bool true) ∧ Kb 0 w w' :=
  eq_graph0 w (fun W k => eq_things W (ha.keep k) (hv.keep k) hb.hn (fun i hi => hb.hc i hi))
end Go.Proofs.Ytbbjbojjglhgmaa.Fo
