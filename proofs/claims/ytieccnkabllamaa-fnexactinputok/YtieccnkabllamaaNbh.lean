import Derived.Test.YtieccnkabllamaaNbg
namespace Go.Proofs.Ytieccnkabllamaa.Fo
open Go.ChangeShapes Go.WideShapes Go.ChangeAt Go.RowKit
set_option linter.unusedVariables false
set_option maxRecDepth 100000
set_option maxHeartbeats 8000000 in
theorem eq_nodes {va vb : Value} {n : Nat} {N : Nat → Nd} (w : World) (ha : RowN 0 w va n N) (hb : RowN 0 w vb n N) (hn : n ≤ 1048576) (hN : ∀ i, i < n → (N i).p ≤ 1048576 ∧ (N i).q ≤ 1048576 ∧ (N i).a.g < 18446744073709551616) :
    Calls Try.prog 77 #[va, vb] w fun e w' => e = .returned (.bool true) ∧ Kb 0 w w' := by
  obtain ⟨pa, ca, rfl, ha2⟩ := ha
  obtain ⟨pb, cb, rfl, hb2⟩ := hb
  have HA : Hid ((0 < n → ∃ a : Addr, pa = some a ∧ n ≤ ca ∧ 0 ≤ a.block ∧ ∀ i, i < n → NodeC 0 w (a.add (i * 8)) (N i)) ∧ (0 < n → ∃ a : Addr, pb = some a ∧ n ≤ cb ∧ 0 ≤ a.block ∧ ∀ i, i < n → NodeC 0 w (a.add (i * 8)) (N i)) ∧ (∀ i, i < n → (N i).p ≤ 1048576 ∧ (N i).q ≤ 1048576 ∧ (N i).a.g < 18446744073709551616)) := (⟨ha2, hb2, hN⟩ : _ ∧ _)
  have hnI : (n : Int) ≤ 1048576 := by omega
  clear ha2 hb2 hn hN
  go_enter Try.func77, Try.ntmps77
  go_wp2_with fail
  go_loopw [5] (fun s5 wr => ∃ i : Nat, s5 = .int .i64 (i : Int) ∧ i ≤ n ∧ Hid (Kb 0 w wr)) (fun s5 _ => n - (intOf s5).toNat)
  case atStart => exact ⟨0, rfl, Nat.zero_le _, Kb.refl _ _⟩
  case round =>
    obtain ⟨i, rfl, hin, HB⟩ := hrel
    rcases Nat.lt_or_ge i n with hi | hi
    · have hA := (show (0 < n → ∃ a : Addr, pa = some a ∧ n ≤ ca ∧ 0 ≤ a.block ∧ ∀ i, i < n → NodeC 0 w (a.add (i * 8)) (N i)) ∧ (0 < n → ∃ a : Addr, pb = some a ∧ n ≤ cb ∧ 0 ≤ a.block ∧ ∀ i, i < n → NodeC 0 w (a.add (i * 8)) (N i)) ∧ (∀ i, i < n → (N i).p ≤ 1048576 ∧ (N i).q ≤ 1048576 ∧ (N i).a.g < 18446744073709551616) from HA)
      obtain ⟨qa, rfl, hca, -, hra⟩ := hA.1 (by omega)
      obtain ⟨qb, rfl, hcb, -, hrb⟩ := hA.2.1 (by omega)
      have hiI : (i : Int) < (n : Int) := by omega
      obtain ⟨vr, vk, ca, hvr, hvk⟩ := (hra i hi).keep (Nat.zero_le _) HB
      obtain ⟨ur, uk, cb, hur, huk⟩ := (hrb i hi).keep (Nat.zero_le _) HB
      obtain ⟨y1, y2, y3⟩ := hA.2.2 i hi
      have heq : ∀ W', Kb 0 wr W' → Calls Try.prog 96 #[ndv (N i).a vr vk, ndv (N i).a ur uk] W' fun e w' => e = .returned (.bool true) ∧ Kb 0 W' w' := fun W' k => eq_node W' (fun W k2 => eq_ints' W (hvr.keep (k.trans k2)) (hur.keep (k.trans k2)) y1) (fun W k2 => eq_ints' W (hvk.keep (k.trans k2)) (huk.keep (k.trans k2)) y2) y3
      replace heq : ∀ W', W'.heap = wr.heap → W'.os = wr.os → W'.output = wr.output → Calls Try.prog 96 #[ndv (N i).a vr vk, ndv (N i).a ur uk] W' fun e w' => e = .returned (.bool true) ∧ Kb 0 wr w' := fun W' h0 h1 h2 => by
        have kk : Kb 0 wr W' := ⟨h1, h2, by rw [h0]; exact Nat.le_refl _, fun k _ _ => by rw [h0]⟩
        refine (heq W' kk).mono ?_
        rintro e w' ⟨rfl, k⟩
        exact ⟨rfl, kk.trans k⟩
      obtain ⟨a0, a1, a2, a3, a4, a5, a6, a7⟩ := ca
      obtain ⟨b0, b1, b2, b3, b4, b5, b6, b7⟩ := cb
      clear hra hrb hA HA hvr hvk hur huk y1 y2 y3
      generalize N i = G at *
      obtain ⟨⟨xk, xl, xo, xm, xg, xx⟩, gp, gR, gq, gK⟩ := G
      unfold ndv at heq
      dsimp only at a0 a1 a2 a3 a4 a5 b0 b1 b2 b3 b4 b5 heq
      have HKEEP : Hid (∀ (W' : World), Kb 0 wr W' → W'.cell? (qa.add (i * 8)) = some (.int .i64 xk) ∧ W'.cell? ⟨(qa.add (i * 8)).block, (qa.add (i * 8)).off + 1, none⟩ = some (.int .i64 xl) ∧ W'.cell? ⟨(qa.add (i * 8)).block, (qa.add (i * 8)).off + 2, none⟩ = some (.int .i64 xo) ∧ W'.cell? ⟨(qa.add (i * 8)).block, (qa.add (i * 8)).off + 3, none⟩ = some (.int .i64 xm) ∧ W'.cell? ⟨(qa.add (i * 8)).block, (qa.add (i * 8)).off + 4, none⟩ = some (.float .f64 xg) ∧ W'.cell? ⟨(qa.add (i * 8)).block, (qa.add (i * 8)).off + 5, none⟩ = some (.string xx) ∧ W'.cell? ⟨(qa.add (i * 8)).block, (qa.add (i * 8)).off + 6, none⟩ = some (vr) ∧ W'.cell? ⟨(qa.add (i * 8)).block, (qa.add (i * 8)).off + 7, none⟩ = some (vk) ∧ W'.cell? (qb.add (i * 8)) = some (.int .i64 xk) ∧ W'.cell? ⟨(qb.add (i * 8)).block, (qb.add (i * 8)).off + 1, none⟩ = some (.int .i64 xl) ∧ W'.cell? ⟨(qb.add (i * 8)).block, (qb.add (i * 8)).off + 2, none⟩ = some (.int .i64 xo) ∧ W'.cell? ⟨(qb.add (i * 8)).block, (qb.add (i * 8)).off + 3, none⟩ = some (.int .i64 xm) ∧ W'.cell? ⟨(qb.add (i * 8)).block, (qb.add (i * 8)).off + 4, none⟩ = some (.float .f64 xg) ∧ W'.cell? ⟨(qb.add (i * 8)).block, (qb.add (i * 8)).off + 5, none⟩ = some (.string xx) ∧ W'.cell? ⟨(qb.add (i * 8)).block, (qb.add (i * 8)).off + 6, none⟩ = some (ur) ∧ W'.cell? ⟨(qb.add (i * 8)).block, (qb.add (i * 8)).off + 7, none⟩ = some (uk)) := by
        show ∀ (W' : World), _
        intro W' k
        exact ⟨k.cell a0, k.cell a1, k.cell a2, k.cell a3, k.cell a4, k.cell a5, k.cell a6, k.cell a7, k.cell b0, k.cell b1, k.cell b2, k.cell b3, k.cell b4, k.cell b5, k.cell b6, k.cell b7⟩
      have HEQ : Hid (∀ W', W'.heap = wr.heap → W'.os = wr.os → W'.output = wr.output → Calls Try.prog 96 #[.agg #[.int .i64 xk, .int .i64 xl, .int .i64 xo, .int .i64 xm, .float .f64 xg, .string xx, vr, vk], .agg #[.int .i64 xk, .int .i64 xl, .int .i64 xo, .int .i64 xm, .float .f64 xg, .string xx, ur, uk]] W' fun e w' => e = .returned (.bool true) ∧ Kb 0 wr w') := heq
      clear hin heq
      go_wp2_with fail
      go_region_held_law (fun W' => W'.cell? (qa.add (i * 8)) = some (.int .i64 xk) ∧ W'.cell? ⟨(qa.add (i * 8)).block, (qa.add (i * 8)).off + 1, none⟩ = some (.int .i64 xl) ∧ W'.cell? ⟨(qa.add (i * 8)).block, (qa.add (i * 8)).off + 2, none⟩ = some (.int .i64 xo) ∧ W'.cell? ⟨(qa.add (i * 8)).block, (qa.add (i * 8)).off + 3, none⟩ = some (.int .i64 xm) ∧ W'.cell? ⟨(qa.add (i * 8)).block, (qa.add (i * 8)).off + 4, none⟩ = some (.float .f64 xg) ∧ W'.cell? ⟨(qa.add (i * 8)).block, (qa.add (i * 8)).off + 5, none⟩ = some (.string xx) ∧ W'.cell? ⟨(qa.add (i * 8)).block, (qa.add (i * 8)).off + 6, none⟩ = some (vr) ∧ W'.cell? ⟨(qa.add (i * 8)).block, (qa.add (i * 8)).off + 7, none⟩ = some (vk) ∧ W'.cell? (qb.add (i * 8)) = some (.int .i64 xk) ∧ W'.cell? ⟨(qb.add (i * 8)).block, (qb.add (i * 8)).off + 1, none⟩ = some (.int .i64 xl) ∧ W'.cell? ⟨(qb.add (i * 8)).block, (qb.add (i * 8)).off + 2, none⟩ = some (.int .i64 xo) ∧ W'.cell? ⟨(qb.add (i * 8)).block, (qb.add (i * 8)).off + 3, none⟩ = some (.int .i64 xm) ∧ W'.cell? ⟨(qb.add (i * 8)).block, (qb.add (i * 8)).off + 4, none⟩ = some (.float .f64 xg) ∧ W'.cell? ⟨(qb.add (i * 8)).block, (qb.add (i * 8)).off + 5, none⟩ = some (.string xx) ∧ W'.cell? ⟨(qb.add (i * 8)).block, (qb.add (i * 8)).off + 6, none⟩ = some (ur) ∧ W'.cell? ⟨(qb.add (i * 8)).block, (qb.add (i * 8)).off + 7, none⟩ = some (uk)) (first | exact ⟨a0, a1, a2, a3, a4, a5, a6, a7, b0, b1, b2, b3, b4, b5, b6, b7⟩ | exact (show ∀ (W' : World), _ from HKEEP) _ k5)
        ((go_at_call 96; refine ((show ∀ W', W'.heap = wr.heap → W'.os = wr.os → W'.output = wr.output → Calls Try.prog 96 #[.agg #[.int .i64 xk, .int .i64 xl, .int .i64 xo, .int .i64 xm, .float .f64 xg, .string xx, vr, vk], .agg #[.int .i64 xk, .int .i64 xl, .int .i64 xo, .int .i64 xm, .float .f64 xg, .string xx, ur, uk]] W' fun e w' => e = .returned (.bool true) ∧ Kb 0 wr w' from HEQ) _ (by exact rfl) (by exact rfl) (by exact rfl)).mono ?_; rintro e w5 ⟨rfl, k5⟩))
      all_goals
        have HB5 : Hid (Kb 0 w w5) := (show Kb 0 w wr from HB).trans k5
        clear HB HKEEP HEQ k5 a0 a1 a2 a3 a4 a5 a6 a7 b0 b1 b2 b3 b4 b5 b6 b7
        go_wp2_with fail
        go_roundw
        case rel => exact ⟨i + 1, by go_num, by omega, HB5⟩
        case measure => simp [intOf]; omega
    · obtain rfl : i = n := by omega
      clear HA
      go_wp2_with fail
      go_ret
      exact ⟨rfl, HB⟩
end Go.Proofs.Ytieccnkabllamaa.Fo
