import Derived.Test.YtladepgpandklaaGreatDoorMVdb
namespace Go.Proofs.YtladepgpandklaaGreatDoor
open Go.ChangeShapes Go.WideShapes Go.ChangeAt Go.RowKit
set_option linter.unusedVariables false
set_option maxRecDepth 100000
theorem wrap_id {x : Int} (h0 : -9223372036854775808 ≤ x) (h1 : x ≤ 9223372036854775807) : wrap64 x = x := by
  unfold wrap64; omega
theorem tdiv_bd (a b : Int) (h0 : ¬ b = 0) (h1 : ¬ b = -1) (ha : -9223372036854775808 ≤ a ∧ a ≤ 9223372036854775807) : -9223372036854775808 ≤ a.tdiv b ∧ a.tdiv b ≤ 9223372036854775807 ∧ (a.tmod b ≠ 0 → -9223372036854775807 ≤ a.tdiv b) := by
  have h := Int.natAbs_tdiv a b
  have h2 : a.natAbs / b.natAbs ≤ a.natAbs := Nat.div_le_self _ _
  by_cases hb : b = 1
  · subst hb; simp; omega
  · have h3 : a.natAbs / b.natAbs ≤ a.natAbs / 2 := Nat.div_le_div_left (by omega) (by omega)
    have : (a.tdiv b).natAbs ≤ a.natAbs / 2 := by rw [h]; exact h3
    omega
theorem tmod_bd (a b : Int) (h0 : ¬ b = 0) (hb : -9223372036854775808 ≤ b ∧ b ≤ 9223372036854775807) : -9223372036854775808 ≤ a.tmod b ∧ a.tmod b ≤ 9223372036854775807 ∧ (b < 0 → b < a.tmod b ∧ a.tmod b < -b) ∧ (0 < b → -b < a.tmod b ∧ a.tmod b < b) := by
  have h := Int.natAbs_tmod a b
  have h2 : a.natAbs % b.natAbs < b.natAbs := Nat.mod_lt _ (by omega)
  omega
theorem rest_eq (a b : Int) (h0 : ¬ b = 0) (ha : -9223372036854775808 ≤ a ∧ a ≤ 9223372036854775807) (hb : -9223372036854775808 ≤ b ∧ b ≤ 9223372036854775807) :
    wrap64 (a - wrap64 (b * a.tdiv b)) = a.tmod b := by
  have h := Int.mul_tdiv_add_tmod a b
  have hm := tmod_bd a b h0 hb
  have e : b * a.tdiv b = a - a.tmod b := by omega
  rw [e]
  unfold wrap64; omega
theorem tmod_sign (a b : Int) (h : a.tmod b ≠ 0) : (a.tmod b < 0 ↔ a < 0) := by
  constructor
  · intro g
    refine Int.not_le.1 fun g2 => ?_
    have := Int.tmod_nonneg b g2
    omega
  · intro g
    have h2 : (-a).tmod b = -(a.tmod b) := Int.neg_tmod a b
    have := Int.tmod_nonneg b (show 0 ≤ -a by omega)
    omega
set_option maxHeartbeats 2000000 in
theorem div_both (a b : Int) (ha : -9223372036854775808 ≤ a ∧ a ≤ 9223372036854775807) (hb : -9223372036854775808 ≤ b ∧ b ≤ 9223372036854775807) (h0 : ¬ b = 0) : ∃ z m : Int, wrap64 (a - wrap64 (b * z)) = m ∧ (∀ w, Calls Tryz.prog 43 #[.int .i64 a, .int .i64 b] w fun e w' => e = .returned (.int .i64 z) ∧ w' = w) ∧ (∀ w, Calls Tryz.prog 65 #[.int .i64 a, .int .i64 b] w fun e w' => e = .returned (.agg #[.int .i64 0, .int .i64 z, .int .i64 m]) ∧ Grown w w') := by
  by_cases h1 : b = -1
  · subst h1
    have e1 : wrap64 (a.tdiv (-1)) = wrap64 (-a) := by rw [Int.tdiv_neg, Int.tdiv_one]
    have e2 : wrap64 (a - wrap64 (-wrap64 (-a))) = 0 := by unfold wrap64; omega
    refine ⟨wrap64 (-a), 0, by rw [← e2]; congr 3; omega, fun w => ?_, fun w => ?_⟩
    · clear ha hb h0
      go_enter Tryz.func43, Tryz.ntmps43
      go_wp2_with fail
      go_ret
      exact ⟨by first | rfl | simp [*], rfl⟩
    · clear ha hb h0
      go_enter Tryz.func65, Tryz.ntmps65
      go_wp2_with fail
      go_returns
      exact ⟨rfl, by go_grown⟩
  have hq := tdiv_bd a b h0 h1 ha
  have hr := tmod_bd a b h0 hb
  have he := rest_eq a b h0 ha hb
  have hw : wrap64 (a.tdiv b) = a.tdiv b := wrap_id hq.1 hq.2.1
  have g0 : (b == 0) = false := by simpa using h0
  have g1 : (b == -1) = false := by simpa using h1
  by_cases hz : a.tmod b = 0
  · have z1 : (a.tmod b != 0) = false := by simpa using hz
    refine ⟨a.tdiv b, a.tmod b, he, fun w => ?_, fun w => ?_⟩
    · clear hq hr
      go_enter Tryz.func43, Tryz.ntmps43
      go_wp2_with fail
      go_ret
      exact ⟨by first | rfl | simp [*], rfl⟩
    · clear hq hr
      rw [hz] at he ⊢
      go_enter Tryz.func65, Tryz.ntmps65
      go_wp2_with fail
      go_returns
      exact ⟨rfl, by go_grown⟩
  have z1 : (a.tmod b != 0) = true := by simpa using hz
  have hsg := tmod_sign a b hz
  have hsd : decide (a.tmod b < 0) = decide (a < 0) := by rw [Bool.eq_iff_iff]; simpa using hsg
  by_cases hs : decide (a.tmod b < 0) = decide (b < 0)
  · have s1 : (!decide (a.tmod b < 0) == decide (b < 0)) = false := by simp [hs]
    have s2 : (!decide (a < 0) == decide (b < 0)) = false := by rw [← hsd]; exact s1
    refine ⟨a.tdiv b, a.tmod b, he, fun w => ?_, fun w => ?_⟩
    · clear hq hr hsg hsd hs
      go_enter Tryz.func43, Tryz.ntmps43
      go_wp2_with fail
      go_ret
      exact ⟨by first | rfl | simp [*], rfl⟩
    · clear hq hr hsg hsd hs
      go_enter Tryz.func65, Tryz.ntmps65
      go_wp2_with fail
      go_returns
      exact ⟨rfl, by go_grown⟩
  · have s1 : (!decide (a.tmod b < 0) == decide (b < 0)) = true := by simp [hs]
    have s2 : (!decide (a < 0) == decide (b < 0)) = true := by rw [← hsd]; exact s1
    have w1 : wrap64 (a.tdiv b - 1) = a.tdiv b - 1 := wrap_id (by have := hq.2.2 hz; omega) (by omega)
    have hs' : (a.tmod b < 0 ∧ 0 < b) ∨ (0 < a.tmod b ∧ b < 0) := by
      by_cases g : a.tmod b < 0 <;> by_cases g2 : b < 0 <;> simp [g, g2] at hs <;> omega
    have w2 : wrap64 (a.tmod b + b) = a.tmod b + b := wrap_id (by omega) (by omega)
    have hm : wrap64 (a - wrap64 (b * (a.tdiv b - 1))) = a.tmod b + b := by
      have h := Int.mul_tdiv_add_tmod a b
      have e : b * (a.tdiv b - 1) = a - a.tmod b - b := by rw [Int.mul_sub, Int.mul_one]; omega
      rw [e, ← w2]
      unfold wrap64; omega
    refine ⟨a.tdiv b - 1, a.tmod b + b, hm, fun w => ?_, fun w => ?_⟩
    · clear hq hr hsg hsd hs hs' hm
      go_enter Tryz.func43, Tryz.ntmps43
      go_wp2_with fail
      go_ret
      exact ⟨by first | rfl | simp [*], rfl⟩
    · clear hq hr hsg hsd hs hs' hm
      go_enter Tryz.func65, Tryz.ntmps65
      go_wp2_with fail
      go_returns
      exact ⟨rfl, by go_grown⟩
end Go.Proofs.YtladepgpandklaaGreatDoor
