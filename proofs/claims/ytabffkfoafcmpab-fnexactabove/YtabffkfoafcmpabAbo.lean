import Derived.Test.YtabffkfoafcmpabFrob
namespace Go.Proofs.Ytabffkfoafcmpab
open Go.ChangeShapes Go.WideShapes Go.ChangeAt Go.RowKit
set_option linter.unusedVariables false
namespace Flt
open Ieee
theorem above_cases (x : Nat) (hx : x < 18446744073709551616) :
    (FloatKind.f64.format.order x x = none) ∨ x = 9218868437227405312 ∨ (x = 0 ∨ x = 9223372036854775808) ∨
    (FloatKind.f64.format.order x x = some .eq ∧ FloatKind.f64.format.order x 0 = some .lt ∧ FloatKind.f64.format.order x 9218868437227405311 = some .lt ∧ 9223372036854775808 < x) ∨
    (FloatKind.f64.format.order x x = some .eq ∧ FloatKind.f64.format.order x 0 = some .gt ∧ (FloatKind.f64.format.order x 9218868437227405311 = some .lt ∨ FloatKind.f64.format.order x 9218868437227405311 = some .eq) ∧ x < 9218868437227405312) := by
  rcases read_cases x hx with ⟨s, t, hr⟩ | ⟨s, hr, hw⟩ | ⟨s, m, k, hc, hr, hw⟩
  · left; exact order_nan ⟨s, t, hr⟩
  · right
    cases s
    · left; exact hw
    · right; right; left
      have : x = 18442240474082181120 := hw
      subst this
      exact ⟨by decide, by decide, by decide, by omega⟩
  · right; right
    by_cases hm : m = 0
    · left
      subst hm
      have hk : k = 0 := by have := hc.low; omega
      subst hk
      cases s
      · left; exact hw
      · right; exact hw
    · right
      have hz := ord_zero s hc hm
      have hs := ord_self s hc
      rw [← hw] at hz hs
      have hru := hc.rung
      cases s
      · right
        have hmx := ord_max hc
        rw [F_word hc, ← hw] at hmx
        refine ⟨hs, hz, hmx, ?_⟩
        have : x = k * 4503599627370496 + m := hw
        omega
      · left
        refine ⟨hs, hz, ?_, ?_⟩
        · show double.order _ _ = _
          unfold Format.order
          rw [hr, max_read, order_num, cmp_lt]
          simp only [vl, if_true, Bool.false_eq_true, if_false]
          have hV : 0 < m * 2 ^ k := Nat.mul_pos (by omega) (Nat.two_pow_pos k)
          have hM : 0 < 9007199254740991 * 2 ^ eM := Nat.mul_pos (by omega) (Nat.two_pow_pos _)
          omega
        · have : x = double.signWeight + (k * 4503599627370496 + m) := hw
          rw [c_sw] at this
          omega
end Flt
theorem one_not_nan : ¬ FloatKind.f64.format.order 1 1 = none := by decide
set_option maxHeartbeats 1000000 in
theorem above_zero (x : Nat) (hx : x = 0 ∨ x = 9223372036854775808) (w : World) :
    (Calls Try.prog 12 #[.float .f64 x] w fun e w' => e = .returned (.float .f64 1) ∧ Grown w w') ∧
    (Calls Try.prog 13 #[.float .f64 x] w fun e w' => e = .returned (.float .f64 1) ∧ w' = w) := by
  have h1 : FloatKind.f64.format.order x x = some .eq := by rcases hx with rfl | rfl <;> decide
  have h2 : FloatKind.f64.format.order x 0 = some .eq := by rcases hx with rfl | rfl <;> decide
  have h3 : FloatKind.f64.format.order x 9218868437227405311 = some .lt := by rcases hx with rfl | rfl <;> decide
  clear hx
  refine ⟨?_, ?_⟩
  · go_enter Try.func12, Try.ntmps12
    go_wp2_with fail
    refine (spec_from 1 _).mono ?_
    rintro e w1 ⟨y, rfl, hg, hy⟩
    have hy1 : y = 1 := by
      rcases hy with h | ⟨_, h⟩
      · rw [h]; decide
      · exact absurd h (by decide)
    subst hy1
    clear hy
    go_wp2_with fail
    go_ret
    exact ⟨rfl, hg⟩
  · have hx := from_ext 1
    go_enter Try.func13, Try.ntmps13
    go_wp2
    go_ret
    exact ⟨rfl, rfl⟩
set_option maxHeartbeats 1000000 in
theorem above_same (x : Nat) (hx : FloatKind.f64.format.order x x = none ∨ x = 9218868437227405312) (w : World) :
    (Calls Try.prog 12 #[.float .f64 x] w fun e w' => e = .returned (.float .f64 x) ∧ w' = w) ∧
    (Calls Try.prog 13 #[.float .f64 x] w fun e w' => e = .returned (.float .f64 x) ∧ w' = w) := by
  rcases hx with h | rfl
  · refine ⟨?_, ?_⟩
    · go_enter Try.func12, Try.ntmps12
      go_wp2
      go_ret
      exact ⟨rfl, rfl⟩
    · go_enter Try.func13, Try.ntmps13
      go_wp2
      go_ret
      exact ⟨rfl, rfl⟩
  · have h1 : FloatKind.f64.format.order 9218868437227405312 9218868437227405312 = some .eq := by decide
    have h3 : FloatKind.f64.format.order 9218868437227405312 9218868437227405311 = some .gt := by decide
    refine ⟨?_, ?_⟩
    · go_enter Try.func12, Try.ntmps12
      go_wp2
      go_ret
      exact ⟨rfl, rfl⟩
    · go_enter Try.func13, Try.ntmps13
      go_wp2
      go_ret
      exact ⟨rfl, rfl⟩
set_option maxHeartbeats 1000000 in
theorem above_neg (x : Nat) (hx : x < 18446744073709551616) (h1 : FloatKind.f64.format.order x x = some .eq) (h2 : FloatKind.f64.format.order x 0 = some .lt) (h3 : FloatKind.f64.format.order x 9218868437227405311 = some .lt) (h4 : 9223372036854775808 < x) (w : World) :
    (Calls Try.prog 12 #[.float .f64 x] w fun e w' => ∃ y, e = .returned (.float .f64 y) ∧ Grown w w' ∧ (y = x - 1 ∨ (FloatKind.f64.format.order y y = none ∧ FloatKind.f64.format.order (x - 1) (x - 1) = none))) ∧
    (Calls Try.prog 13 #[.float .f64 x] w fun e w' => e = .returned (.float .f64 (x - 1)) ∧ w' = w) := by
  refine ⟨?_, ?_⟩
  · go_enter Try.func12, Try.ntmps12
    go_wp2_with fail
    refine (spec_bits x hx h1 _).mono ?_
    rintro e w1 ⟨rfl, rfl⟩
    go_wp2_with fail
    refine (spec_from _ _).mono ?_
    rintro e w2 ⟨y, rfl, hg, hy⟩
    go_wp2_with fail
    go_ret
    refine ⟨_, rfl, hg, ?_⟩
    have e : (IntKind.u64.wrap (wrap64 (wrap64 (x : Int) - 1))).toNat = x - 1 := by rw [IntKind.wrap_u64]; unfold wrap64; omega
    rw [e] at hy
    exact hy
  · have hb := bits_ext x
    have hf : ∀ w, (callFunc 23 #[.int .u64 ((x : Int) - 1)]).run Try.prog w = .ok (.value (.float .f64 (x - 1))) w := fun w => by
      have := from_ext ((x : Int) - 1) w
      have e : ((x : Int) - 1).toNat = x - 1 := by omega
      rw [e] at this
      exact this
    go_enter Try.func13, Try.ntmps13
    go_wp2
    go_ret
    exact ⟨rfl, rfl⟩
set_option maxHeartbeats 1000000 in
theorem above_pos (x : Nat) (h1 : FloatKind.f64.format.order x x = some .eq) (h2 : FloatKind.f64.format.order x 0 = some .gt) (h3 : FloatKind.f64.format.order x 9218868437227405311 = some .lt ∨ FloatKind.f64.format.order x 9218868437227405311 = some .eq) (h4 : x < 9218868437227405312) (w : World) :
    (Calls Try.prog 12 #[.float .f64 x] w fun e w' => ∃ y, e = .returned (.float .f64 y) ∧ Grown w w' ∧ (y = x + 1 ∨ (FloatKind.f64.format.order y y = none ∧ FloatKind.f64.format.order (x + 1) (x + 1) = none))) ∧
    (Calls Try.prog 13 #[.float .f64 x] w fun e w' => e = .returned (.float .f64 (x + 1)) ∧ w' = w) := by
  rcases h3 with h3 | h3 <;> refine ⟨?_, ?_⟩
  · go_enter Try.func12, Try.ntmps12
    go_wp2_with fail
    refine (spec_bits x (by omega) h1 _).mono ?_
    rintro e w1 ⟨rfl, rfl⟩
    go_wp2_with fail
    refine (spec_from _ _).mono ?_
    rintro e w2 ⟨y, rfl, hg, hy⟩
    go_wp2_with fail
    go_ret
    refine ⟨_, rfl, hg, ?_⟩
    have e : (IntKind.u64.wrap (wrap64 (wrap64 (x : Int) + 1))).toNat = x + 1 := by rw [IntKind.wrap_u64]; unfold wrap64; omega
    rw [e] at hy
    exact hy
  · have hb := bits_ext x
    have hf : ∀ w, (callFunc 23 #[.int .u64 ((x : Int) + 1)]).run Try.prog w = .ok (.value (.float .f64 (x + 1))) w := fun w => by
      have := from_ext ((x : Int) + 1) w
      have e : ((x : Int) + 1).toNat = x + 1 := by omega
      rw [e] at this
      exact this
    go_enter Try.func13, Try.ntmps13
    go_wp2
    go_ret
    exact ⟨rfl, rfl⟩
  · go_enter Try.func12, Try.ntmps12
    go_wp2_with fail
    refine (spec_bits x (by omega) h1 _).mono ?_
    rintro e w1 ⟨rfl, rfl⟩
    go_wp2_with fail
    refine (spec_from _ _).mono ?_
    rintro e w2 ⟨y, rfl, hg, hy⟩
    go_wp2_with fail
    go_ret
    refine ⟨_, rfl, hg, ?_⟩
    have e : (IntKind.u64.wrap (wrap64 (wrap64 (x : Int) + 1))).toNat = x + 1 := by rw [IntKind.wrap_u64]; unfold wrap64; omega
    rw [e] at hy
    exact hy
  · have hb := bits_ext x
    have hf : ∀ w, (callFunc 23 #[.int .u64 ((x : Int) + 1)]).run Try.prog w = .ok (.value (.float .f64 (x + 1))) w := fun w => by
      have := from_ext ((x : Int) + 1) w
      have e : ((x : Int) + 1).toNat = x + 1 := by omega
      rw [e] at this
      exact this
    go_enter Try.func13, Try.ntmps13
    go_wp2
    go_ret
    exact ⟨rfl, rfl⟩
end Go.Proofs.Ytabffkfoafcmpab
