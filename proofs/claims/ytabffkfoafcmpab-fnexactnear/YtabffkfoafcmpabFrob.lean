import Derived.Test.YtabffkfoafcmpabFrom
namespace Go.Proofs.Ytabffkfoafcmpab
open Go.ChangeShapes Go.WideShapes Go.ChangeAt Go.RowKit
set_option linter.unusedVariables false
theorem or52b (M : Nat) (h : M < 4503599627370496) : bits .or .u64 (M : Int) 4503599627370496 = ((M + 4503599627370496 : Nat) : Int) := by
  have e := Go.u64_or_nat M 4503599627370496 (by omega) (by omega)
  have e2 : ((4503599627370496 : Nat) : Int) = 4503599627370496 := rfl
  rw [e2] at e
  have h2 := Nat.two_pow_add_eq_or_of_lt (i := 52) (b := M) (by omega) 1
  have e3 : (2 ^ 52 * 1 : Nat) = 4503599627370496 := by decide
  rw [e3] at h2
  rw [e, Nat.or_comm, ← h2, Nat.add_comm]
set_option maxHeartbeats 1000000 in
theorem spec_from_num (n : Int) (s : Bool) (E M : Nat) (h1 : E ≤ 2046) (h2 : M < 4503599627370496) (h3 : (IntKind.u64.wrap n / 9223372036854775808 == 1) = s)
    (h4 : bits .and .u64 (IntKind.u64.wrap n / 4503599627370496) 2047 = (E : Int)) (h5 : bits .and .u64 (IntKind.u64.wrap n) 4503599627370495 = (M : Int)) (w : World) :
    Calls Try.prog 9 #[.int .i64 n] w fun e w' => e = .returned (.float .f64 (Ieee.double.word s (E * 4503599627370496 + M))) ∧ w' = w := by
  by_cases h0 : E = 0
  · subst h0
    have hf : Flt.F M (-1074 + 1074 : Int).toNat = 0 * 4503599627370496 + M := by
      have : (-1074 + 1074 : Int).toNat = 0 := by decide
      rw [this, Flt.F_word ⟨by omega, Or.inr rfl, by omega⟩]
      rfl
    go_enter Try.func9, Try.ntmps9
    go_wp2_with fail
    refine (scaled M (-1074) (by omega) (by omega) (by omega) _).mono ?_
    rintro e w' ⟨rfl, rfl⟩
    rw [hf]
    go_wp2_with fail
    refine (signed_run s _ (by omega) _).mono ?_
    rintro e w' ⟨rfl, rfl⟩
    go_wp2_with fail
    go_ret
    refine ⟨?_, rfl⟩
    rw [Nat.zero_mul, Nat.zero_add]
    rfl
  · have ho := or52b M h2
    have hE : 1 ≤ E := by omega
    have hf : Flt.F (M + 4503599627370496) ((E : Int) - 1075 + 1074).toNat = E * 4503599627370496 + M := by
      have : ((E : Int) - 1075 + 1074).toNat = E - 1 := by omega
      rw [this, Flt.F_word ⟨by omega, Or.inl (by omega), by omega⟩]
      show (E - 1) * 4503599627370496 + (M + 4503599627370496) = _
      omega
    have HF := hf
    clear hf
    go_enter Try.func9, Try.ntmps9
    go_wp2_with fail
    refine (scaled (M + 4503599627370496) ((E : Int) - 1075) (by omega) (by omega) (by omega) _).mono ?_
    rintro e w' ⟨rfl, rfl⟩
    rw [HF]
    clear HF
    go_wp2_with fail
    refine (signed_run s _ (by omega) _).mono ?_
    rintro e w' ⟨rfl, rfl⟩
    go_wp2_with fail
    go_ret
    exact ⟨rfl, rfl⟩
set_option maxHeartbeats 1000000 in
theorem spec_from_inf (n : Int) (s : Bool) (h3 : (IntKind.u64.wrap n / 9223372036854775808 == 1) = s)
    (h4 : bits .and .u64 (IntKind.u64.wrap n / 4503599627370496) 2047 = 2047) (h5 : bits .and .u64 (IntKind.u64.wrap n) 4503599627370495 = 0) (w : World) :
    Calls Try.prog 9 #[.int .i64 n] w fun e w' => e = .returned (.float .f64 (Ieee.double.word s 9218868437227405312)) ∧ w' = w := by
  go_enter Try.func9, Try.ntmps9
  go_wp2_with fail
  refine (inf_run _).mono ?_
  rintro e w' ⟨rfl, rfl⟩
  go_wp2_with fail
  refine (signed_run s _ (by omega) _).mono ?_
  rintro e w' ⟨rfl, rfl⟩
  go_wp2_with fail
  go_ret
  exact ⟨rfl, rfl⟩
set_option maxHeartbeats 1000000 in
theorem spec_from_nan (n : Int) (M : Nat) (h0 : (((M : Nat) : Int) != 0) = true)
    (h4 : bits .and .u64 (IntKind.u64.wrap n / 4503599627370496) 2047 = 2047) (h5 : bits .and .u64 (IntKind.u64.wrap n) 4503599627370495 = (M : Int)) (w : World) :
    Calls Try.prog 9 #[.int .i64 n] w fun e w' => ∃ y, e = .returned (.float .f64 y) ∧ FloatKind.f64.format.order y y = none ∧ Grown w w' := by
  go_enter Try.func9, Try.ntmps9
  go_wp2_with fail
  refine (nan_run _).mono ?_
  rintro e w' ⟨y, rfl, hy, hg⟩
  go_wp2_with fail
  go_ret
  exact ⟨_, rfl, hy, hg⟩
theorem spec_from (n : Int) (w : World) :
    Calls Try.prog 9 #[.int .i64 n] w fun e w' => ∃ y, e = .returned (.float .f64 y) ∧ Grown w w' ∧
      (y = (IntKind.u64.wrap n).toNat ∨ (FloatKind.f64.format.order y y = none ∧ FloatKind.f64.format.order (IntKind.u64.wrap n).toNat (IntKind.u64.wrap n).toNat = none)) := by
  obtain ⟨s, E, M, h1, h2, h3, h4, h5, h6⟩ := parts n
  by_cases hE : E ≤ 2046
  · refine (spec_from_num n s E M hE h2 h4 h5 h6 w).mono ?_
    rintro e w' ⟨rfl, rfl⟩
    exact ⟨_, rfl, Grown.refl _, Or.inl h3.symm⟩
  · have : E = 2047 := by omega
    subst this
    by_cases hM : M = 0
    · subst hM
      refine (spec_from_inf n s h4 h5 h6 w).mono ?_
      rintro e w' ⟨rfl, rfl⟩
      exact ⟨_, rfl, Grown.refl _, Or.inl h3.symm⟩
    · refine (spec_from_nan n M (by simpa using hM) h5 h6 w).mono ?_
      rintro e w' ⟨y, rfl, hy, hg⟩
      refine ⟨_, rfl, hg, Or.inr ⟨hy, ?_⟩⟩
      rw [h3, Flt.f64_double]
      exact Flt.order_nan (Flt.nan_word s M hM h2)
theorem impl_from (n : Int) (w : World) :
    Calls Try.prog 10 #[.int .i64 n] w fun e w' => e = .returned (.float .f64 (IntKind.u64.wrap n).toNat) ∧ w' = w := by
  have hx := from_ext (IntKind.u64.wrap n)
  go_enter Try.func10, Try.ntmps10
  go_wp2
  go_ret
  exact ⟨rfl, rfl⟩
theorem same_nan (x y : Nat) (w : World) (hx : FloatKind.f64.format.order x x = none) (hy : FloatKind.f64.format.order y y = none) :
    Calls Try.prog 11 #[.float .f64 x, .float .f64 y] w fun e w' => e = .returned (.bool true) ∧ w' = w := by
  go_enter Try.func11, Try.ntmps11
  go_wp2
  go_ret
  exact ⟨rfl, rfl⟩
set_option maxHeartbeats 1000000 in
theorem same_eq (x : Nat) (hx : x < 18446744073709551616) (w : World) :
    Calls Try.prog 11 #[.float .f64 x, .float .f64 x] w fun e w' => e = .returned (.bool true) ∧ w' = w := by
  rcases Flt.zero_cases x hx with h | ⟨h, h0, hz⟩ | ⟨h, h0⟩
  · exact same_nan x x w h h
  · rcases hz with rfl | rfl
    · have hq := quo_run (x := 0) (r := 9218868437227405312) (by decide)
      have hg : FloatKind.f64.format.order 9218868437227405312 0 = some .gt := by decide
      go_enter Try.func11, Try.ntmps11
      go_wp2
      go_ret
      exact ⟨rfl, rfl⟩
    · have hq := quo_run (x := 9223372036854775808) (r := 18442240474082181120) (by decide)
      have hg : FloatKind.f64.format.order 18442240474082181120 0 = some .lt := by decide
      go_enter Try.func11, Try.ntmps11
      go_wp2
      go_ret
      exact ⟨rfl, rfl⟩
  · rcases h0 with h0 | h0
    all_goals
      go_enter Try.func11, Try.ntmps11
      go_wp2
      go_ret
      exact ⟨rfl, rfl⟩
theorem wrap_toNat_lt (n : Int) : (IntKind.u64.wrap n).toNat < 18446744073709551616 := by
  have h0 : 0 ≤ IntKind.u64.wrap n ∧ IntKind.u64.wrap n < 18446744073709551616 := by rw [IntKind.wrap_u64]; omega
  omega
end Go.Proofs.Ytabffkfoafcmpab
