import Derived.Test.YtladepgpandklaaGreatDoorMVce
namespace Go.Proofs.YtladepgpandklaaGreatDoor
open Go.ChangeShapes Go.WideShapes Go.ChangeAt Go.RowKit
set_option linter.unusedVariables false
set_option maxRecDepth 100000
attribute [local go_sem] unary_negf'
theorem quo_run' {x r : Nat} (h : floatBits .quo .f64 4607182418800017408 x = some r) (w : World) : (binOp .quo 22 (.float .f64 4607182418800017408) (.float .f64 x)).run Tryz.prog w = .ok (.float .f64 r) w :=
  run_float_arith w .quo 22 .f64 _ _ _ h
theorem sp_ft_nan (x : Nat) (hn : FloatKind.f64.format.order x x = none) (w : World) : Calls Tryz.prog 37 #[.float .f64 x] w fun e w' => e = .returned (.string ⟨#[110, 97, 110]⟩) ∧ Grown w w' := by
  have hself := hn
  have hnn := fun w => sp_nn_t _ hself w
  go_enter Tryz.func37, Tryz.ntmps37
  go_wp2_with (go_at_call 39; refine (hnn _).mono ?_; rintro e w ⟨rfl, rfl⟩)
  go_ret
  exact ⟨rfl, by go_grown⟩
theorem sp_ft_z (w : World) : Calls Tryz.prog 37 #[.float .f64 0] w fun e w' => e = .returned (.string ⟨#[48, 112, 48]⟩) ∧ Grown w w' := by
  have hself : FloatKind.f64.format.order 0 0 = some .eq := by decide
  have h1 : FloatKind.f64.format.order 0 0 = some .eq := by decide
  have h2 := quo_run' (x := 0) (r := 9218868437227405312) (by decide)
  have h3 : FloatKind.f64.format.order 9218868437227405312 0 = some .gt := by decide
  have hnn := fun w => sp_nn_f _ hself w
  go_enter Tryz.func37, Tryz.ntmps37
  go_wp2_with (go_at_call 39; refine (hnn _).mono ?_; rintro e w ⟨rfl, rfl⟩)
  go_ret
  exact ⟨rfl, by go_grown⟩
theorem sp_ft_nz (w : World) : Calls Tryz.prog 37 #[.float .f64 9223372036854775808] w fun e w' => e = .returned (.string ⟨#[45, 48, 112, 48]⟩) ∧ Grown w w' := by
  have hself : FloatKind.f64.format.order 9223372036854775808 9223372036854775808 = some .eq := by decide
  have h1 : FloatKind.f64.format.order 9223372036854775808 0 = some .eq := by decide
  have h2 := quo_run' (x := 9223372036854775808) (r := 18442240474082181120) (by decide)
  have h3 : FloatKind.f64.format.order 18442240474082181120 0 = some .lt := by decide
  have h4 : Op.negFloat .f64 9223372036854775808 = 0 := by decide
  have h5 : FloatKind.f64.format.order 0 0 = some .eq := by decide
  have hnn := fun w => sp_nn_f _ hself w
  go_enter Tryz.func37, Tryz.ntmps37
  go_wp2_with (go_at_call 39; refine (hnn _).mono ?_; rintro e w ⟨rfl, rfl⟩)
  go_ret
  exact ⟨rfl, by go_grown⟩
theorem sp_ft_i (w : World) : Calls Tryz.prog 37 #[.float .f64 9218868437227405312] w fun e w' => e = .returned (.string ⟨#[105, 110, 102]⟩) ∧ Grown w w' := by
  have hself : FloatKind.f64.format.order 9218868437227405312 9218868437227405312 = some .eq := by decide
  have h1 : FloatKind.f64.format.order 9218868437227405312 0 = some .gt := by decide
  have h2 := fun w => mul_run (x := 9218868437227405312) (y := 4602678819172646912) (r := 9218868437227405312) (by decide) w
  have hnn := fun w => sp_nn_f _ hself w
  go_enter Tryz.func37, Tryz.ntmps37
  go_wp2_with (go_at_call 39; refine (hnn _).mono ?_; rintro e w ⟨rfl, rfl⟩)
  go_ret
  exact ⟨rfl, by go_grown⟩
theorem sp_ft_ni (w : World) : Calls Tryz.prog 37 #[.float .f64 18442240474082181120] w fun e w' => e = .returned (.string ⟨#[45, 105, 110, 102]⟩) ∧ Grown w w' := by
  have hself : FloatKind.f64.format.order 18442240474082181120 18442240474082181120 = some .eq := by decide
  have h1 : FloatKind.f64.format.order 18442240474082181120 0 = some .lt := by decide
  have h4 : Op.negFloat .f64 18442240474082181120 = 9218868437227405312 := by decide
  have h5 : FloatKind.f64.format.order 9218868437227405312 0 = some .gt := by decide
  have h6 : FloatKind.f64.format.order 9218868437227405312 9218868437227405312 = some .eq := by decide
  have h2 := fun w => mul_run (x := 9218868437227405312) (y := 4602678819172646912) (r := 9218868437227405312) (by decide) w
  have hnn := fun w => sp_nn_f _ hself w
  go_enter Tryz.func37, Tryz.ntmps37
  go_wp2_with (go_at_call 39; refine (hnn _).mono ?_; rintro e w ⟨rfl, rfl⟩)
  go_ret
  exact ⟨rfl, by go_grown⟩
set_option maxHeartbeats 1000000 in
theorem im_ft_word (x : Nat) (a : Int) (b : Bool) (T : ByteArray) (ha : a = 2 ∨ a = 3) (HP : ∀ w, Calls Tryz.prog 71 #[.float .f64 x] w fun e w' => e = .returned (.agg #[.int .i64 a, .bool b, .int .i64 0, .int .i64 0]) ∧ Grown w w')
    (HW : ∀ w, Calls Tryz.prog 72 #[.agg #[.int .i64 a, .bool b, .int .i64 0, .int .i64 0]] w fun e w' => e = .returned (.string T) ∧ Grown w w') (w : World) : Calls Tryz.prog 58 #[.float .f64 x] w fun e w' => e = .returned (.string T) ∧ Kq w w' := by
  rcases ha with rfl | rfl
  all_goals
    go_enter Tryz.func58, Tryz.ntmps58
    go_wp2_with fail
    refine (HP _).mono ?_
    rintro e w1 ⟨rfl, g1⟩
    have G1 : Hid (Grown w w1) := g1
    clear g1 HP
    go_wp2_with fail
    refine (HW _).mono ?_
    rintro e w2 ⟨rfl, g2⟩
    have G2 : Hid (Grown w w2) := Grown.trans (Grown.alloc G1 _ _) g2
    clear g2 HW G1
    go_wp2_with fail
    go_ret
    exact ⟨rfl, .of_grown G2⟩
/-- a float's text, on both sides -/
theorem ft_both (x : Nat) (hx : x < 18446744073709551616) : ∃ T : ByteArray, T.size ≤ 60 ∧ (∀ w, Calls Tryz.prog 37 #[.float .f64 x] w fun e w' => e = .returned (.string T) ∧ Grown w w') ∧ (∀ w, Tb w → Calls Tryz.prog 58 #[.float .f64 x] w fun e w' => e = .returned (.string T) ∧ Kq w w') := by
  rcases Flt.read_cases x hx with ⟨s, t, hr⟩ | ⟨s, hr, hw⟩ | ⟨s, m, k, hc, hr, hw⟩
  · have hn : FloatKind.f64.format.order x x = none := Flt.order_nan ⟨s, t, hr⟩
    exact ⟨_, by decide, fun w => sp_ft_nan x hn w, fun w _ => im_ft_word x 3 false _ (.inr rfl) (fun w => impl_nan x hn w) (fun w => im_word_nan false 0 0 w) w⟩
  · subst hw
    cases s
    · exact ⟨⟨#[105, 110, 102]⟩, by decide, fun w => sp_ft_i w, fun w _ => im_ft_word _ 2 false _ (.inl rfl) (fun w => im_parts_inf false w) (fun w => im_word_inf false 0 0 w) w⟩
    · exact ⟨⟨#[45, 105, 110, 102]⟩, by decide, fun w => sp_ft_ni w, fun w _ => im_ft_word _ 2 true _ (.inl rfl) (fun w => im_parts_inf true w) (fun w => im_word_inf true 0 0 w) w⟩
  · by_cases hm : m = 0
    · subst hm
      have hk : k = 0 := by have := hc.low; omega
      subst hk
      subst hw
      have e0 : itx 0 = ⟨#[48]⟩ := by unfold itx Lib.itoa; rw [if_neg (by omega), Lib.decDigits]; rfl
      cases s
      · refine ⟨⟨#[48, 112, 48]⟩, by decide, fun w => sp_ft_z w, fun w hT => ?_⟩
        have := im_ft_gen _ 0 false 0 0 (.inl rfl) (by omega) (by omega) (fun w _ => im_parts_zero false w) w hT
        rw [e0] at this
        exact this
      · refine ⟨⟨#[45, 48, 112, 48]⟩, by decide, fun w => sp_ft_nz w, fun w hT => ?_⟩
        have := im_ft_gen _ 0 true 0 0 (.inl rfl) (by omega) (by omega) (fun w _ => im_parts_zero true w) w hT
        rw [e0] at this
        exact this
    · obtain ⟨o, t, hmo, ho, ht, ho2, hp⟩ := im_parts s m k hc hm
      have hk := hc.le
      subst hw
      refine ⟨ftx s o ((k : Int) + t - 1074), ?_, fun w => ?_, fun w hT => im_ft_gen _ 1 s o _ (.inr rfl) (by omega) (by omega) hp w hT⟩
      · have l1 := itx_len (o : Int) (by omega) (by omega)
        have l2 := itx_len ((k : Int) + t - 1074) (by omega) (by omega)
        have l0 : (sgb s).size ≤ 1 := by cases s <;> decide
        unfold ftx
        simp only [ByteArray.size_append]
        have : (⟨#[112]⟩ : ByteArray).size = 1 := rfl
        omega
      · cases s
        · exact sp_ft_false m k o t hc hm hmo ho ht w
        · exact sp_ft_true m k o t hc hm hmo ho ht w
end Go.Proofs.YtladepgpandklaaGreatDoor
