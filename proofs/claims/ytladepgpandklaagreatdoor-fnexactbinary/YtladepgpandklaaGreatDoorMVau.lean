import Derived.Test.YtladepgpandklaaGreatDoorMVah
import Derived.Test.YtladepgpandklaaGreatDoorMVak
namespace Go.Proofs.YtladepgpandklaaGreatDoor
open Go.ChangeShapes Go.WideShapes Go.ChangeAt Go.RowKit
set_option linter.unusedVariables false
set_option maxRecDepth 100000
/-- how two ints stand -/
def cmpi (a b : Int) : Int := if a < b then -1 else if b < a then 1 else 0
theorem cmpi_lt {a b : Int} (h : a < b) : cmpi a b = -1 := by unfold cmpi; rw [if_pos h]
theorem cmpi_gt {a b : Int} (h : b < a) : cmpi a b = 1 := by unfold cmpi; rw [if_neg (by omega), if_pos h]
theorem cmpi_eq {a b : Int} (h : a = b) : cmpi a b = 0 := by unfold cmpi; rw [if_neg (by omega), if_neg (by omega)]
set_option maxHeartbeats 1000000 in
theorem im_cmp (a b : Int) (w : World) : Calls Tryz.prog 60 #[.int .i64 a, .int .i64 b] w fun e w' => e = .returned (.int .i64 (cmpi a b)) ∧ w' = w := by
  have h1 : (a != a) = false := by simp
  have h2 : (b != b) = false := by simp
  rcases Int.lt_trichotomy a b with h | h | h
  · rw [cmpi_lt h]
    go_enter Tryz.func60, Tryz.ntmps60
    go_wp2_with go_in
    go_ret
    exact ⟨rfl, rfl⟩
  · rw [cmpi_eq h]
    subst h
    go_enter Tryz.func60, Tryz.ntmps60
    go_wp2_with go_in
    go_ret
    exact ⟨rfl, rfl⟩
  · rw [cmpi_gt h]
    have h3 : ¬ a < b := by omega
    go_enter Tryz.func60, Tryz.ntmps60
    go_wp2_with go_in
    go_ret
    exact ⟨rfl, rfl⟩
theorem im_oi_nan (a0 : Int) (a1 : Nat) (hn : FloatKind.f64.format.order a1 a1 = none) (w : World) : Calls Tryz.prog 61 #[.int .i64 a0, .float .f64 a1] w fun e w' => e = .returned (.int .i64 2) ∧ Grown w w' := by
  go_enter Tryz.func61, Tryz.ntmps61
  go_wp2_with go_in
  go_ret
  exact ⟨rfl, by go_grown⟩
set_option maxHeartbeats 2000000 in
theorem oi_both (a0 : Int) (a1 : Nat) (hx : a1 < 18446744073709551616) (hn0 : FloatKind.f64.format.order a1 a1 = some .eq) : ∃ z : Int, (z = -1 ∨ z = 0 ∨ z = 1) ∧ (∀ w, Calls Tryz.prog 40 #[.int .i64 a0, .float .f64 a1] w fun e w' => e = .returned (.int .i64 z) ∧ Grown w w') ∧ (∀ w, Calls Tryz.prog 61 #[.int .i64 a0, .float .f64 a1] w fun e w' => e = .returned (.int .i64 z) ∧ Grown w w') := by
  rcases Flt.range_facts a1 hx with hn | ⟨hn, ⟨h1 | h1, h2⟩ | ⟨h1, h2⟩ | ⟨h1, h2, z, y, hz, hy⟩⟩
  · rw [hn0] at hn; cases hn
  · clear hn0
    refine ⟨-1, by omega, fun w => ?_, fun w => ?_⟩
    · go_enter Tryz.func40, Tryz.ntmps40
      go_wp2_with (first
      | (go_at_call 44; refine (spec_floor a1 hx _ hn).mono ?_; rintro e w' ⟨rfl, rfl⟩)
      | go_in)
      go_ret
      exact ⟨rfl, by go_grown⟩
    · go_enter Tryz.func61, Tryz.ntmps61
      go_wp2_with (first
      | (go_at_call 67; refine (math_floor a1 _ hn).mono ?_; rintro e w' ⟨rfl, rfl⟩)
      | (go_at_call 60; refine (im_cmp _ _ _).mono ?_; rintro e w' ⟨rfl, rfl⟩; try rw [hcm])
      | go_in)
      go_ret
      exact ⟨rfl, by go_grown⟩
  · clear hn0
    refine ⟨-1, by omega, fun w => ?_, fun w => ?_⟩
    · go_enter Tryz.func40, Tryz.ntmps40
      go_wp2_with (first
      | (go_at_call 44; refine (spec_floor a1 hx _ hn).mono ?_; rintro e w' ⟨rfl, rfl⟩)
      | go_in)
      go_ret
      exact ⟨rfl, by go_grown⟩
    · go_enter Tryz.func61, Tryz.ntmps61
      go_wp2_with (first
      | (go_at_call 67; refine (math_floor a1 _ hn).mono ?_; rintro e w' ⟨rfl, rfl⟩)
      | (go_at_call 60; refine (im_cmp _ _ _).mono ?_; rintro e w' ⟨rfl, rfl⟩; try rw [hcm])
      | go_in)
      go_ret
      exact ⟨rfl, by go_grown⟩
  · clear hn0
    refine ⟨1, by omega, fun w => ?_, fun w => ?_⟩
    · go_enter Tryz.func40, Tryz.ntmps40
      go_wp2_with (first
      | (go_at_call 44; refine (spec_floor a1 hx _ hn).mono ?_; rintro e w' ⟨rfl, rfl⟩)
      | go_in)
      go_ret
      exact ⟨rfl, by go_grown⟩
    · go_enter Tryz.func61, Tryz.ntmps61
      go_wp2_with (first
      | (go_at_call 67; refine (math_floor a1 _ hn).mono ?_; rintro e w' ⟨rfl, rfl⟩)
      | (go_at_call 60; refine (im_cmp _ _ _).mono ?_; rintro e w' ⟨rfl, rfl⟩; try rw [hcm])
      | go_in)
      go_ret
      exact ⟨rfl, by go_grown⟩
  · have hc := conv_run hy
    clear hz hy hn0
    cases hb : (FloatKind.f64.format.order a1 (Flt.floorW a1) == some .gt) <;> rcases h2 with h2 | h2 <;> rcases Int.lt_trichotomy a0 y with q | q | q
    · have hcm := cmpi_lt q
      refine ⟨-1, by omega, fun w => ?_, fun w => ?_⟩
      · go_enter Tryz.func40, Tryz.ntmps40
        go_wp2_with (first
        | (go_at_call 44; refine (spec_floor a1 hx _ hn).mono ?_; rintro e w' ⟨rfl, rfl⟩)
        | go_in)
        go_ret
        exact ⟨rfl, by go_grown⟩
      · go_enter Tryz.func61, Tryz.ntmps61
        go_wp2_with (first
        | (go_at_call 67; refine (math_floor a1 _ hn).mono ?_; rintro e w' ⟨rfl, rfl⟩)
        | (go_at_call 60; refine (im_cmp _ _ _).mono ?_; rintro e w' ⟨rfl, rfl⟩; try rw [hcm])
        | go_in)
        go_ret
        exact ⟨rfl, by go_grown⟩
    · have hcm := cmpi_eq q
      subst q
      refine ⟨0, by omega, fun w => ?_, fun w => ?_⟩
      · go_enter Tryz.func40, Tryz.ntmps40
        go_wp2_with (first
        | (go_at_call 44; refine (spec_floor a1 hx _ hn).mono ?_; rintro e w' ⟨rfl, rfl⟩)
        | go_in)
        go_ret
        exact ⟨rfl, by go_grown⟩
      · go_enter Tryz.func61, Tryz.ntmps61
        go_wp2_with (first
        | (go_at_call 67; refine (math_floor a1 _ hn).mono ?_; rintro e w' ⟨rfl, rfl⟩)
        | (go_at_call 60; refine (im_cmp _ _ _).mono ?_; rintro e w' ⟨rfl, rfl⟩; try rw [hcm])
        | go_in)
        go_ret
        exact ⟨rfl, by go_grown⟩
    · have hcm := cmpi_gt q
      have q2 : ¬ a0 < y := by omega
      refine ⟨1, by omega, fun w => ?_, fun w => ?_⟩
      · go_enter Tryz.func40, Tryz.ntmps40
        go_wp2_with (first
        | (go_at_call 44; refine (spec_floor a1 hx _ hn).mono ?_; rintro e w' ⟨rfl, rfl⟩)
        | go_in)
        go_ret
        exact ⟨rfl, by go_grown⟩
      · go_enter Tryz.func61, Tryz.ntmps61
        go_wp2_with (first
        | (go_at_call 67; refine (math_floor a1 _ hn).mono ?_; rintro e w' ⟨rfl, rfl⟩)
        | (go_at_call 60; refine (im_cmp _ _ _).mono ?_; rintro e w' ⟨rfl, rfl⟩; try rw [hcm])
        | go_in)
        go_ret
        exact ⟨rfl, by go_grown⟩
    · have hcm := cmpi_lt q
      refine ⟨-1, by omega, fun w => ?_, fun w => ?_⟩
      · go_enter Tryz.func40, Tryz.ntmps40
        go_wp2_with (first
        | (go_at_call 44; refine (spec_floor a1 hx _ hn).mono ?_; rintro e w' ⟨rfl, rfl⟩)
        | go_in)
        go_ret
        exact ⟨rfl, by go_grown⟩
      · go_enter Tryz.func61, Tryz.ntmps61
        go_wp2_with (first
        | (go_at_call 67; refine (math_floor a1 _ hn).mono ?_; rintro e w' ⟨rfl, rfl⟩)
        | (go_at_call 60; refine (im_cmp _ _ _).mono ?_; rintro e w' ⟨rfl, rfl⟩; try rw [hcm])
        | go_in)
        go_ret
        exact ⟨rfl, by go_grown⟩
    · have hcm := cmpi_eq q
      subst q
      refine ⟨0, by omega, fun w => ?_, fun w => ?_⟩
      · go_enter Tryz.func40, Tryz.ntmps40
        go_wp2_with (first
        | (go_at_call 44; refine (spec_floor a1 hx _ hn).mono ?_; rintro e w' ⟨rfl, rfl⟩)
        | go_in)
        go_ret
        exact ⟨rfl, by go_grown⟩
      · go_enter Tryz.func61, Tryz.ntmps61
        go_wp2_with (first
        | (go_at_call 67; refine (math_floor a1 _ hn).mono ?_; rintro e w' ⟨rfl, rfl⟩)
        | (go_at_call 60; refine (im_cmp _ _ _).mono ?_; rintro e w' ⟨rfl, rfl⟩; try rw [hcm])
        | go_in)
        go_ret
        exact ⟨rfl, by go_grown⟩
    · have hcm := cmpi_gt q
      have q2 : ¬ a0 < y := by omega
      refine ⟨1, by omega, fun w => ?_, fun w => ?_⟩
      · go_enter Tryz.func40, Tryz.ntmps40
        go_wp2_with (first
        | (go_at_call 44; refine (spec_floor a1 hx _ hn).mono ?_; rintro e w' ⟨rfl, rfl⟩)
        | go_in)
        go_ret
        exact ⟨rfl, by go_grown⟩
      · go_enter Tryz.func61, Tryz.ntmps61
        go_wp2_with (first
        | (go_at_call 67; refine (math_floor a1 _ hn).mono ?_; rintro e w' ⟨rfl, rfl⟩)
        | (go_at_call 60; refine (im_cmp _ _ _).mono ?_; rintro e w' ⟨rfl, rfl⟩; try rw [hcm])
        | go_in)
        go_ret
        exact ⟨rfl, by go_grown⟩
    · have hcm := cmpi_lt q
      refine ⟨-1, by omega, fun w => ?_, fun w => ?_⟩
      · go_enter Tryz.func40, Tryz.ntmps40
        go_wp2_with (first
        | (go_at_call 44; refine (spec_floor a1 hx _ hn).mono ?_; rintro e w' ⟨rfl, rfl⟩)
        | go_in)
        go_ret
        exact ⟨rfl, by go_grown⟩
      · go_enter Tryz.func61, Tryz.ntmps61
        go_wp2_with (first
        | (go_at_call 67; refine (math_floor a1 _ hn).mono ?_; rintro e w' ⟨rfl, rfl⟩)
        | (go_at_call 60; refine (im_cmp _ _ _).mono ?_; rintro e w' ⟨rfl, rfl⟩; try rw [hcm])
        | go_in)
        go_ret
        exact ⟨rfl, by go_grown⟩
    · have hcm := cmpi_eq q
      subst q
      refine ⟨-1, by omega, fun w => ?_, fun w => ?_⟩
      · go_enter Tryz.func40, Tryz.ntmps40
        go_wp2_with (first
        | (go_at_call 44; refine (spec_floor a1 hx _ hn).mono ?_; rintro e w' ⟨rfl, rfl⟩)
        | go_in)
        go_ret
        exact ⟨rfl, by go_grown⟩
      · go_enter Tryz.func61, Tryz.ntmps61
        go_wp2_with (first
        | (go_at_call 67; refine (math_floor a1 _ hn).mono ?_; rintro e w' ⟨rfl, rfl⟩)
        | (go_at_call 60; refine (im_cmp _ _ _).mono ?_; rintro e w' ⟨rfl, rfl⟩; try rw [hcm])
        | go_in)
        go_ret
        exact ⟨rfl, by go_grown⟩
    · have hcm := cmpi_gt q
      have q2 : ¬ a0 < y := by omega
      refine ⟨1, by omega, fun w => ?_, fun w => ?_⟩
      · go_enter Tryz.func40, Tryz.ntmps40
        go_wp2_with (first
        | (go_at_call 44; refine (spec_floor a1 hx _ hn).mono ?_; rintro e w' ⟨rfl, rfl⟩)
        | go_in)
        go_ret
        exact ⟨rfl, by go_grown⟩
      · go_enter Tryz.func61, Tryz.ntmps61
        go_wp2_with (first
        | (go_at_call 67; refine (math_floor a1 _ hn).mono ?_; rintro e w' ⟨rfl, rfl⟩)
        | (go_at_call 60; refine (im_cmp _ _ _).mono ?_; rintro e w' ⟨rfl, rfl⟩; try rw [hcm])
        | go_in)
        go_ret
        exact ⟨rfl, by go_grown⟩
    · have hcm := cmpi_lt q
      refine ⟨-1, by omega, fun w => ?_, fun w => ?_⟩
      · go_enter Tryz.func40, Tryz.ntmps40
        go_wp2_with (first
        | (go_at_call 44; refine (spec_floor a1 hx _ hn).mono ?_; rintro e w' ⟨rfl, rfl⟩)
        | go_in)
        go_ret
        exact ⟨rfl, by go_grown⟩
      · go_enter Tryz.func61, Tryz.ntmps61
        go_wp2_with (first
        | (go_at_call 67; refine (math_floor a1 _ hn).mono ?_; rintro e w' ⟨rfl, rfl⟩)
        | (go_at_call 60; refine (im_cmp _ _ _).mono ?_; rintro e w' ⟨rfl, rfl⟩; try rw [hcm])
        | go_in)
        go_ret
        exact ⟨rfl, by go_grown⟩
    · have hcm := cmpi_eq q
      subst q
      refine ⟨-1, by omega, fun w => ?_, fun w => ?_⟩
      · go_enter Tryz.func40, Tryz.ntmps40
        go_wp2_with (first
        | (go_at_call 44; refine (spec_floor a1 hx _ hn).mono ?_; rintro e w' ⟨rfl, rfl⟩)
        | go_in)
        go_ret
        exact ⟨rfl, by go_grown⟩
      · go_enter Tryz.func61, Tryz.ntmps61
        go_wp2_with (first
        | (go_at_call 67; refine (math_floor a1 _ hn).mono ?_; rintro e w' ⟨rfl, rfl⟩)
        | (go_at_call 60; refine (im_cmp _ _ _).mono ?_; rintro e w' ⟨rfl, rfl⟩; try rw [hcm])
        | go_in)
        go_ret
        exact ⟨rfl, by go_grown⟩
    · have hcm := cmpi_gt q
      have q2 : ¬ a0 < y := by omega
      refine ⟨1, by omega, fun w => ?_, fun w => ?_⟩
      · go_enter Tryz.func40, Tryz.ntmps40
        go_wp2_with (first
        | (go_at_call 44; refine (spec_floor a1 hx _ hn).mono ?_; rintro e w' ⟨rfl, rfl⟩)
        | go_in)
        go_ret
        exact ⟨rfl, by go_grown⟩
      · go_enter Tryz.func61, Tryz.ntmps61
        go_wp2_with (first
        | (go_at_call 67; refine (math_floor a1 _ hn).mono ?_; rintro e w' ⟨rfl, rfl⟩)
        | (go_at_call 60; refine (im_cmp _ _ _).mono ?_; rintro e w' ⟨rfl, rfl⟩; try rw [hcm])
        | go_in)
        go_ret
        exact ⟨rfl, by go_grown⟩
theorem im_turn2 (w : World) : Calls Tryz.prog 62 #[.int .i64 2] w fun e w' => e = .returned (.int .i64 2) ∧ w' = w := by
  go_enter Tryz.func62, Tryz.ntmps62
  go_wp2_with fail
  go_ret
  exact ⟨rfl, rfl⟩
theorem im_turn (z : Int) (hz : z = -1 ∨ z = 0 ∨ z = 1) (w : World) : Calls Tryz.prog 62 #[.int .i64 z] w fun e w' => e = .returned (.int .i64 (-z)) ∧ w' = w := by
  rcases hz with rfl | rfl | rfl
  all_goals
    go_enter Tryz.func62, Tryz.ntmps62
    go_wp2_with fail
    go_ret
    exact ⟨by first | rfl | (simp; done) | (simp [wrap64]; done), rfl⟩
/-- how two floats stand -/
def odf (x y : Nat) : Int := match FloatKind.f64.format.order x y with
  | some .lt => -1
  | some .gt => 1
  | some .eq => 0
  | none => 2
theorem im_order (x y : Nat) (w : World) : Calls Tryz.prog 63 #[.float .f64 x, .float .f64 y] w fun e w' => e = .returned (.int .i64 (odf x y)) ∧ w' = w := by
  unfold odf
  cases ho : FloatKind.f64.format.order x y with
  | none =>
    go_enter Tryz.func63, Tryz.ntmps63
    go_wp2_with fail
    go_ret
    exact ⟨rfl, rfl⟩
  | some c =>
    cases c
    all_goals
      go_enter Tryz.func63, Tryz.ntmps63
      go_wp2_with fail
      go_ret
      exact ⟨rfl, rfl⟩
theorem sp_nan_t (x : Nat) (hn : FloatKind.f64.format.order x x = none) (w : World) : Calls Tryz.prog 39 #[.float .f64 x] w fun e w' => e = .returned (.bool true) ∧ w' = w := by
  go_enter Tryz.func39, Tryz.ntmps39
  go_wp2_with fail
  go_ret
  exact ⟨rfl, rfl⟩
theorem sp_nan_f (x : Nat) (hn : FloatKind.f64.format.order x x = some .eq) (w : World) : Calls Tryz.prog 39 #[.float .f64 x] w fun e w' => e = .returned (.bool false) ∧ w' = w := by
  go_enter Tryz.func39, Tryz.ntmps39
  go_wp2_with fail
  go_ret
  exact ⟨rfl, rfl⟩
/-- ints and floats -/
def nmb (v : Vv) : Prop := v.k = 2 ∨ v.k = 3
theorem sp_num (v : Vv) (w : World) : Calls Tryz.prog 19 #[vv v] w fun e w' => e = .returned (.bool (dc (nmb v))) ∧ Grown w w' := by
  by_cases k2 : v.k = 2
  · rw [dc_t (show nmb v from .inl k2)]
    obtain ⟨k, m, g, x, r⟩ := v
    unfold vv
    dsimp only at k2 ⊢
    subst k2
    go_enter Tryz.func19, Tryz.ntmps19
    go_wp2_with fail
    go_ret
    exact ⟨rfl, by go_grown⟩
  by_cases k3 : v.k = 3
  · rw [dc_t (show nmb v from .inr k3)]
    obtain ⟨k, m, g, x, r⟩ := v
    unfold vv
    dsimp only at k2 k3 ⊢
    subst k3
    go_enter Tryz.func19, Tryz.ntmps19
    go_wp2_with fail
    go_ret
    exact ⟨rfl, by go_grown⟩
  · rw [dc_f (show ¬ nmb v from fun h => h.elim k2 k3)]
    obtain ⟨k, m, g, x, r⟩ := v
    unfold vv
    dsimp only at k2 k3 ⊢
    go_enter Tryz.func19, Tryz.ntmps19
    go_wp2_with fail
    go_ret
    exact ⟨by first | rfl | simp [*], by go_grown⟩
theorem im_num (v : Vv) (w : World) : Calls Tryz.prog 31 #[vv v] w fun e w' => e = .returned (.bool (dc (nmb v))) ∧ Grown w w' := by
  by_cases k2 : v.k = 2
  · rw [dc_t (show nmb v from .inl k2)]
    obtain ⟨k, m, g, x, r⟩ := v
    unfold vv
    dsimp only at k2 ⊢
    subst k2
    go_enter Tryz.func31, Tryz.ntmps31
    go_wp2_with fail
    go_ret
    exact ⟨rfl, by go_grown⟩
  by_cases k3 : v.k = 3
  · rw [dc_t (show nmb v from .inr k3)]
    obtain ⟨k, m, g, x, r⟩ := v
    unfold vv
    dsimp only at k2 k3 ⊢
    subst k3
    go_enter Tryz.func31, Tryz.ntmps31
    go_wp2_with fail
    go_ret
    exact ⟨rfl, by go_grown⟩
  · rw [dc_f (show ¬ nmb v from fun h => h.elim k2 k3)]
    obtain ⟨k, m, g, x, r⟩ := v
    unfold vv
    dsimp only at k2 k3 ⊢
    go_enter Tryz.func31, Tryz.ntmps31
    go_wp2_with fail
    go_ret
    exact ⟨by first | rfl | simp [*], by go_grown⟩
theorem im_ints (a b : Vv) (ha : nmb a) (hb : nmb b) (w : World) : Calls Tryz.prog 29 #[vv a, vv b] w fun e w' => e = .returned (.bool (dc (a.k = 2 ∧ b.k = 2))) ∧ Grown w w' := by
  obtain ⟨k, m, g, x, r⟩ := a
  obtain ⟨l, n, h, y, s⟩ := b
  unfold nmb at ha hb
  unfold vv
  dsimp only at ha hb ⊢
  rcases ha with rfl | rfl <;> rcases hb with rfl | rfl
  · rw [dc_t ⟨rfl, rfl⟩]
    go_enter Tryz.func29, Tryz.ntmps29
    go_wp2_with fail
    go_ret
    exact ⟨rfl, by go_grown⟩
  all_goals
    rw [dc_f (by omega)]
    go_enter Tryz.func29, Tryz.ntmps29
    go_wp2_with fail
    go_ret
    exact ⟨rfl, by go_grown⟩
end Go.Proofs.YtladepgpandklaaGreatDoor
