import Derived.Test.YtfpidccjcemcjaaVaa
namespace Go.Proofs.Ytfpidccjcemcjaa
open Go.ChangeShapes Go.WideShapes Go.ChangeAt Go.RowKit
set_option linter.unusedVariables false
set_option maxRecDepth 100000
set_option maxHeartbeats 1000000 in
theorem sp_zero_ffff (v : Vv) (w : World) : Calls Try.prog 58 #[vv v, .bool false, .bool false, .bool false, .bool false] w fun e w' => e = .returned (.bool (dc (zr v false false false false))) ∧ Grown w w' := by
  obtain ⟨k, m, g, x, r⟩ := v
  unfold vv zr fz
  dsimp only
  by_cases hm : m = 0
  case neg =>
    rw [dc_f (by simp [hm])]
    go_enter Try.func58, Try.ntmps58
    go_wp2_with fail
    go_ret
    exact ⟨by first | rfl | simp [hm], by go_grown⟩
  by_cases hg : FloatKind.f64.format.order g 0 = some .eq
  case neg =>
    rw [dc_f (by simp [hg])]
    go_enter Try.func58, Try.ntmps58
    go_wp2_with fail
    go_ret
    exact ⟨by first | rfl | simp [hg], by go_grown⟩
  by_cases hx : x.toList = []
  case neg =>
    rw [dc_f (by simp [hx])]
    go_enter Try.func58, Try.ntmps58
    go_wp2_with fail
    go_ret
    exact ⟨by first | rfl | simp [hx], by go_grown⟩
  by_cases hr : r = 0
  case neg =>
    rw [dc_f (by simp [hr])]
    go_enter Try.func58, Try.ntmps58
    go_wp2_with fail
    go_ret
    exact ⟨by first | rfl | simp [hr], by go_grown⟩
  rw [dc_t (by simp [hm, hg, hx, hr])]
  go_enter Try.func58, Try.ntmps58
  go_wp2_with fail
  go_ret
  exact ⟨by first | rfl | simp [hm, hg, hx, hr], by go_grown⟩
set_option maxHeartbeats 1000000 in
theorem sp_zero_tfff (v : Vv) (w : World) : Calls Try.prog 58 #[vv v, .bool true, .bool false, .bool false, .bool false] w fun e w' => e = .returned (.bool (dc (zr v true false false false))) ∧ Grown w w' := by
  obtain ⟨k, m, g, x, r⟩ := v
  unfold vv zr fz
  dsimp only
  by_cases hg : FloatKind.f64.format.order g 0 = some .eq
  case neg =>
    rw [dc_f (by simp [hg])]
    go_enter Try.func58, Try.ntmps58
    go_wp2_with fail
    go_ret
    exact ⟨by first | rfl | simp [hg], by go_grown⟩
  by_cases hx : x.toList = []
  case neg =>
    rw [dc_f (by simp [hx])]
    go_enter Try.func58, Try.ntmps58
    go_wp2_with fail
    go_ret
    exact ⟨by first | rfl | simp [hx], by go_grown⟩
  by_cases hr : r = 0
  case neg =>
    rw [dc_f (by simp [hr])]
    go_enter Try.func58, Try.ntmps58
    go_wp2_with fail
    go_ret
    exact ⟨by first | rfl | simp [hr], by go_grown⟩
  rw [dc_t (by simp [hg, hx, hr])]
  go_enter Try.func58, Try.ntmps58
  go_wp2_with fail
  go_ret
  exact ⟨by first | rfl | simp [hg, hx, hr], by go_grown⟩
set_option maxHeartbeats 1000000 in
theorem sp_zero_ftff (v : Vv) (w : World) : Calls Try.prog 58 #[vv v, .bool false, .bool true, .bool false, .bool false] w fun e w' => e = .returned (.bool (dc (zr v false true false false))) ∧ Grown w w' := by
  obtain ⟨k, m, g, x, r⟩ := v
  unfold vv zr fz
  dsimp only
  by_cases hm : m = 0
  case neg =>
    rw [dc_f (by simp [hm])]
    go_enter Try.func58, Try.ntmps58
    go_wp2_with fail
    go_ret
    exact ⟨by first | rfl | simp [hm], by go_grown⟩
  by_cases hx : x.toList = []
  case neg =>
    rw [dc_f (by simp [hx])]
    go_enter Try.func58, Try.ntmps58
    go_wp2_with fail
    go_ret
    exact ⟨by first | rfl | simp [hx], by go_grown⟩
  by_cases hr : r = 0
  case neg =>
    rw [dc_f (by simp [hr])]
    go_enter Try.func58, Try.ntmps58
    go_wp2_with fail
    go_ret
    exact ⟨by first | rfl | simp [hr], by go_grown⟩
  rw [dc_t (by simp [hm, hx, hr])]
  go_enter Try.func58, Try.ntmps58
  go_wp2_with fail
  go_ret
  exact ⟨by first | rfl | simp [hm, hx, hr], by go_grown⟩
set_option maxHeartbeats 1000000 in
theorem sp_zero_fftf (v : Vv) (w : World) : Calls Try.prog 58 #[vv v, .bool false, .bool false, .bool true, .bool false] w fun e w' => e = .returned (.bool (dc (zr v false false true false))) ∧ Grown w w' := by
  obtain ⟨k, m, g, x, r⟩ := v
  unfold vv zr fz
  dsimp only
  by_cases hm : m = 0
  case neg =>
    rw [dc_f (by simp [hm])]
    go_enter Try.func58, Try.ntmps58
    go_wp2_with fail
    go_ret
    exact ⟨by first | rfl | simp [hm], by go_grown⟩
  by_cases hg : FloatKind.f64.format.order g 0 = some .eq
  case neg =>
    rw [dc_f (by simp [hg])]
    go_enter Try.func58, Try.ntmps58
    go_wp2_with fail
    go_ret
    exact ⟨by first | rfl | simp [hg], by go_grown⟩
  by_cases hr : r = 0
  case neg =>
    rw [dc_f (by simp [hr])]
    go_enter Try.func58, Try.ntmps58
    go_wp2_with fail
    go_ret
    exact ⟨by first | rfl | simp [hr], by go_grown⟩
  rw [dc_t (by simp [hm, hg, hr])]
  go_enter Try.func58, Try.ntmps58
  go_wp2_with fail
  go_ret
  exact ⟨by first | rfl | simp [hm, hg, hr], by go_grown⟩
set_option maxHeartbeats 1000000 in
theorem sp_zero_ffft (v : Vv) (w : World) : Calls Try.prog 58 #[vv v, .bool false, .bool false, .bool false, .bool true] w fun e w' => e = .returned (.bool (dc (zr v false false false true))) ∧ Grown w w' := by
  obtain ⟨k, m, g, x, r⟩ := v
  unfold vv zr fz
  dsimp only
  by_cases hm : m = 0
  case neg =>
    rw [dc_f (by simp [hm])]
    go_enter Try.func58, Try.ntmps58
    go_wp2_with fail
    go_ret
    exact ⟨by first | rfl | simp [hm], by go_grown⟩
  by_cases hg : FloatKind.f64.format.order g 0 = some .eq
  case neg =>
    rw [dc_f (by simp [hg])]
    go_enter Try.func58, Try.ntmps58
    go_wp2_with fail
    go_ret
    exact ⟨by first | rfl | simp [hg], by go_grown⟩
  by_cases hx : x.toList = []
  case neg =>
    rw [dc_f (by simp [hx])]
    go_enter Try.func58, Try.ntmps58
    go_wp2_with fail
    go_ret
    exact ⟨by first | rfl | simp [hx], by go_grown⟩
  rw [dc_t (by simp [hm, hg, hx])]
  go_enter Try.func58, Try.ntmps58
  go_wp2_with fail
  go_ret
  exact ⟨by first | rfl | simp [hm, hg, hx], by go_grown⟩
end Go.Proofs.Ytfpidccjcemcjaa
