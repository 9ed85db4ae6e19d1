import Derived.Test.YtfpidccjcemcjaaVaj
import Derived.Test.YtfpidccjcemcjaaVak
namespace Go.Proofs.Ytfpidccjcemcjaa
open Go.ChangeShapes Go.WideShapes Go.ChangeAt Go.RowKit
set_option linter.unusedVariables false
set_option maxRecDepth 100000
/-- how two ints stand -/
def cmpi (a b : Int) : Int := if a < b then -1 else if b < a then 1 else 0
theorem cmpi_lt {a b : Int} (h : a < b) : cmpi a b = -1 := by unfold cmpi; rw [if_pos h]
theorem cmpi_gt {a b : Int} (h : b < a) : cmpi a b = 1 := by unfold cmpi; rw [if_neg (by omega), if_pos h]
theorem cmpi_eq {a b : Int} (h : a = b) : cmpi a b = 0 := by unfold cmpi; rw [if_neg (by omega), if_neg (by omega)]
/-- how two floats stand -/
def odf (x y : Nat) : Int := match FloatKind.f64.format.order x y with
  | some .lt => -1
  | some .gt => 1
  | some .eq => 0
  | none => 2
theorem sp_nan_t (x : Nat) (hn : FloatKind.f64.format.order x x = none) (w : World) : Calls Try.prog 33 #[.float .f64 x] w fun e w' => e = .returned (.bool true) ∧ w' = w := by
  go_enter Try.func33, Try.ntmps33
  go_wp2_with fail
  go_ret
  exact ⟨rfl, rfl⟩
theorem sp_nan_f (x : Nat) (hn : FloatKind.f64.format.order x x = some .eq) (w : World) : Calls Try.prog 33 #[.float .f64 x] w fun e w' => e = .returned (.bool false) ∧ w' = w := by
  go_enter Try.func33, Try.ntmps33
  go_wp2_with fail
  go_ret
  exact ⟨rfl, rfl⟩
/-- ints and floats -/
def nmb (v : Vv) : Prop := v.k = 2 ∨ v.k = 3
theorem sp_num (v : Vv) (w : World) : Calls Try.prog 63 #[vv v] w fun e w' => e = .returned (.bool (dc (nmb v))) ∧ Grown w w' := by
  by_cases k2 : v.k = 2
  · rw [dc_t (show nmb v from .inl k2)]
    obtain ⟨k, m, g, x, r⟩ := v
    unfold vv
    dsimp only at k2 ⊢
    subst k2
    go_enter Try.func63, Try.ntmps63
    go_wp2_with fail
    go_ret
    exact ⟨rfl, by go_grown⟩
  by_cases k3 : v.k = 3
  · rw [dc_t (show nmb v from .inr k3)]
    obtain ⟨k, m, g, x, r⟩ := v
    unfold vv
    dsimp only at k2 k3 ⊢
    subst k3
    go_enter Try.func63, Try.ntmps63
    go_wp2_with fail
    go_ret
    exact ⟨rfl, by go_grown⟩
  · rw [dc_f (show ¬ nmb v from fun h => h.elim k2 k3)]
    obtain ⟨k, m, g, x, r⟩ := v
    unfold vv
    dsimp only at k2 k3 ⊢
    go_enter Try.func63, Try.ntmps63
    go_wp2_with fail
    go_ret
    exact ⟨by first | rfl | simp [*], by go_grown⟩
end Go.Proofs.Ytfpidccjcemcjaa
