import Derived.Test.YtieccnkabllamaaBae
import Derived.Test.YtieccnkabllamaaFlx
namespace Go.Proofs.Ytieccnkabllamaa.Fo
open Go.ChangeShapes Go.WideShapes Go.ChangeAt Go.RowKit
set_option linter.unusedVariables false
theorem quo_run {x r : Nat} (h : floatBits .quo .f64 4607182418800017408 x = some r) (w : World) : (binOp .quo 77 (.float .f64 4607182418800017408) (.float .f64 x)).run Try.prog w = .ok (.float .f64 r) w :=
  run_float_arith w .quo 77 .f64 _ _ _ h
set_option maxRecDepth 100000 in
set_option maxHeartbeats 1000000 in
theorem same_flt (x : Nat) (hx : x < 18446744073709551616) (w : World) : Calls Try.prog 102 #[.float .f64 x, .float .f64 x] w fun e w' => e = .returned (.bool true) ∧ w' = w := by
  rcases Flt.zero_cases x hx with h | ⟨h, h0, hz⟩ | ⟨h, h0⟩
  · go_enter Try.func102, Try.ntmps102
    go_wp2
    go_ret
    exact ⟨rfl, rfl⟩
  · rcases hz with rfl | rfl
    · have hq := quo_run (x := 0) (r := 9218868437227405312) (by decide)
      have hg : FloatKind.f64.format.order 9218868437227405312 0 = some .gt := by decide
      go_enter Try.func102, Try.ntmps102
      go_wp2
      go_ret
      exact ⟨rfl, rfl⟩
    · have hq := quo_run (x := 9223372036854775808) (r := 18442240474082181120) (by decide)
      have hg : FloatKind.f64.format.order 18442240474082181120 0 = some .lt := by decide
      go_enter Try.func102, Try.ntmps102
      go_wp2
      go_ret
      exact ⟨rfl, rfl⟩
  · rcases h0 with h0 | h0
    all_goals
      go_enter Try.func102, Try.ntmps102
      go_wp2
      go_ret
      exact ⟨rfl, rfl⟩
/-- a float is a zero; it is a number -/
def fz (g : Nat) : Prop := FloatKind.f64.format.order g 0 = some .eq
def fn (g : Nat) : Prop := FloatKind.f64.format.order g g = some .eq
/-- the ways in which a float stands to itself and to zero -/
theorem f_cases (g : Nat) (hg : g < 18446744073709551616) :
    (¬ fz g ∧ ¬ fn g ∧ FloatKind.f64.format.order g g = none ∧ FloatKind.f64.format.order g 0 = none) ∨
    (fz g ∧ fn g ∧ FloatKind.f64.format.order g g = some .eq ∧ FloatKind.f64.format.order g 0 = some .eq) ∨
    (¬ fz g ∧ fn g ∧ FloatKind.f64.format.order g g = some .eq ∧ (FloatKind.f64.format.order g 0 = some .lt ∨ FloatKind.f64.format.order g 0 = some .gt)) := by
  unfold fz fn
  rcases Flt.zero_cases g hg with h | ⟨h, h0, _⟩ | ⟨h, h0⟩
  · left
    have h0 : FloatKind.f64.format.order g 0 = none := by
      rcases Flt.order_cases g 0 with ⟨_, k⟩ | ⟨k, _⟩ | ⟨k, _⟩
      · exact k
      · rw [h] at k; cases k
      · rw [h] at k; cases k
    exact ⟨by rw [h0]; simp, by rw [h]; simp, h, h0⟩
  · right; left; exact ⟨h0, h, h, h0⟩
  · right; right
    refine ⟨?_, h, h, h0⟩
    rcases h0 with h0 | h0 <;> rw [h0] <;> simp
end Go.Proofs.Ytieccnkabllamaa.Fo
