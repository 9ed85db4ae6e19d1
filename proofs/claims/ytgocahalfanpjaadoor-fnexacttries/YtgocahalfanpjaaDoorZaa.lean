import Derived.Test.YtgocahalfanpjaaDoorBae
import Derived.Test.YtgocahalfanpjaaDoorFlx
namespace Go.Proofs.YtgocahalfanpjaaDoor.Fo
open Go.ChangeShapes Go.WideShapes Go.ChangeAt Go.RowKit
set_option linter.unusedVariables false
/-- a float is a zero; it is a number -/
def fz (g : Nat) : Prop := FloatKind.f64.format.order g 0 = some .eq
def fn (g : Nat) : Prop := FloatKind.f64.format.order g g = some .eq
/-- the ways in which a float stands to itself and to zero -/
theorem f_cases (g : Nat) (hg : g < 18446744073709551616) :
    (¬ fz g ∧ ¬ fn g ∧ FloatKind.f64.format.order g g = none ∧ FloatKind.f64.format.order g 0 = none) ∨
    (fz g ∧ fn g ∧ FloatKind.f64.format.order g g = some .eq ∧ FloatKind.f64.format.order g 0 = some .eq) ∨
    (¬ fz g ∧ fn g ∧ FloatKind.f64.format.order g g = some .eq ∧ (FloatKind.f64.format.order g 0 = some .lt ∨ FloatKind.f64.format.order g 0 = some .gt)) := by
  unfold fz fn
  rcases Flt.zero_cases g hg with h | ⟨h, h0, _⟩ | ⟨h, h0⟩
  · left
    have h0 : FloatKind.f64.format.order g 0 = none := by
      rcases Flt.order_cases g 0 with ⟨_, k⟩ | ⟨k, _⟩ | ⟨k, _⟩
      · exact k
      · rw [h] at k; cases k
      · rw [h] at k; cases k
    exact ⟨by rw [h0]; simp, by rw [h]; simp, h, h0⟩
  · right; left; exact ⟨h0, h, h, h0⟩
  · right; right
    refine ⟨?_, h, h, h0⟩
    rcases h0 with h0 | h0 <;> rw [h0] <;> simp
end Go.Proofs.YtgocahalfanpjaaDoor.Fo
