import Derived.Test.YtfpidccjcemcjaaVau
namespace Go.Proofs.Ytfpidccjcemcjaa
open Go.ChangeShapes Go.WideShapes Go.ChangeAt Go.RowKit
set_option linter.unusedVariables false
theorem fl_self (x : Nat) : FloatKind.f64.format.order x x = none ∨ FloatKind.f64.format.order x x = some .eq := by
  unfold Ieee.Format.order
  rcases Flt.d_self (FloatKind.f64.format.read x) with h | h
  · exact .inl (h.2 _).1
  · exact .inr h.2
theorem fl_nan (x y : Nat) (h : FloatKind.f64.format.order x x = none ∨ FloatKind.f64.format.order y y = none) : FloatKind.f64.format.order x y = none := by
  unfold Ieee.Format.order at *
  rcases h with h | h
  · rcases Flt.d_self (FloatKind.f64.format.read x) with g | g
    · exact (g.2 _).1
    · rw [g.2] at h; cases h
  · rcases Flt.d_self (FloatKind.f64.format.read y) with g | g
    · exact (g.2 _).2
    · rw [g.2] at h; cases h
end Go.Proofs.Ytfpidccjcemcjaa
