import Derived.Test.YtfpidccjcemcjaaVav
import Derived.Test.YtfpidccjcemcjaaVavb
import Derived.Test.YtfpidccjcemcjaaVaw
namespace Go.Proofs.Ytfpidccjcemcjaa
open Go.ChangeShapes Go.WideShapes Go.ChangeAt Go.RowKit
set_option linter.unusedVariables false
set_option maxRecDepth 100000
attribute [local go_sem] run_equalIn_flt
theorem fl_some (x y : Nat) (hx : FloatKind.f64.format.order x x = some .eq) (hy : FloatKind.f64.format.order y y = some .eq) : ∃ o, FloatKind.f64.format.order x y = some o := by
  unfold Ieee.Format.order at *
  refine Flt.d_some _ _ ?_ ?_
  · rcases Flt.d_self (FloatKind.f64.format.read x) with g | g
    · rw [(g.2 _).1] at hx; cases hx
    · exact g.1
  · rcases Flt.d_self (FloatKind.f64.format.read y) with g | g
    · rw [(g.2 _).1] at hy; cases hy
    · exact g.1
theorem fz_eq {x y : Nat} (hx : x < 18446744073709551616) (hy : y < 18446744073709551616) (h1 : fz x) (h2 : fz y) : FloatKind.f64.format.order x y = some .eq := by
  have key : ∀ z, z < 18446744073709551616 → fz z → z = 0 ∨ z = 9223372036854775808 := fun z hz h => by
    unfold fz at h
    rcases Flt.zero_cases z hz with g | ⟨_, _, g⟩ | ⟨_, g⟩
    · rw [fl_nan z 0 (.inl g)] at h; cases h
    · exact g
    · rcases g with g | g <;> (rw [g] at h; cases h)
  rcases key x hx h1 with rfl | rfl <;> rcases key y hy h2 with rfl | rfl <;> decide
/-- values that are no floats have a zero there -/
theorem vok_fz {v : Vv} (h : vok v) (hk : ¬ v.k = 3) : fz v.g := by
  unfold vok zr at h
  rcases h with h | h | h | h | h | h | h | h | h
  · simpa using h.2.1.2.1
  · simpa using h.2.1.2.1
  · simpa using h.2.1.2.1
  · exact absurd h.1 hk
  · simpa using h.2.1.2.1
  · simpa using h.2.1.2.1
  · simpa using h.2.1.2.1
  · simpa using h.2.1.2.1
  · simpa using h.2.1.2.1
end Go.Proofs.Ytfpidccjcemcjaa
