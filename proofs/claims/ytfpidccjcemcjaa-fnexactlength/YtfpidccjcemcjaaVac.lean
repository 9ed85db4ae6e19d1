import Derived.Test.YtfpidccjcemcjaaVab
namespace Go.Proofs.Ytfpidccjcemcjaa
open Go.ChangeShapes Go.WideShapes Go.ChangeAt Go.RowKit
set_option linter.unusedVariables false
set_option maxRecDepth 100000
/-- the values that are valid -/
def vok (v : Vv) : Prop := (v.k = 0 ∧ zr v false false false false ∧ True) ∨ (v.k = 1 ∧ zr v true false false false ∧ (v.m = 0 ∨ v.m = 1)) ∨ (v.k = 2 ∧ zr v true false false false ∧ True) ∨ (v.k = 3 ∧ zr v false true false false ∧ True) ∨ (v.k = 4 ∧ zr v false false true false ∧ v.x.size ≤ 4000) ∨ (v.k = 5 ∧ zr v false false false true ∧ 0 ≤ v.r) ∨ (v.k = 6 ∧ zr v false false false true ∧ 0 ≤ v.r) ∨ (v.k = 7 ∧ zr v false false false true ∧ 0 ≤ v.r) ∨ (v.k = 8 ∧ zr v true false false false ∧ (0 ≤ v.m ∧ v.m < 15))
theorem vok0 {v : Vv} (h : v.k = 0) : vok v ↔ (zr v false false false false ∧ True) := by
  unfold vok
  rw [h]
  simp
theorem vok1 {v : Vv} (h : v.k = 1) : vok v ↔ (zr v true false false false ∧ (v.m = 0 ∨ v.m = 1)) := by
  unfold vok
  rw [h]
  simp
theorem vok2 {v : Vv} (h : v.k = 2) : vok v ↔ (zr v true false false false ∧ True) := by
  unfold vok
  rw [h]
  simp
theorem vok3 {v : Vv} (h : v.k = 3) : vok v ↔ (zr v false true false false ∧ True) := by
  unfold vok
  rw [h]
  simp
theorem vok4 {v : Vv} (h : v.k = 4) : vok v ↔ (zr v false false true false ∧ v.x.size ≤ 4000) := by
  unfold vok
  rw [h]
  simp
theorem vok5 {v : Vv} (h : v.k = 5) : vok v ↔ (zr v false false false true ∧ 0 ≤ v.r) := by
  unfold vok
  rw [h]
  simp
theorem vok6 {v : Vv} (h : v.k = 6) : vok v ↔ (zr v false false false true ∧ 0 ≤ v.r) := by
  unfold vok
  rw [h]
  simp
theorem vok7 {v : Vv} (h : v.k = 7) : vok v ↔ (zr v false false false true ∧ 0 ≤ v.r) := by
  unfold vok
  rw [h]
  simp
theorem vok8 {v : Vv} (h : v.k = 8) : vok v ↔ (zr v true false false false ∧ (0 ≤ v.m ∧ v.m < 15)) := by
  unfold vok
  rw [h]
  simp
theorem vokx {v : Vv} (h : ¬ (v.k = 0 ∨ v.k = 1 ∨ v.k = 2 ∨ v.k = 3 ∨ v.k = 4 ∨ v.k = 5 ∨ v.k = 6 ∨ v.k = 7 ∨ v.k = 8)) : ¬ vok v := by
  unfold vok
  rintro (h1 | h1 | h1 | h1 | h1 | h1 | h1 | h1 | h1) <;> (have := h1.1; omega)
end Go.Proofs.Ytfpidccjcemcjaa
