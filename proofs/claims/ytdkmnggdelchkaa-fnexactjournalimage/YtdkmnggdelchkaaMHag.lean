import Derived.Test.YtdkmnggdelchkaaMHaf
namespace Go.Proofs.Ytdkmnggdelchkaa.Fo
open Go.ChangeShapes Go.WideShapes Go.ChangeAt Go.RowKit
set_option linter.unusedVariables false
set_option maxRecDepth 100000
theorem arr_same {c : Array Value} {j : Nat} {v : Value} (h : c[j]? = some v) : c.setIfInBounds j v = c := by
  apply Array.ext_getElem?
  intro i
  rw [Array.getElem?_setIfInBounds]
  split
  · rename_i e
    subst e
    split
    · exact h.symm
    · rename_i q
      rw [Array.getElem?_eq_none (by omega)]
  · rfl
/-- a store of what is there changes nothing -/
theorem set_same {W : World} {b j : Nat} {c : Array Value} {t : TypeId} {v : Value} (h : W.heap[b]? = some (.cells c t (0, 0))) (hv : W.cell? ⟨b, j, none⟩ = some v) : Kb 0 W (W.setCell ⟨b, j, none⟩ v) := by
  have hc : c[j]? = some v := by
    cases e : c[j]? with
    | none => 
      have q : W.cell? ⟨b, j, none⟩ = c[j]? := by unfold World.cell?; simp [h]
      rw [q, e] at hv
      cases hv
    | some u =>
      have q := cell_of h e
      rw [hv] at q
      exact q.symm
  refine ⟨rfl, rfl, by rw [World.size_setCell]; exact Nat.le_refl _, fun g _ hg => ?_⟩
  by_cases e : g = b
  · subst e
    rw [set_known v h, arr_same hc, h]
  · exact Below.heap_setCell _ _ _ _ e
end Go.Proofs.Ytdkmnggdelchkaa.Fo
