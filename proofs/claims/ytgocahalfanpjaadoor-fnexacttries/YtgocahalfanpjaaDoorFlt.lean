import GoSem.Core.Float
namespace Go.Proofs.YtgocahalfanpjaaDoor.Flt
open Ieee
/-- the order of two floats -/
theorem d_self (a : Datum) : (a.isNaN = true ∧ ∀ b, a.order b = none ∧ b.order a = none) ∨ (a.isNaN = false ∧ a.order a = some .eq) := by
  cases a with
  | nan s t => left; refine ⟨rfl, fun b => ⟨by simp [Datum.order], by cases b <;> simp [Datum.order]⟩⟩
  | infinity s => right; refine ⟨rfl, by simp [Datum.order]⟩
  | number s m i => right; refine ⟨rfl, by simp [Datum.order]⟩
theorem d_some (a b : Datum) (ha : a.isNaN = false) (hb : b.isNaN = false) : ∃ o, a.order b = some o := by
  cases a <;> cases b <;> simp_all [Datum.order, Datum.isNaN]
theorem order_cases (x y : Nat) :
    (FloatKind.f64.format.order x x = none ∧ FloatKind.f64.format.order x y = none) ∨
    (FloatKind.f64.format.order x x = some .eq ∧ FloatKind.f64.format.order y y = none ∧ FloatKind.f64.format.order x y = none) ∨
    (FloatKind.f64.format.order x x = some .eq ∧ FloatKind.f64.format.order y y = some .eq ∧
      (FloatKind.f64.format.order x y = some .lt ∨ FloatKind.f64.format.order x y = some .gt ∨ FloatKind.f64.format.order x y = some .eq)) := by
  unfold Format.order
  rcases d_self (FloatKind.f64.format.read x) with ⟨_, h⟩ | ⟨hx, h⟩
  · exact Or.inl ⟨(h _).1, (h _).1⟩
  rcases d_self (FloatKind.f64.format.read y) with ⟨_, k⟩ | ⟨hy, k⟩
  · exact Or.inr (Or.inl ⟨h, (k _).1, (k _).2⟩)
  obtain ⟨o, ho⟩ := d_some _ _ hx hy
  refine Or.inr (Or.inr ⟨h, k, ?_⟩)
  rw [ho]
  cases o <;> simp
end Go.Proofs.YtgocahalfanpjaaDoor.Flt
