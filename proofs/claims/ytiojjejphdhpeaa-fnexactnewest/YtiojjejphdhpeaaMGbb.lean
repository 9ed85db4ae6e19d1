import Derived.Test.YtiojjejphdhpeaaMGba
namespace Go.Proofs.Ytiojjejphdhpeaa.Fo
open Go.ChangeShapes Go.WideShapes Go.ChangeAt Go.RowKit
set_option linter.unusedVariables false
set_option maxRecDepth 100000
/-- the sum of the first i -/
def sm (s : Nat → Nat) : Nat → Nat
  | 0 => 0
  | i + 1 => sm s i + s i
theorem sm_mono (s : Nat → Nat) {i n : Nat} (h : i ≤ n) : sm s i ≤ sm s n := by
  induction n with
  | zero => obtain rfl : i = 0 := by omega
            exact Nat.le_refl _
  | succ n ih =>
    by_cases e : i = n + 1
    · subst e; exact Nat.le_refl _
    · have := ih (by omega)
      show _ ≤ sm s n + s n
      omega
theorem sm_one (s : Nat → Nat) {i n : Nat} (h : i < n) : s i ≤ sm s n := by
  have := sm_mono s (show i + 1 ≤ n from h)
  have e : sm s (i + 1) = sm s i + s i := rfl
  omega
/-- what a measuring answers -/
def Szd (s : Nat) (l : Int) (W : World) : Ending → World → Prop := fun e w' => ∃ r : Int, e = .returned (.int .i64 r) ∧ (0 ≤ r → r + (s : Int) ≤ l) ∧ -1 ≤ r ∧ r ≤ l ∧ Kb 0 W w'
/-- the size of a thing -/
def szT (F : Nat → Td) (i : Nat) : Nat := (F i).c + sm (fun j => ((F i).C j).x.size) (F i).c
def BT (F : Nat → Td) (n : Nat) : Prop := ∀ i, i < n → ((F i).c : Int) < 140737488355328 ∧ ∀ j, j < (F i).c → (((F i).C j).x.size : Int) < 140737488355328
theorem choose_fn {α : Type} [inst : Inhabited α] {n : Nat} {p : Nat → α → Prop} (h : ∀ i, i < n → ∃ a, p i a) : ∃ f : Nat → α, ∀ i, i < n → p i (f i) := by
  refine ⟨fun i => if h' : i < n then (h i h').choose else default, fun i hi => ?_⟩
  simp only [hi, dif_pos]
  exact (h i hi).choose_spec
end Go.Proofs.Ytiojjejphdhpeaa.Fo
