import Derived.Test.YtogenhnonjkanaaDoorMTub
import Derived.Test.YtogenhnonjkanaaDoorMTuc
namespace Go.Proofs.YtogenhnonjkanaaDoor
open Go.ChangeShapes Go.WideShapes Go.ChangeAt Go.RowKit
set_option linter.unusedVariables false
/-- what a text is quoted as -/
def qt (T : ByteArray) : ByteArray := if 4000 < T.size then ⟨#[]⟩ else ⟨(quo T.data.toList T.data.toList.length ++ [34]).toArray⟩
theorem spec_qt (T : ByteArray) (w : World) : Calls Tryd.prog 23 #[.string T] w fun e w' => e = .returned (.string (qt T)) ∧ Below w.heap.size w w' := by
  by_cases h : 4000 < T.size
  · have e : qt T = ⟨#[]⟩ := by unfold qt; rw [if_pos h]
    rw [e]
    have hi : (4000 : Int) < (T.size : Int) := by omega
    clear e h
    go_enter Tryd.func23, Tryd.ntmps23
    go_wp2_with fail
    go_ret
    exact ⟨rfl, Below.refl _ _⟩
  · have e : qt T = ⟨(quo T.data.toList T.data.toList.length ++ [34]).toArray⟩ := by unfold qt; rw [if_neg h]
    have hi : ¬ (4000 : Int) < (T.size : Int) := by omega
    have hc := spec_quote T T.data.toList rfl (by simp; omega) w
    rw [← e] at hc
    clear e h
    go_enter Tryd.func23, Tryd.ntmps23
    go_wp2_with fail
    refine hc.mono ?_
    rintro e w1 ⟨rfl, h1⟩
    clear hc
    go_wp2_with fail
    go_ret
    exact ⟨rfl, h1⟩
theorem impl_qt (T : ByteArray) (w : World) : Calls Tryd.prog 26 #[.string T] w fun e w' => e = .returned (.string (qt T)) ∧ Below w.heap.size w w' := by
  by_cases h : 4000 < T.size
  · have e : qt T = ⟨#[]⟩ := by unfold qt; rw [if_pos h]
    rw [e]
    have hi : (4000 : Int) < (T.size : Int) := by omega
    clear e h
    go_enter Tryd.func26, Tryd.ntmps26
    go_wp2_with fail
    go_ret
    exact ⟨rfl, Below.refl _ _⟩
  · have e : qt T = ⟨(quo T.data.toList T.data.toList.length ++ [34]).toArray⟩ := by unfold qt; rw [if_neg h]
    rw [e]
    exact impl_quote T T.data.toList rfl (by simp; omega) w
end Go.Proofs.YtogenhnonjkanaaDoor
