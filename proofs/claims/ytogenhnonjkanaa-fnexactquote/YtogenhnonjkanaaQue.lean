import Derived.Test.YtogenhnonjkanaaQud
namespace Go.Proofs.Ytogenhnonjkanaa
open Go.ChangeShapes Go.WideShapes Go.ChangeAt Go.RowKit
set_option linter.unusedVariables false
theorem law_quote (T : ByteArray) (w : World) : Calls Try.prog 3 #[.string T] w fun e w' => e = .returned (.bool true) ∧ Below w.heap.size w w' := by
  by_cases h : 1048576 < T.size
  · have hi : (1048576 : Int) < (T.size : Int) := by omega
    clear h
    go_enter Try.func3, Try.ntmps3
    go_wp2_with fail
    go_ret
    exact ⟨rfl, Below.refl _ _⟩
  · have hi : ¬ (1048576 : Int) < (T.size : Int) := by omega
    have h4 := spec_qt T
    have h5 := impl_qt T
    clear h
    go_enter Try.func3, Try.ntmps3
    go_wp2_with fail
    refine (h4 _).mono ?_
    rintro e w1 ⟨rfl, h1⟩
    clear h4
    go_wp2_with fail
    refine (h5 _).mono ?_
    rintro e w2 ⟨rfl, h2⟩
    clear h5
    generalize qt T = R at *
    go_wp2_with fail
    go_ret
    exact ⟨rfl, h1.trans (h2.mono h1.size)⟩
end Go.Proofs.Ytogenhnonjkanaa
