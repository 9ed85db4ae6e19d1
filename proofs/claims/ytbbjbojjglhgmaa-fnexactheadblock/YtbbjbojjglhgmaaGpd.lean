import Derived.Test.YtbbjbojjglhgmaaGpc
namespace Go.Proofs.Ytbbjbojjglhgmaa.Fo
open Go.ChangeShapes Go.WideShapes Go.ChangeAt Go.RowKit
set_option linter.unusedVariables false
set_option maxRecDepth 100000
theorem sp_signed (n : Int) (h1 : -9223372036854775808 ≤ n) (h2 : n ≤ 9223372036854775807) (w : World) : Calls Try.prog 156 #[.int .i64 n] w fun e w' => e = .returned (.int .u64 (sgn n : Int)) ∧ w' = w := by
  by_cases h : n < 0
  · have e : (sgn n : Int) = -(n + 1) * 2 + 1 := by unfold sgn; rw [if_pos h]; omega
    rw [e]
    go_enter Try.func156, Try.ntmps156
    go_wp2_with fail
    go_ret
    exact ⟨by congr 2; try omega, rfl⟩
  · have e : (sgn n : Int) = n * 2 := by unfold sgn; rw [if_neg h]; omega
    rw [e]
    have h0 : 0 ≤ n := by omega
    go_enter Try.func156, Try.ntmps156
    go_wp2_with fail
    go_ret
    exact ⟨by congr 2; try omega, rfl⟩
theorem sgn_lt {n : Int} (h1 : -9223372036854775808 ≤ n) (h2 : n ≤ 9223372036854775807) : sgn n < 18446744073709551616 := by
  unfold sgn
  split <;> omega
end Go.Proofs.Ytbbjbojjglhgmaa.Fo
