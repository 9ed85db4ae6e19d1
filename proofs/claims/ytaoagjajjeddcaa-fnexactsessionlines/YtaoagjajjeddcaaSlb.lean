import Derived.Test.YtaoagjajjeddcaaEvc
namespace Go.Proofs.Ytaoagjajjeddcaa.Fo
open Go.ChangeShapes Go.WideShapes Go.ChangeAt Go.RowKit
set_option linter.unusedVariables false
set_option maxRecDepth 100000
set_option maxHeartbeats 32000000 in
theorem mul64_1 {N : Nat} (h : N ≤ 50) (w : World) : Calls Try.prog 41 #[.int .u64 1, .int .u64 (N : Int)] w fun e w' => e = .returned (.tuple #[.int .u64 0, .int .u64 (N : Int)]) ∧ w' = w := by
  have h' : N = 0 ∨ N = 1 ∨ N = 2 ∨ N = 3 ∨ N = 4 ∨ N = 5 ∨ N = 6 ∨ N = 7 ∨ N = 8 ∨ N = 9 ∨ N = 10 ∨ N = 11 ∨ N = 12 ∨ N = 13 ∨ N = 14 ∨ N = 15 ∨ N = 16 ∨ N = 17 ∨ N = 18 ∨ N = 19 ∨ N = 20 ∨ N = 21 ∨ N = 22 ∨ N = 23 ∨ N = 24 ∨ N = 25 ∨ N = 26 ∨ N = 27 ∨ N = 28 ∨ N = 29 ∨ N = 30 ∨ N = 31 ∨ N = 32 ∨ N = 33 ∨ N = 34 ∨ N = 35 ∨ N = 36 ∨ N = 37 ∨ N = 38 ∨ N = 39 ∨ N = 40 ∨ N = 41 ∨ N = 42 ∨ N = 43 ∨ N = 44 ∨ N = 45 ∨ N = 46 ∨ N = 47 ∨ N = 48 ∨ N = 49 ∨ N = 50 := by omega
  clear h
  rcases h' with rfl | rfl | rfl | rfl | rfl | rfl | rfl | rfl | rfl | rfl | rfl | rfl | rfl | rfl | rfl | rfl | rfl | rfl | rfl | rfl | rfl | rfl | rfl | rfl | rfl | rfl | rfl | rfl | rfl | rfl | rfl | rfl | rfl | rfl | rfl | rfl | rfl | rfl | rfl | rfl | rfl | rfl | rfl | rfl | rfl | rfl | rfl | rfl | rfl | rfl | rfl
  all_goals
    go_enter Try.func41, Try.ntmps41
    go_wp2_with fail
    refine bodyPost_ret (by simp [results, Try.results41, go_sem]; rfl) rfl ?_
    exact ⟨rfl, rfl⟩
set_option maxHeartbeats 8000000 in
theorem mul_1 {N : Nat} (h : N ≤ 50) (w : World) : Calls Try.prog 39 #[.int .u64 1, .int .u64 (N : Int)] w fun e w' => e = .returned (.tuple #[.int .u64 0, .int .u64 (N : Int)]) ∧ w' = w := by
  have HM := mul64_1 h w
  clear h
  go_enter Try.func39, Try.ntmps39
  go_wp2_with fail
  refine HM.mono ?_
  rintro e w1 ⟨rfl, hw1⟩
  rw [hw1]
  clear HM hw1
  go_wp2_with fail
  refine bodyPost_ret (by simp [results, Try.results39, go_sem]; rfl) rfl ?_
  exact ⟨rfl, rfl⟩
end Go.Proofs.Ytaoagjajjeddcaa.Fo
