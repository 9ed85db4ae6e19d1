import Derived.Test.YtaoagjajjeddcaaNba
namespace Go.Proofs.Ytaoagjajjeddcaa.Fo
open Go.ChangeShapes Go.WideShapes Go.ChangeAt Go.RowKit
set_option linter.unusedVariables false
set_option maxRecDepth 100000

noncomputable def dc (p : Prop) : Bool := @decide p (Classical.propDecidable p)
theorem dc_t {p : Prop} (h : p) : dc p = true := @decide_eq_true p (Classical.propDecidable p) h
theorem dc_f {p : Prop} (h : ¬ p) : dc p = false := @decide_eq_false p (Classical.propDecidable p) h
/-- what a stop is by its table -/
def StP (k f l : Int) (n : Nat) : Prop := 0 ≤ f ∧ f < 300 ∧ ((k = 1 ∧ 1 ≤ l ∧ l ≤ 100000 ∧ n = 0) ∨ (k = 2 ∧ l = 0 ∧ n = 0) ∨ (k = 3 ∧ l = 0 ∧ 0 < n ∧ n ≤ 40) ∨ (k = 4 ∧ f = 0 ∧ l = 0 ∧ n = 0))
set_option maxHeartbeats 4000000 in
theorem sz_stop {k f l : Int} {s : ByteArray} {L : Int} (w : World) (hs' : (s.size : Int) ≤ 9223372036854775807) (h0 : 0 ≤ L) (h1 : L ≤ 1048576) :
    Calls Try.prog 6 #[.agg #[.int .i64 k, .int .i64 f, .int .i64 l, .string s], .int .i64 L] w fun e w' => e = .returned (.int .i64 (if L - (s.size : Int) < 0 then -1 else L - (s.size : Int))) ∧ Kb 0 w w' := by
  by_cases h : L - (s.size : Int) < 0
  · rw [if_pos h]
    go_enter Try.func6, Try.ntmps6
    go_wp2_with fail
    go_ret
    exact ⟨rfl, kb_alloc _ _ _⟩
  · rw [if_neg h]
    go_enter Try.func6, Try.ntmps6
    go_wp2_with fail
    go_ret
    exact ⟨rfl, kb_alloc _ _ _⟩

set_option maxHeartbeats 4000000 in
theorem to_stop {k f l : Int} {s : ByteArray} (w : World) :
    Calls Try.prog 8 #[.agg #[.int .i64 k, .int .i64 f, .int .i64 l, .string s]] w fun e w' => e = .returned (.agg #[.int .i64 k, .int .i64 f, .int .i64 l, .string s]) ∧ Kb 0 w w' := by
  go_enter Try.func8, Try.ntmps8
  go_wp2_with fail
  refine bodyPost_ret (by simp [results, Try.results8, go_sem]; rfl) rfl ?_
  exact ⟨rfl, kb_alloc3 _ _ _ _ _⟩
end Go.Proofs.Ytaoagjajjeddcaa.Fo
