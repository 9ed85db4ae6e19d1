import Derived.Test.YtiojjejphdhpeaaMKac
namespace Go.Proofs.Ytiojjejphdhpeaa.Fo
open Go.ChangeShapes Go.WideShapes Go.ChangeAt Go.RowKit
set_option linter.unusedVariables false
set_option maxRecDepth 100000
set_option maxHeartbeats 8000000 in
theorem sp_hok {ok : Bool} {g l s : Int} (w : World) :
    Calls Try.prog 92 #[.agg #[.bool ok, .int .i64 g, .int .i64 l, .int .i64 s]] w fun e w' => e = .returned (.bool (dc (Hok ok g l))) ∧ Kb 0 w w' := by
  by_cases h : Hok ok g l
  · rw [dc_t h]
    obtain ⟨rfl, h1, h2, h3, h4⟩ := h
    go_enter Try.func92, Try.ntmps92
    go_wp2_with fail
    go_ret
    exact ⟨rfl, kb_alloc _ _ _⟩
  rw [dc_f h]
  cases ok with
  | false =>
    clear h
    go_enter Try.func92, Try.ntmps92
    go_wp2_with fail
    go_ret
    exact ⟨rfl, kb_alloc _ _ _⟩
  | true =>
    by_cases h1 : 1 ≤ g
    rotate_left
    · clear h
      go_enter Try.func92, Try.ntmps92
      go_wp2_with fail
      go_ret
      exact ⟨rfl, kb_alloc _ _ _⟩
    by_cases h2 : g ≤ 1000000000000
    rotate_left
    · clear h
      go_enter Try.func92, Try.ntmps92
      go_wp2_with fail
      go_ret
      exact ⟨rfl, kb_alloc _ _ _⟩
    by_cases h3 : 1 ≤ l
    rotate_left
    · clear h
      go_enter Try.func92, Try.ntmps92
      go_wp2_with fail
      go_ret
      exact ⟨rfl, kb_alloc _ _ _⟩
    have h4 : ¬ l ≤ 8192 := fun q => h ⟨rfl, h1, h2, h3, q⟩
    clear h
    go_enter Try.func92, Try.ntmps92
    go_wp2_with fail
    go_ret
    exact ⟨rfl, kb_alloc _ _ _⟩
end Go.Proofs.Ytiojjejphdhpeaa.Fo
