import Derived.Test.YtaoagjajjeddcaaEvc
namespace Go.Proofs.Ytaoagjajjeddcaa.Fo
open Go.ChangeShapes Go.WideShapes Go.ChangeAt Go.RowKit
set_option linter.unusedVariables false
set_option maxRecDepth 100000
set_option maxHeartbeats 8000000 in
theorem sp_l58 {k f l : Int} {z : ByteArray} (w : World) (hz : (z.size : Int) ≤ 9223372036854775807) :
    Calls Try.prog 26 #[.agg #[.int .i64 k, .int .i64 f, .int .i64 l, .string z]] w fun e w' => e = .returned (.bool (dc (k = 0 ∧ f = 0 ∧ l = 0 ∧ z.size = 0))) ∧ Kb 0 w w' := by
  by_cases hk : k = 0
  rotate_left
  · rw [dc_f (fun h => hk h.1)]
    have e : (k == 0) = false := by simp; omega
    clear hk
    go_enter Try.func26, Try.ntmps26
    go_wp2_with fail
    go_ret
    exact ⟨rfl, kb_alloc _ _ _⟩
  subst hk
  by_cases hf : f = 0
  rotate_left
  · rw [dc_f (fun h => hf h.2.1)]
    have e : (f == 0) = false := by simp; omega
    clear hf
    go_enter Try.func26, Try.ntmps26
    go_wp2_with fail
    go_ret
    exact ⟨rfl, kb_alloc _ _ _⟩
  subst hf
  by_cases hl : l = 0
  rotate_left
  · rw [dc_f (fun h => hl h.2.2.1)]
    have e : (l == 0) = false := by simp; omega
    clear hl
    go_enter Try.func26, Try.ntmps26
    go_wp2_with fail
    go_ret
    exact ⟨rfl, kb_alloc _ _ _⟩
  subst hl
  by_cases hs : z.size = 0
  · rw [dc_t ⟨rfl, rfl, rfl, hs⟩]
    have es := se_t hs
    subst es
    clear hs
    go_enter Try.func26, Try.ntmps26
    go_wp2_with fail
    go_ret
    exact ⟨rfl, kb_alloc _ _ _⟩
  · rw [dc_f (fun h => hs h.2.2.2)]
    have es := se_e hs
    clear hs
    go_enter Try.func26, Try.ntmps26
    go_wp2_with fail
    go_ret
    exact ⟨rfl, kb_alloc _ _ _⟩
end Go.Proofs.Ytaoagjajjeddcaa.Fo
