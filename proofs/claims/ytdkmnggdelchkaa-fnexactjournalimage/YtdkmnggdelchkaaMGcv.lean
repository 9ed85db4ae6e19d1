import Derived.Laws.StructEq
import Derived.Test.YtdkmnggdelchkaaMGde
namespace Go.Proofs.Ytdkmnggdelchkaa.Fo
open Go.ChangeShapes Go.WideShapes Go.ChangeAt Go.RowKit
set_option linter.unusedVariables false
set_option maxRecDepth 100000
theorem em0 {x : ByteArray} (h : x = ⟨#[]⟩) : x.size = 0 := by rw [h]; rfl
set_option maxHeartbeats 8000000 in
theorem im_val_0 {n : Nat} (v : Gv) (hxs : (v.x.size : Int) < 140737488355328) (hn : (n : Int) < 140737488355328) (hk : v.k = 0) (w : World) : Calls Try.prog 82 #[gvv v, .int .i64 (n : Int)] w fun e w' => e = .returned (.bool (dc (Vok n v))) ∧ Kb 0 w w' := by
  unfold gvv
  by_cases hm : v.m = 0
  rotate_left
  · rw [dc_f (by rintro (⟨q, q1, q2, q3⟩ | ⟨q, q1, q2⟩ | ⟨q, q1, q2, q3⟩ | ⟨q, q1, q2, q3, q4⟩) <;> first | omega | exact hm (by assumption))]
    have k0 : ((0 : Int) == 0) = true := rfl
    have cm : (v.m == 0) = false := bne hm
    rw [hk]
    clear hk
    go_enter Try.func82, Try.ntmps82
    go_wp2_with fail
    all_goals (go_ret; exact ⟨by first | rfl | simp [*], kb_alloc2 _ _ _ _⟩)
  have cm : (v.m == 0) = true := by simpa using hm
  by_cases hx : v.x = ⟨#[]⟩
  rotate_left
  · rw [dc_f (by rintro (⟨q, q1, q2, q3⟩ | ⟨q, q1, q2⟩ | ⟨q, q1, q2, q3⟩ | ⟨q, q1, q2, q3, q4⟩) <;> first | omega | exact hx (by assumption))]
    have k0 : ((0 : Int) == 0) = true := rfl
    have cx := str1 hx
    rw [hk]
    clear hk
    go_enter Try.func82, Try.ntmps82
    go_wp2_with fail
    all_goals (go_ret; exact ⟨by first | rfl | simp [*], kb_alloc2 _ _ _ _⟩)
  have cx := str0 hx
  have cz : (v.x.size : Int) ≤ 4000 := by rw [em0 hx]; omega
  by_cases hr : v.r = 0
  rotate_left
  · rw [dc_f (by rintro (⟨q, q1, q2, q3⟩ | ⟨q, q1, q2⟩ | ⟨q, q1, q2, q3⟩ | ⟨q, q1, q2, q3, q4⟩) <;> first | omega | exact hr (by assumption))]
    have k0 : ((0 : Int) == 0) = true := rfl
    have cr : (v.r == 0) = false := bne hr
    rw [hk]
    clear hk
    go_enter Try.func82, Try.ntmps82
    go_wp2_with fail
    all_goals (go_ret; exact ⟨by first | rfl | simp [*], kb_alloc2 _ _ _ _⟩)
  have cr : (v.r == 0) = true := by simpa using hr
  · rw [dc_t (.inl ⟨hk, hm, hx, hr⟩)]
    have k0 : ((0 : Int) == 0) = true := rfl
    rw [hk]
    clear hk
    go_enter Try.func82, Try.ntmps82
    go_wp2_with fail
    all_goals (go_ret; exact ⟨by first | rfl | simp [*], kb_alloc2 _ _ _ _⟩)
set_option maxHeartbeats 8000000 in
theorem im_val_1 {n : Nat} (v : Gv) (hxs : (v.x.size : Int) < 140737488355328) (hn : (n : Int) < 140737488355328) (hk : v.k = 1) (w : World) : Calls Try.prog 82 #[gvv v, .int .i64 (n : Int)] w fun e w' => e = .returned (.bool (dc (Vok n v))) ∧ Kb 0 w w' := by
  unfold gvv
  by_cases hx : v.x = ⟨#[]⟩
  rotate_left
  · rw [dc_f (by rintro (⟨q, q1, q2, q3⟩ | ⟨q, q1, q2⟩ | ⟨q, q1, q2, q3⟩ | ⟨q, q1, q2, q3, q4⟩) <;> first | omega | exact hx (by assumption))]
    have k0 : ((1 : Int) == 0) = false := rfl
    have k1 : ((1 : Int) == 1) = true := rfl
    have cx := str1 hx
    rw [hk]
    clear hk
    go_enter Try.func82, Try.ntmps82
    go_wp2_with fail
    all_goals (go_ret; exact ⟨by first | rfl | simp [*], kb_alloc2 _ _ _ _⟩)
  have cx := str0 hx
  have cz : (v.x.size : Int) ≤ 4000 := by rw [em0 hx]; omega
  by_cases hr : v.r = 0
  rotate_left
  · rw [dc_f (by rintro (⟨q, q1, q2, q3⟩ | ⟨q, q1, q2⟩ | ⟨q, q1, q2, q3⟩ | ⟨q, q1, q2, q3, q4⟩) <;> first | omega | exact hr (by assumption))]
    have k0 : ((1 : Int) == 0) = false := rfl
    have k1 : ((1 : Int) == 1) = true := rfl
    have cr : (v.r == 0) = false := bne hr
    rw [hk]
    clear hk
    go_enter Try.func82, Try.ntmps82
    go_wp2_with fail
    all_goals (go_ret; exact ⟨by first | rfl | simp [*], kb_alloc2 _ _ _ _⟩)
  have cr : (v.r == 0) = true := by simpa using hr
  · rw [dc_t (.inr (.inl ⟨.inl hk, hx, hr⟩))]
    have k0 : ((1 : Int) == 0) = false := rfl
    have k1 : ((1 : Int) == 1) = true := rfl
    rw [hk]
    clear hk
    go_enter Try.func82, Try.ntmps82
    go_wp2_with fail
    all_goals (go_ret; exact ⟨by first | rfl | simp [*], kb_alloc2 _ _ _ _⟩)
set_option maxHeartbeats 8000000 in
theorem im_val_2 {n : Nat} (v : Gv) (hxs : (v.x.size : Int) < 140737488355328) (hn : (n : Int) < 140737488355328) (hk : v.k = 2) (w : World) : Calls Try.prog 82 #[gvv v, .int .i64 (n : Int)] w fun e w' => e = .returned (.bool (dc (Vok n v))) ∧ Kb 0 w w' := by
  unfold gvv
  by_cases hx : v.x = ⟨#[]⟩
  rotate_left
  · rw [dc_f (by rintro (⟨q, q1, q2, q3⟩ | ⟨q, q1, q2⟩ | ⟨q, q1, q2, q3⟩ | ⟨q, q1, q2, q3, q4⟩) <;> first | omega | exact hx (by assumption))]
    have k0 : ((2 : Int) == 0) = false := rfl
    have k1 : ((2 : Int) == 1) = false := rfl
    have k2 : ((2 : Int) == 2) = true := rfl
    have cx := str1 hx
    rw [hk]
    clear hk
    go_enter Try.func82, Try.ntmps82
    go_wp2_with fail
    all_goals (go_ret; exact ⟨by first | rfl | simp [*], kb_alloc2 _ _ _ _⟩)
  have cx := str0 hx
  have cz : (v.x.size : Int) ≤ 4000 := by rw [em0 hx]; omega
  by_cases hr : v.r = 0
  rotate_left
  · rw [dc_f (by rintro (⟨q, q1, q2, q3⟩ | ⟨q, q1, q2⟩ | ⟨q, q1, q2, q3⟩ | ⟨q, q1, q2, q3, q4⟩) <;> first | omega | exact hr (by assumption))]
    have k0 : ((2 : Int) == 0) = false := rfl
    have k1 : ((2 : Int) == 1) = false := rfl
    have k2 : ((2 : Int) == 2) = true := rfl
    have cr : (v.r == 0) = false := bne hr
    rw [hk]
    clear hk
    go_enter Try.func82, Try.ntmps82
    go_wp2_with fail
    all_goals (go_ret; exact ⟨by first | rfl | simp [*], kb_alloc2 _ _ _ _⟩)
  have cr : (v.r == 0) = true := by simpa using hr
  · rw [dc_t (.inr (.inl ⟨.inr hk, hx, hr⟩))]
    have k0 : ((2 : Int) == 0) = false := rfl
    have k1 : ((2 : Int) == 1) = false := rfl
    have k2 : ((2 : Int) == 2) = true := rfl
    rw [hk]
    clear hk
    go_enter Try.func82, Try.ntmps82
    go_wp2_with fail
    all_goals (go_ret; exact ⟨by first | rfl | simp [*], kb_alloc2 _ _ _ _⟩)
set_option maxHeartbeats 8000000 in
theorem im_val_3 {n : Nat} (v : Gv) (hxs : (v.x.size : Int) < 140737488355328) (hn : (n : Int) < 140737488355328) (hk : v.k = 3) (w : World) : Calls Try.prog 82 #[gvv v, .int .i64 (n : Int)] w fun e w' => e = .returned (.bool (dc (Vok n v))) ∧ Kb 0 w w' := by
  unfold gvv
  by_cases hm : v.m = 0
  rotate_left
  · rw [dc_f (by rintro (⟨q, q1, q2, q3⟩ | ⟨q, q1, q2⟩ | ⟨q, q1, q2, q3⟩ | ⟨q, q1, q2, q3, q4⟩) <;> first | omega | exact hm (by assumption))]
    have k0 : ((3 : Int) == 0) = false := rfl
    have k1 : ((3 : Int) == 1) = false := rfl
    have k2 : ((3 : Int) == 2) = false := rfl
    have k3 : ((3 : Int) == 3) = true := rfl
    have cm : (v.m == 0) = false := bne hm
    rw [hk]
    clear hk
    go_enter Try.func82, Try.ntmps82
    go_wp2_with fail
    all_goals (go_ret; exact ⟨by first | rfl | simp [*], kb_alloc2 _ _ _ _⟩)
  have cm : (v.m == 0) = true := by simpa using hm
  by_cases hr : v.r = 0
  rotate_left
  · rw [dc_f (by rintro (⟨q, q1, q2, q3⟩ | ⟨q, q1, q2⟩ | ⟨q, q1, q2, q3⟩ | ⟨q, q1, q2, q3, q4⟩) <;> first | omega | exact hr (by assumption))]
    have k0 : ((3 : Int) == 0) = false := rfl
    have k1 : ((3 : Int) == 1) = false := rfl
    have k2 : ((3 : Int) == 2) = false := rfl
    have k3 : ((3 : Int) == 3) = true := rfl
    have cr : (v.r == 0) = false := bne hr
    rw [hk]
    clear hk
    go_enter Try.func82, Try.ntmps82
    go_wp2_with fail
    all_goals (go_ret; exact ⟨by first | rfl | simp [*], kb_alloc2 _ _ _ _⟩)
  have cr : (v.r == 0) = true := by simpa using hr
  by_cases hs : v.x.size ≤ 4000
  rotate_left
  · rw [dc_f (by rintro (⟨q, q1, q2, q3⟩ | ⟨q, q1, q2⟩ | ⟨q, q1, q2, q3⟩ | ⟨q, q1, q2, q3, q4⟩) <;> first | omega | exact hs (by assumption))]
    have k0 : ((3 : Int) == 0) = false := rfl
    have k1 : ((3 : Int) == 1) = false := rfl
    have k2 : ((3 : Int) == 2) = false := rfl
    have k3 : ((3 : Int) == 3) = true := rfl
    have cs : ¬ (v.x.size : Int) ≤ 4000 := by omega
    rw [hk]
    clear hk
    go_enter Try.func82, Try.ntmps82
    go_wp2_with fail
    all_goals (go_ret; exact ⟨by first | rfl | simp [*], kb_alloc2 _ _ _ _⟩)
  have cs : (v.x.size : Int) ≤ 4000 := by omega
  · rw [dc_t (.inr (.inr (.inl ⟨hk, hm, hr, hs⟩)))]
    have k0 : ((3 : Int) == 0) = false := rfl
    have k1 : ((3 : Int) == 1) = false := rfl
    have k2 : ((3 : Int) == 2) = false := rfl
    have k3 : ((3 : Int) == 3) = true := rfl
    rw [hk]
    clear hk
    go_enter Try.func82, Try.ntmps82
    go_wp2_with fail
    all_goals (go_ret; exact ⟨by first | rfl | simp [*], kb_alloc2 _ _ _ _⟩)
set_option maxHeartbeats 8000000 in
theorem im_val_4 {n : Nat} (v : Gv) (hxs : (v.x.size : Int) < 140737488355328) (hn : (n : Int) < 140737488355328) (hk : v.k = 4) (w : World) : Calls Try.prog 82 #[gvv v, .int .i64 (n : Int)] w fun e w' => e = .returned (.bool (dc (Vok n v))) ∧ Kb 0 w w' := by
  unfold gvv
  by_cases hp : 0 ≤ v.r
  rotate_left
  · rw [dc_f (by rintro (⟨q, q1, q2, q3⟩ | ⟨q, q1, q2⟩ | ⟨q, q1, q2, q3⟩ | ⟨q, q1, q2, q3, q4⟩) <;> first | omega | exact hp (by assumption))]
    have k0 : ((4 : Int) == 0) = false := rfl
    have k1 : ((4 : Int) == 1) = false := rfl
    have k2 : ((4 : Int) == 2) = false := rfl
    have k3 : ((4 : Int) == 3) = false := rfl
    have k4 : ((4 : Int) == 4) = true := rfl
    have hp2 : v.r < 0 := by omega
    clear hp
    rw [hk]
    clear hk
    go_enter Try.func82, Try.ntmps82
    go_wp2_with fail
    all_goals (go_ret; exact ⟨by first | rfl | simp [*], kb_alloc2 _ _ _ _⟩)
  by_cases hq : v.r < (n : Int)
  rotate_left
  · rw [dc_f (by rintro (⟨q, q1, q2, q3⟩ | ⟨q, q1, q2⟩ | ⟨q, q1, q2, q3⟩ | ⟨q, q1, q2, q3, q4⟩) <;> first | omega | exact hq (by assumption))]
    have k0 : ((4 : Int) == 0) = false := rfl
    have k1 : ((4 : Int) == 1) = false := rfl
    have k2 : ((4 : Int) == 2) = false := rfl
    have k3 : ((4 : Int) == 3) = false := rfl
    have k4 : ((4 : Int) == 4) = true := rfl
    have hq2 : (n : Int) ≤ v.r := by omega
    clear hq
    rw [hk]
    clear hk
    go_enter Try.func82, Try.ntmps82
    go_wp2_with fail
    all_goals (go_ret; exact ⟨by first | rfl | simp [*], kb_alloc2 _ _ _ _⟩)
  clear hn hxs
  obtain ⟨N, hN⟩ : ∃ N : Int, N = (n : Int) := ⟨_, rfl⟩
  rw [← hN] at hq ⊢
  by_cases hm : v.m = 0
  rotate_left
  · rw [dc_f (by rintro (⟨q, q1, q2, q3⟩ | ⟨q, q1, q2⟩ | ⟨q, q1, q2, q3⟩ | ⟨q, q1, q2, q3, q4⟩) <;> first | omega | exact hm (by assumption))]
    have k0 : ((4 : Int) == 0) = false := rfl
    have k1 : ((4 : Int) == 1) = false := rfl
    have k2 : ((4 : Int) == 2) = false := rfl
    have k3 : ((4 : Int) == 3) = false := rfl
    have k4 : ((4 : Int) == 4) = true := rfl
    have cm : (v.m == 0) = false := bne hm
    clear hN
    rw [hk]
    clear hk
    go_enter Try.func82, Try.ntmps82
    go_wp2_with fail
    all_goals (go_ret; exact ⟨by first | rfl | simp [*], kb_alloc2 _ _ _ _⟩)
  have cm : (v.m == 0) = true := by simpa using hm
  by_cases hx : v.x = ⟨#[]⟩
  rotate_left
  · rw [dc_f (by rintro (⟨q, q1, q2, q3⟩ | ⟨q, q1, q2⟩ | ⟨q, q1, q2, q3⟩ | ⟨q, q1, q2, q3, q4⟩) <;> first | omega | exact hx (by assumption))]
    have k0 : ((4 : Int) == 0) = false := rfl
    have k1 : ((4 : Int) == 1) = false := rfl
    have k2 : ((4 : Int) == 2) = false := rfl
    have k3 : ((4 : Int) == 3) = false := rfl
    have k4 : ((4 : Int) == 4) = true := rfl
    have cx := str1 hx
    clear hN
    rw [hk]
    clear hk
    go_enter Try.func82, Try.ntmps82
    go_wp2_with fail
    all_goals (go_ret; exact ⟨by first | rfl | simp [*], kb_alloc2 _ _ _ _⟩)
  have cx := str0 hx
  have cz : (v.x.size : Int) ≤ 4000 := by rw [em0 hx]; omega
  · rw [dc_t (.inr (.inr (.inr ⟨hk, hm, hx, hp, hN ▸ hq⟩)))]
    have k0 : ((4 : Int) == 0) = false := rfl
    have k1 : ((4 : Int) == 1) = false := rfl
    have k2 : ((4 : Int) == 2) = false := rfl
    have k3 : ((4 : Int) == 3) = false := rfl
    have k4 : ((4 : Int) == 4) = true := rfl
    clear hN
    rw [hk]
    clear hk
    go_enter Try.func82, Try.ntmps82
    go_wp2_with fail
    all_goals (go_ret; exact ⟨by first | rfl | simp [*], kb_alloc2 _ _ _ _⟩)
set_option maxHeartbeats 8000000 in
theorem im_val_x {n : Nat} (v : Gv) (h0 : v.k ≠ 0) (h1 : v.k ≠ 1) (h2 : v.k ≠ 2) (h3 : v.k ≠ 3) (h4 : v.k ≠ 4) (w : World) : Calls Try.prog 82 #[gvv v, .int .i64 (n : Int)] w fun e w' => e = .returned (.bool (dc (Vok n v))) ∧ Kb 0 w w' := by
  unfold gvv
  rw [dc_f (by rintro (⟨q, _⟩ | ⟨q, _⟩ | ⟨q, _⟩ | ⟨q, _⟩) <;> omega)]
  have k0 := bne h0
  have k1 := bne h1
  have k2 := bne h2
  have k3 := bne h3
  have k4 := bne h4
  go_enter Try.func82, Try.ntmps82
  go_wp2_with fail
  go_ret
  exact ⟨rfl, kb_alloc2 _ _ _ _⟩
theorem im_val {n : Nat} (v : Gv) (hxs : (v.x.size : Int) < 140737488355328) (hn : (n : Int) < 140737488355328) (w : World) : Calls Try.prog 82 #[gvv v, .int .i64 (n : Int)] w fun e w' => e = .returned (.bool (dc (Vok n v))) ∧ Kb 0 w w' := by
  by_cases h0 : v.k = 0
  · exact im_val_0 v hxs hn h0 w
  by_cases h1 : v.k = 1
  · exact im_val_1 v hxs hn h1 w
  by_cases h2 : v.k = 2
  · exact im_val_2 v hxs hn h2 w
  by_cases h3 : v.k = 3
  · exact im_val_3 v hxs hn h3 w
  by_cases h4 : v.k = 4
  · exact im_val_4 v hxs hn h4 w
  exact im_val_x v h0 h1 h2 h3 h4 w
end Go.Proofs.Ytdkmnggdelchkaa.Fo
