import Derived.Test.YtfpidccjcemcjaaVac
namespace Go.Proofs.Ytfpidccjcemcjaa
open Go.ChangeShapes Go.WideShapes Go.ChangeAt Go.RowKit
set_option linter.unusedVariables false
set_option maxRecDepth 100000
attribute [local go_sem] run_equalIn_flt
set_option maxRecDepth 100000 in
set_option maxHeartbeats 4000000 in
theorem im_ok6 (v : Vv) (hk : v.k = 6) (hx : (v.x.size : Int) ≤ 1048576) (w : World) : Calls Try.prog 49 #[vv v] w fun e w' => e = .returned (.bool (dc (vok v))) ∧ Grown w w' := by
  have hv := vok6 hk
  by_cases q1 : 0 ≤ v.r
  case neg =>
    rw [dc_f (fun h => q1 (hv.1 h).2)]
    obtain ⟨k, m, g, x, r⟩ := v
    unfold vv
    dsimp only at hk hx q1 ⊢
    subst hk
    clear hv
    have hst : ∀ (a : Addr) (n : Nat) (m : Mode) (w : World), (store a (.float .f64 n) m).run Try.prog w = stored Try.prog w a (.float .f64 n) m := fun a n m w => run_store _ _ _ _ _ rfl
    go_enter Try.func49, Try.ntmps49
    go_wp2_with fail
    go_ret
    exact ⟨by first | rfl | simp [*], by go_grown⟩
  by_cases hm : v.m = 0
  case neg =>
    rw [dc_f (fun h => by have h1 := (hv.1 h).1; unfold zr at h1; simp_all)]
    obtain ⟨k, m, g, x, r⟩ := v
    unfold vv
    dsimp only at hk hx q1 hm ⊢
    subst hk
    clear hv
    have hst : ∀ (a : Addr) (n : Nat) (m : Mode) (w : World), (store a (.float .f64 n) m).run Try.prog w = stored Try.prog w a (.float .f64 n) m := fun a n m w => run_store _ _ _ _ _ rfl
    go_enter Try.func49, Try.ntmps49
    go_wp2_with fail
    go_ret
    exact ⟨by first | rfl | simp [*], by go_grown⟩
  by_cases hg : fz v.g
  case neg =>
    rw [dc_f (fun h => by have h1 := (hv.1 h).1; unfold zr at h1; simp_all)]
    obtain ⟨k, m, g, x, r⟩ := v
    unfold vv
    dsimp only at hk hx q1 hm hg ⊢
    unfold fz at hg
    subst hk
    clear hv
    have hst : ∀ (a : Addr) (n : Nat) (m : Mode) (w : World), (store a (.float .f64 n) m).run Try.prog w = stored Try.prog w a (.float .f64 n) m := fun a n m w => run_store _ _ _ _ _ rfl
    go_enter Try.func49, Try.ntmps49
    go_wp2_with fail
    go_ret
    exact ⟨by first | rfl | simp [*], by go_grown⟩
  by_cases ht : v.x.toList = []
  case neg =>
    rw [dc_f (fun h => by have h1 := (hv.1 h).1; unfold zr at h1; simp_all)]
    obtain ⟨k, m, g, x, r⟩ := v
    unfold vv
    dsimp only at hk hx q1 hm hg ht ⊢
    unfold fz at hg
    subst hk
    clear hv
    have hst : ∀ (a : Addr) (n : Nat) (m : Mode) (w : World), (store a (.float .f64 n) m).run Try.prog w = stored Try.prog w a (.float .f64 n) m := fun a n m w => run_store _ _ _ _ _ rfl
    go_enter Try.func49, Try.ntmps49
    go_wp2_with fail
    go_ret
    exact ⟨by first | rfl | simp [*], by go_grown⟩
  rw [dc_t (hv.2 ⟨by unfold zr; simp_all, q1⟩)]
  obtain ⟨k, m, g, x, r⟩ := v
  unfold vv
  dsimp only at hk hx q1 hm hg ht ⊢
  unfold fz at hg
  subst hk
  clear hv
  have hst : ∀ (a : Addr) (n : Nat) (m : Mode) (w : World), (store a (.float .f64 n) m).run Try.prog w = stored Try.prog w a (.float .f64 n) m := fun a n m w => run_store _ _ _ _ _ rfl
  go_enter Try.func49, Try.ntmps49
  go_wp2_with fail
  go_ret
  exact ⟨by first | rfl | simp [*], by go_grown⟩
set_option maxRecDepth 100000 in
set_option maxHeartbeats 4000000 in
theorem im_ok7 (v : Vv) (hk : v.k = 7) (hx : (v.x.size : Int) ≤ 1048576) (w : World) : Calls Try.prog 49 #[vv v] w fun e w' => e = .returned (.bool (dc (vok v))) ∧ Grown w w' := by
  have hv := vok7 hk
  by_cases q1 : 0 ≤ v.r
  case neg =>
    rw [dc_f (fun h => q1 (hv.1 h).2)]
    obtain ⟨k, m, g, x, r⟩ := v
    unfold vv
    dsimp only at hk hx q1 ⊢
    subst hk
    clear hv
    have hst : ∀ (a : Addr) (n : Nat) (m : Mode) (w : World), (store a (.float .f64 n) m).run Try.prog w = stored Try.prog w a (.float .f64 n) m := fun a n m w => run_store _ _ _ _ _ rfl
    go_enter Try.func49, Try.ntmps49
    go_wp2_with fail
    go_ret
    exact ⟨by first | rfl | simp [*], by go_grown⟩
  by_cases hm : v.m = 0
  case neg =>
    rw [dc_f (fun h => by have h1 := (hv.1 h).1; unfold zr at h1; simp_all)]
    obtain ⟨k, m, g, x, r⟩ := v
    unfold vv
    dsimp only at hk hx q1 hm ⊢
    subst hk
    clear hv
    have hst : ∀ (a : Addr) (n : Nat) (m : Mode) (w : World), (store a (.float .f64 n) m).run Try.prog w = stored Try.prog w a (.float .f64 n) m := fun a n m w => run_store _ _ _ _ _ rfl
    go_enter Try.func49, Try.ntmps49
    go_wp2_with fail
    go_ret
    exact ⟨by first | rfl | simp [*], by go_grown⟩
  by_cases hg : fz v.g
  case neg =>
    rw [dc_f (fun h => by have h1 := (hv.1 h).1; unfold zr at h1; simp_all)]
    obtain ⟨k, m, g, x, r⟩ := v
    unfold vv
    dsimp only at hk hx q1 hm hg ⊢
    unfold fz at hg
    subst hk
    clear hv
    have hst : ∀ (a : Addr) (n : Nat) (m : Mode) (w : World), (store a (.float .f64 n) m).run Try.prog w = stored Try.prog w a (.float .f64 n) m := fun a n m w => run_store _ _ _ _ _ rfl
    go_enter Try.func49, Try.ntmps49
    go_wp2_with fail
    go_ret
    exact ⟨by first | rfl | simp [*], by go_grown⟩
  by_cases ht : v.x.toList = []
  case neg =>
    rw [dc_f (fun h => by have h1 := (hv.1 h).1; unfold zr at h1; simp_all)]
    obtain ⟨k, m, g, x, r⟩ := v
    unfold vv
    dsimp only at hk hx q1 hm hg ht ⊢
    unfold fz at hg
    subst hk
    clear hv
    have hst : ∀ (a : Addr) (n : Nat) (m : Mode) (w : World), (store a (.float .f64 n) m).run Try.prog w = stored Try.prog w a (.float .f64 n) m := fun a n m w => run_store _ _ _ _ _ rfl
    go_enter Try.func49, Try.ntmps49
    go_wp2_with fail
    go_ret
    exact ⟨by first | rfl | simp [*], by go_grown⟩
  rw [dc_t (hv.2 ⟨by unfold zr; simp_all, q1⟩)]
  obtain ⟨k, m, g, x, r⟩ := v
  unfold vv
  dsimp only at hk hx q1 hm hg ht ⊢
  unfold fz at hg
  subst hk
  clear hv
  have hst : ∀ (a : Addr) (n : Nat) (m : Mode) (w : World), (store a (.float .f64 n) m).run Try.prog w = stored Try.prog w a (.float .f64 n) m := fun a n m w => run_store _ _ _ _ _ rfl
  go_enter Try.func49, Try.ntmps49
  go_wp2_with fail
  go_ret
  exact ⟨by first | rfl | simp [*], by go_grown⟩
set_option maxRecDepth 100000 in
set_option maxHeartbeats 4000000 in
theorem im_ok8 (v : Vv) (hk : v.k = 8) (hx : (v.x.size : Int) ≤ 1048576) (w : World) : Calls Try.prog 49 #[vv v] w fun e w' => e = .returned (.bool (dc (vok v))) ∧ Grown w w' := by
  have hv := vok8 hk
  by_cases q1 : 0 ≤ v.m
  case neg =>
    rw [dc_f (fun h => q1 (hv.1 h).2.1)]
    obtain ⟨k, m, g, x, r⟩ := v
    unfold vv
    dsimp only at hk hx q1 ⊢
    subst hk
    clear hv
    have hst : ∀ (a : Addr) (n : Nat) (m : Mode) (w : World), (store a (.float .f64 n) m).run Try.prog w = stored Try.prog w a (.float .f64 n) m := fun a n m w => run_store _ _ _ _ _ rfl
    go_enter Try.func49, Try.ntmps49
    go_wp2_with fail
    go_ret
    exact ⟨by first | rfl | simp [*], by go_grown⟩
  by_cases q2 : v.m < 15
  case neg =>
    rw [dc_f (fun h => q2 (hv.1 h).2.2)]
    obtain ⟨k, m, g, x, r⟩ := v
    unfold vv
    dsimp only at hk hx q1 q2 ⊢
    subst hk
    clear hv
    have hst : ∀ (a : Addr) (n : Nat) (m : Mode) (w : World), (store a (.float .f64 n) m).run Try.prog w = stored Try.prog w a (.float .f64 n) m := fun a n m w => run_store _ _ _ _ _ rfl
    go_enter Try.func49, Try.ntmps49
    go_wp2_with fail
    go_ret
    exact ⟨by first | rfl | simp [*], by go_grown⟩
  by_cases hg : fz v.g
  case neg =>
    rw [dc_f (fun h => by have h1 := (hv.1 h).1; unfold zr at h1; simp_all)]
    obtain ⟨k, m, g, x, r⟩ := v
    unfold vv
    dsimp only at hk hx q1 q2 hg ⊢
    unfold fz at hg
    subst hk
    clear hv
    have hst : ∀ (a : Addr) (n : Nat) (m : Mode) (w : World), (store a (.float .f64 n) m).run Try.prog w = stored Try.prog w a (.float .f64 n) m := fun a n m w => run_store _ _ _ _ _ rfl
    go_enter Try.func49, Try.ntmps49
    go_wp2_with fail
    go_ret
    exact ⟨by first | rfl | simp [*], by go_grown⟩
  by_cases ht : v.x.toList = []
  case neg =>
    rw [dc_f (fun h => by have h1 := (hv.1 h).1; unfold zr at h1; simp_all)]
    obtain ⟨k, m, g, x, r⟩ := v
    unfold vv
    dsimp only at hk hx q1 q2 hg ht ⊢
    unfold fz at hg
    subst hk
    clear hv
    have hst : ∀ (a : Addr) (n : Nat) (m : Mode) (w : World), (store a (.float .f64 n) m).run Try.prog w = stored Try.prog w a (.float .f64 n) m := fun a n m w => run_store _ _ _ _ _ rfl
    go_enter Try.func49, Try.ntmps49
    go_wp2_with fail
    go_ret
    exact ⟨by first | rfl | simp [*], by go_grown⟩
  by_cases hr : v.r = 0
  case neg =>
    rw [dc_f (fun h => by have h1 := (hv.1 h).1; unfold zr at h1; simp_all)]
    obtain ⟨k, m, g, x, r⟩ := v
    unfold vv
    dsimp only at hk hx q1 q2 hg ht hr ⊢
    unfold fz at hg
    subst hk
    clear hv
    have hst : ∀ (a : Addr) (n : Nat) (m : Mode) (w : World), (store a (.float .f64 n) m).run Try.prog w = stored Try.prog w a (.float .f64 n) m := fun a n m w => run_store _ _ _ _ _ rfl
    go_enter Try.func49, Try.ntmps49
    go_wp2_with fail
    go_ret
    exact ⟨by first | rfl | simp [*], by go_grown⟩
  rw [dc_t (hv.2 ⟨by unfold zr; simp_all, q1, q2⟩)]
  obtain ⟨k, m, g, x, r⟩ := v
  unfold vv
  dsimp only at hk hx q1 q2 hg ht hr ⊢
  unfold fz at hg
  subst hk
  clear hv
  have hst : ∀ (a : Addr) (n : Nat) (m : Mode) (w : World), (store a (.float .f64 n) m).run Try.prog w = stored Try.prog w a (.float .f64 n) m := fun a n m w => run_store _ _ _ _ _ rfl
  go_enter Try.func49, Try.ntmps49
  go_wp2_with fail
  go_ret
  exact ⟨by first | rfl | simp [*], by go_grown⟩
end Go.Proofs.Ytfpidccjcemcjaa
