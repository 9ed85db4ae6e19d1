import Derived.Test.YtfpidccjcemcjaaVac
namespace Go.Proofs.Ytfpidccjcemcjaa
open Go.ChangeShapes Go.WideShapes Go.ChangeAt Go.RowKit
set_option linter.unusedVariables false
set_option maxRecDepth 100000
attribute [local go_sem] run_equalIn_flt
set_option maxRecDepth 100000 in
set_option maxHeartbeats 4000000 in
theorem im_ok2 (v : Vv) (hk : v.k = 2) (hx : (v.x.size : Int) ≤ 1048576) (w : World) : Calls Try.prog 49 #[vv v] w fun e w' => e = .returned (.bool (dc (vok v))) ∧ Grown w w' := by
  have hv := vok2 hk
  by_cases hg : fz v.g
  case neg =>
    rw [dc_f (fun h => by have h1 := (hv.1 h).1; unfold zr at h1; simp_all)]
    obtain ⟨k, m, g, x, r⟩ := v
    unfold vv
    dsimp only at hk hx hg ⊢
    unfold fz at hg
    subst hk
    clear hv
    have hst : ∀ (a : Addr) (n : Nat) (m : Mode) (w : World), (store a (.float .f64 n) m).run Try.prog w = stored Try.prog w a (.float .f64 n) m := fun a n m w => run_store _ _ _ _ _ rfl
    go_enter Try.func49, Try.ntmps49
    go_wp2_with fail
    go_ret
    exact ⟨by first | rfl | simp [*], by go_grown⟩
  by_cases ht : v.x.toList = []
  case neg =>
    rw [dc_f (fun h => by have h1 := (hv.1 h).1; unfold zr at h1; simp_all)]
    obtain ⟨k, m, g, x, r⟩ := v
    unfold vv
    dsimp only at hk hx hg ht ⊢
    unfold fz at hg
    subst hk
    clear hv
    have hst : ∀ (a : Addr) (n : Nat) (m : Mode) (w : World), (store a (.float .f64 n) m).run Try.prog w = stored Try.prog w a (.float .f64 n) m := fun a n m w => run_store _ _ _ _ _ rfl
    go_enter Try.func49, Try.ntmps49
    go_wp2_with fail
    go_ret
    exact ⟨by first | rfl | simp [*], by go_grown⟩
  by_cases hr : v.r = 0
  case neg =>
    rw [dc_f (fun h => by have h1 := (hv.1 h).1; unfold zr at h1; simp_all)]
    obtain ⟨k, m, g, x, r⟩ := v
    unfold vv
    dsimp only at hk hx hg ht hr ⊢
    unfold fz at hg
    subst hk
    clear hv
    have hst : ∀ (a : Addr) (n : Nat) (m : Mode) (w : World), (store a (.float .f64 n) m).run Try.prog w = stored Try.prog w a (.float .f64 n) m := fun a n m w => run_store _ _ _ _ _ rfl
    go_enter Try.func49, Try.ntmps49
    go_wp2_with fail
    go_ret
    exact ⟨by first | rfl | simp [*], by go_grown⟩
  rw [dc_t (hv.2 ⟨by unfold zr; simp_all, trivial⟩)]
  obtain ⟨k, m, g, x, r⟩ := v
  unfold vv
  dsimp only at hk hx hg ht hr ⊢
  unfold fz at hg
  subst hk
  clear hv
  have hst : ∀ (a : Addr) (n : Nat) (m : Mode) (w : World), (store a (.float .f64 n) m).run Try.prog w = stored Try.prog w a (.float .f64 n) m := fun a n m w => run_store _ _ _ _ _ rfl
  go_enter Try.func49, Try.ntmps49
  go_wp2_with fail
  go_ret
  exact ⟨by first | rfl | simp [*], by go_grown⟩
set_option maxRecDepth 100000 in
set_option maxHeartbeats 4000000 in
theorem im_ok3 (v : Vv) (hk : v.k = 3) (hx : (v.x.size : Int) ≤ 1048576) (w : World) : Calls Try.prog 49 #[vv v] w fun e w' => e = .returned (.bool (dc (vok v))) ∧ Grown w w' := by
  have hv := vok3 hk
  by_cases hm : v.m = 0
  case neg =>
    rw [dc_f (fun h => by have h1 := (hv.1 h).1; unfold zr at h1; simp_all)]
    obtain ⟨k, m, g, x, r⟩ := v
    unfold vv
    dsimp only at hk hx hm ⊢
    subst hk
    clear hv
    have hst : ∀ (a : Addr) (n : Nat) (m : Mode) (w : World), (store a (.float .f64 n) m).run Try.prog w = stored Try.prog w a (.float .f64 n) m := fun a n m w => run_store _ _ _ _ _ rfl
    go_enter Try.func49, Try.ntmps49
    go_wp2_with fail
    go_ret
    exact ⟨by first | rfl | simp [*], by go_grown⟩
  by_cases ht : v.x.toList = []
  case neg =>
    rw [dc_f (fun h => by have h1 := (hv.1 h).1; unfold zr at h1; simp_all)]
    obtain ⟨k, m, g, x, r⟩ := v
    unfold vv
    dsimp only at hk hx hm ht ⊢
    subst hk
    clear hv
    have hst : ∀ (a : Addr) (n : Nat) (m : Mode) (w : World), (store a (.float .f64 n) m).run Try.prog w = stored Try.prog w a (.float .f64 n) m := fun a n m w => run_store _ _ _ _ _ rfl
    go_enter Try.func49, Try.ntmps49
    go_wp2_with fail
    go_ret
    exact ⟨by first | rfl | simp [*], by go_grown⟩
  by_cases hr : v.r = 0
  case neg =>
    rw [dc_f (fun h => by have h1 := (hv.1 h).1; unfold zr at h1; simp_all)]
    obtain ⟨k, m, g, x, r⟩ := v
    unfold vv
    dsimp only at hk hx hm ht hr ⊢
    subst hk
    clear hv
    have hst : ∀ (a : Addr) (n : Nat) (m : Mode) (w : World), (store a (.float .f64 n) m).run Try.prog w = stored Try.prog w a (.float .f64 n) m := fun a n m w => run_store _ _ _ _ _ rfl
    go_enter Try.func49, Try.ntmps49
    go_wp2_with fail
    go_ret
    exact ⟨by first | rfl | simp [*], by go_grown⟩
  rw [dc_t (hv.2 ⟨by unfold zr; simp_all, trivial⟩)]
  obtain ⟨k, m, g, x, r⟩ := v
  unfold vv
  dsimp only at hk hx hm ht hr ⊢
  subst hk
  clear hv
  have hst : ∀ (a : Addr) (n : Nat) (m : Mode) (w : World), (store a (.float .f64 n) m).run Try.prog w = stored Try.prog w a (.float .f64 n) m := fun a n m w => run_store _ _ _ _ _ rfl
  go_enter Try.func49, Try.ntmps49
  go_wp2_with fail
  go_ret
  exact ⟨by first | rfl | simp [*], by go_grown⟩
set_option maxRecDepth 100000 in
set_option maxHeartbeats 4000000 in
theorem im_ok4 (v : Vv) (hk : v.k = 4) (hx : (v.x.size : Int) ≤ 1048576) (w : World) : Calls Try.prog 49 #[vv v] w fun e w' => e = .returned (.bool (dc (vok v))) ∧ Grown w w' := by
  have hv := vok4 hk
  by_cases q1 : v.x.size ≤ 4000
  case neg =>
    have q1i : ¬ (v.x.size : Int) ≤ 4000 := by omega
    rw [dc_f (fun h => q1 (hv.1 h).2)]
    obtain ⟨k, m, g, x, r⟩ := v
    unfold vv
    dsimp only at hk hx q1 q1i ⊢
    subst hk
    clear hv
    have hst : ∀ (a : Addr) (n : Nat) (m : Mode) (w : World), (store a (.float .f64 n) m).run Try.prog w = stored Try.prog w a (.float .f64 n) m := fun a n m w => run_store _ _ _ _ _ rfl
    go_enter Try.func49, Try.ntmps49
    go_wp2_with fail
    go_ret
    exact ⟨by first | rfl | simp [*], by go_grown⟩
  have q1i : (v.x.size : Int) ≤ 4000 := by omega
  by_cases hm : v.m = 0
  case neg =>
    rw [dc_f (fun h => by have h1 := (hv.1 h).1; unfold zr at h1; simp_all)]
    obtain ⟨k, m, g, x, r⟩ := v
    unfold vv
    dsimp only at hk hx q1 q1i hm ⊢
    subst hk
    clear hv
    have hst : ∀ (a : Addr) (n : Nat) (m : Mode) (w : World), (store a (.float .f64 n) m).run Try.prog w = stored Try.prog w a (.float .f64 n) m := fun a n m w => run_store _ _ _ _ _ rfl
    go_enter Try.func49, Try.ntmps49
    go_wp2_with fail
    go_ret
    exact ⟨by first | rfl | simp [*], by go_grown⟩
  by_cases hg : fz v.g
  case neg =>
    rw [dc_f (fun h => by have h1 := (hv.1 h).1; unfold zr at h1; simp_all)]
    obtain ⟨k, m, g, x, r⟩ := v
    unfold vv
    dsimp only at hk hx q1 q1i hm hg ⊢
    unfold fz at hg
    subst hk
    clear hv
    have hst : ∀ (a : Addr) (n : Nat) (m : Mode) (w : World), (store a (.float .f64 n) m).run Try.prog w = stored Try.prog w a (.float .f64 n) m := fun a n m w => run_store _ _ _ _ _ rfl
    go_enter Try.func49, Try.ntmps49
    go_wp2_with fail
    go_ret
    exact ⟨by first | rfl | simp [*], by go_grown⟩
  by_cases hr : v.r = 0
  case neg =>
    rw [dc_f (fun h => by have h1 := (hv.1 h).1; unfold zr at h1; simp_all)]
    obtain ⟨k, m, g, x, r⟩ := v
    unfold vv
    dsimp only at hk hx q1 q1i hm hg hr ⊢
    unfold fz at hg
    subst hk
    clear hv
    have hst : ∀ (a : Addr) (n : Nat) (m : Mode) (w : World), (store a (.float .f64 n) m).run Try.prog w = stored Try.prog w a (.float .f64 n) m := fun a n m w => run_store _ _ _ _ _ rfl
    go_enter Try.func49, Try.ntmps49
    go_wp2_with fail
    go_ret
    exact ⟨by first | rfl | simp [*], by go_grown⟩
  rw [dc_t (hv.2 ⟨by unfold zr; simp_all, q1⟩)]
  obtain ⟨k, m, g, x, r⟩ := v
  unfold vv
  dsimp only at hk hx q1 q1i hm hg hr ⊢
  unfold fz at hg
  subst hk
  clear hv
  have hst : ∀ (a : Addr) (n : Nat) (m : Mode) (w : World), (store a (.float .f64 n) m).run Try.prog w = stored Try.prog w a (.float .f64 n) m := fun a n m w => run_store _ _ _ _ _ rfl
  go_enter Try.func49, Try.ntmps49
  go_wp2_with fail
  go_ret
  exact ⟨by first | rfl | simp [*], by go_grown⟩
set_option maxRecDepth 100000 in
set_option maxHeartbeats 4000000 in
theorem im_ok5 (v : Vv) (hk : v.k = 5) (hx : (v.x.size : Int) ≤ 1048576) (w : World) : Calls Try.prog 49 #[vv v] w fun e w' => e = .returned (.bool (dc (vok v))) ∧ Grown w w' := by
  have hv := vok5 hk
  by_cases q1 : 0 ≤ v.r
  case neg =>
    rw [dc_f (fun h => q1 (hv.1 h).2)]
    obtain ⟨k, m, g, x, r⟩ := v
    unfold vv
    dsimp only at hk hx q1 ⊢
    subst hk
    clear hv
    have hst : ∀ (a : Addr) (n : Nat) (m : Mode) (w : World), (store a (.float .f64 n) m).run Try.prog w = stored Try.prog w a (.float .f64 n) m := fun a n m w => run_store _ _ _ _ _ rfl
    go_enter Try.func49, Try.ntmps49
    go_wp2_with fail
    go_ret
    exact ⟨by first | rfl | simp [*], by go_grown⟩
  by_cases hm : v.m = 0
  case neg =>
    rw [dc_f (fun h => by have h1 := (hv.1 h).1; unfold zr at h1; simp_all)]
    obtain ⟨k, m, g, x, r⟩ := v
    unfold vv
    dsimp only at hk hx q1 hm ⊢
    subst hk
    clear hv
    have hst : ∀ (a : Addr) (n : Nat) (m : Mode) (w : World), (store a (.float .f64 n) m).run Try.prog w = stored Try.prog w a (.float .f64 n) m := fun a n m w => run_store _ _ _ _ _ rfl
    go_enter Try.func49, Try.ntmps49
    go_wp2_with fail
    go_ret
    exact ⟨by first | rfl | simp [*], by go_grown⟩
  by_cases hg : fz v.g
  case neg =>
    rw [dc_f (fun h => by have h1 := (hv.1 h).1; unfold zr at h1; simp_all)]
    obtain ⟨k, m, g, x, r⟩ := v
    unfold vv
    dsimp only at hk hx q1 hm hg ⊢
    unfold fz at hg
    subst hk
    clear hv
    have hst : ∀ (a : Addr) (n : Nat) (m : Mode) (w : World), (store a (.float .f64 n) m).run Try.prog w = stored Try.prog w a (.float .f64 n) m := fun a n m w => run_store _ _ _ _ _ rfl
    go_enter Try.func49, Try.ntmps49
    go_wp2_with fail
    go_ret
    exact ⟨by first | rfl | simp [*], by go_grown⟩
  by_cases ht : v.x.toList = []
  case neg =>
    rw [dc_f (fun h => by have h1 := (hv.1 h).1; unfold zr at h1; simp_all)]
    obtain ⟨k, m, g, x, r⟩ := v
    unfold vv
    dsimp only at hk hx q1 hm hg ht ⊢
    unfold fz at hg
    subst hk
    clear hv
    have hst : ∀ (a : Addr) (n : Nat) (m : Mode) (w : World), (store a (.float .f64 n) m).run Try.prog w = stored Try.prog w a (.float .f64 n) m := fun a n m w => run_store _ _ _ _ _ rfl
    go_enter Try.func49, Try.ntmps49
    go_wp2_with fail
    go_ret
    exact ⟨by first | rfl | simp [*], by go_grown⟩
  rw [dc_t (hv.2 ⟨by unfold zr; simp_all, q1⟩)]
  obtain ⟨k, m, g, x, r⟩ := v
  unfold vv
  dsimp only at hk hx q1 hm hg ht ⊢
  unfold fz at hg
  subst hk
  clear hv
  have hst : ∀ (a : Addr) (n : Nat) (m : Mode) (w : World), (store a (.float .f64 n) m).run Try.prog w = stored Try.prog w a (.float .f64 n) m := fun a n m w => run_store _ _ _ _ _ rfl
  go_enter Try.func49, Try.ntmps49
  go_wp2_with fail
  go_ret
  exact ⟨by first | rfl | simp [*], by go_grown⟩
end Go.Proofs.Ytfpidccjcemcjaa
