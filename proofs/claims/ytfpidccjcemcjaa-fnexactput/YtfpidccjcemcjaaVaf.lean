import Derived.Test.YtfpidccjcemcjaaVac
namespace Go.Proofs.Ytfpidccjcemcjaa
open Go.ChangeShapes Go.WideShapes Go.ChangeAt Go.RowKit
set_option linter.unusedVariables false
set_option maxRecDepth 100000
attribute [local go_sem] run_equalIn_flt
set_option maxRecDepth 100000 in
set_option maxHeartbeats 4000000 in
theorem sp_ok6 (v : Vv) (hk : v.k = 6) (hx : (v.x.size : Int) ≤ 1048576) (w : World) : Calls Try.prog 31 #[vv v] w fun e w' => e = .returned (.bool (dc (vok v))) ∧ Grown w w' := by
  have hv := vok6 hk
  have hz := fun w => sp_zero_ffft v w
  by_cases q1 : 0 ≤ v.r
  case neg =>
    by_cases p : zr v false false false true
    case neg =>
      rw [dc_f p] at hz
      rw [dc_f (fun h => p (hv.1 h).1)]
      obtain ⟨k, m, g, x, r⟩ := v
      unfold vv at hz ⊢
      dsimp only at hk hx hz q1 ⊢
      subst hk
      clear hv p
      have hst : ∀ (a : Addr) (n : Nat) (m : Mode) (w : World), (store a (.float .f64 n) m).run Try.prog w = stored Try.prog w a (.float .f64 n) m := fun a n m w => run_store _ _ _ _ _ rfl
      go_enter Try.func31, Try.ntmps31
      go_wp2_with (go_at_call 58; refine (hz _).mono ?_; rintro e w1 ⟨rfl, g1⟩; obtain ⟨c0, c1, c2, c3, c4⟩ := (Vc.new w _ _ _ _ _ _).grown g1)
      go_ret
      exact ⟨by first | rfl | simp [*], by first | exact g1 | (refine Grown.trans ?_ g1; go_grown) | go_grown⟩
    rw [dc_t p] at hz
    rw [dc_f (fun h => q1 (hv.1 h).2)]
    obtain ⟨k, m, g, x, r⟩ := v
    unfold vv at hz ⊢
    dsimp only at hk hx hz q1 ⊢
    subst hk
    clear hv p
    have hst : ∀ (a : Addr) (n : Nat) (m : Mode) (w : World), (store a (.float .f64 n) m).run Try.prog w = stored Try.prog w a (.float .f64 n) m := fun a n m w => run_store _ _ _ _ _ rfl
    go_enter Try.func31, Try.ntmps31
    go_wp2_with (go_at_call 58; refine (hz _).mono ?_; rintro e w1 ⟨rfl, g1⟩; obtain ⟨c0, c1, c2, c3, c4⟩ := (Vc.new w _ _ _ _ _ _).grown g1)
    go_ret
    exact ⟨by first | rfl | simp [*], by first | exact g1 | (refine Grown.trans ?_ g1; go_grown) | go_grown⟩
  by_cases p : zr v false false false true
  case neg =>
    rw [dc_f p] at hz
    rw [dc_f (fun h => p (hv.1 h).1)]
    obtain ⟨k, m, g, x, r⟩ := v
    unfold vv at hz ⊢
    dsimp only at hk hx hz q1 ⊢
    subst hk
    clear hv p
    have hst : ∀ (a : Addr) (n : Nat) (m : Mode) (w : World), (store a (.float .f64 n) m).run Try.prog w = stored Try.prog w a (.float .f64 n) m := fun a n m w => run_store _ _ _ _ _ rfl
    go_enter Try.func31, Try.ntmps31
    go_wp2_with (go_at_call 58; refine (hz _).mono ?_; rintro e w1 ⟨rfl, g1⟩; obtain ⟨c0, c1, c2, c3, c4⟩ := (Vc.new w _ _ _ _ _ _).grown g1)
    go_ret
    exact ⟨by first | rfl | simp [*], by first | exact g1 | (refine Grown.trans ?_ g1; go_grown) | go_grown⟩
  rw [dc_t p] at hz
  rw [dc_t (hv.2 ⟨p, q1⟩)]
  obtain ⟨k, m, g, x, r⟩ := v
  unfold vv at hz ⊢
  dsimp only at hk hx hz q1 ⊢
  subst hk
  clear hv p
  have hst : ∀ (a : Addr) (n : Nat) (m : Mode) (w : World), (store a (.float .f64 n) m).run Try.prog w = stored Try.prog w a (.float .f64 n) m := fun a n m w => run_store _ _ _ _ _ rfl
  go_enter Try.func31, Try.ntmps31
  go_wp2_with (go_at_call 58; refine (hz _).mono ?_; rintro e w1 ⟨rfl, g1⟩; obtain ⟨c0, c1, c2, c3, c4⟩ := (Vc.new w _ _ _ _ _ _).grown g1)
  go_ret
  exact ⟨by first | rfl | simp [*], by first | exact g1 | (refine Grown.trans ?_ g1; go_grown) | go_grown⟩
set_option maxRecDepth 100000 in
set_option maxHeartbeats 4000000 in
theorem sp_ok7 (v : Vv) (hk : v.k = 7) (hx : (v.x.size : Int) ≤ 1048576) (w : World) : Calls Try.prog 31 #[vv v] w fun e w' => e = .returned (.bool (dc (vok v))) ∧ Grown w w' := by
  have hv := vok7 hk
  have hz := fun w => sp_zero_ffft v w
  by_cases q1 : 0 ≤ v.r
  case neg =>
    by_cases p : zr v false false false true
    case neg =>
      rw [dc_f p] at hz
      rw [dc_f (fun h => p (hv.1 h).1)]
      obtain ⟨k, m, g, x, r⟩ := v
      unfold vv at hz ⊢
      dsimp only at hk hx hz q1 ⊢
      subst hk
      clear hv p
      have hst : ∀ (a : Addr) (n : Nat) (m : Mode) (w : World), (store a (.float .f64 n) m).run Try.prog w = stored Try.prog w a (.float .f64 n) m := fun a n m w => run_store _ _ _ _ _ rfl
      go_enter Try.func31, Try.ntmps31
      go_wp2_with (go_at_call 58; refine (hz _).mono ?_; rintro e w1 ⟨rfl, g1⟩; obtain ⟨c0, c1, c2, c3, c4⟩ := (Vc.new w _ _ _ _ _ _).grown g1)
      go_ret
      exact ⟨by first | rfl | simp [*], by first | exact g1 | (refine Grown.trans ?_ g1; go_grown) | go_grown⟩
    rw [dc_t p] at hz
    rw [dc_f (fun h => q1 (hv.1 h).2)]
    obtain ⟨k, m, g, x, r⟩ := v
    unfold vv at hz ⊢
    dsimp only at hk hx hz q1 ⊢
    subst hk
    clear hv p
    have hst : ∀ (a : Addr) (n : Nat) (m : Mode) (w : World), (store a (.float .f64 n) m).run Try.prog w = stored Try.prog w a (.float .f64 n) m := fun a n m w => run_store _ _ _ _ _ rfl
    go_enter Try.func31, Try.ntmps31
    go_wp2_with (go_at_call 58; refine (hz _).mono ?_; rintro e w1 ⟨rfl, g1⟩; obtain ⟨c0, c1, c2, c3, c4⟩ := (Vc.new w _ _ _ _ _ _).grown g1)
    go_ret
    exact ⟨by first | rfl | simp [*], by first | exact g1 | (refine Grown.trans ?_ g1; go_grown) | go_grown⟩
  by_cases p : zr v false false false true
  case neg =>
    rw [dc_f p] at hz
    rw [dc_f (fun h => p (hv.1 h).1)]
    obtain ⟨k, m, g, x, r⟩ := v
    unfold vv at hz ⊢
    dsimp only at hk hx hz q1 ⊢
    subst hk
    clear hv p
    have hst : ∀ (a : Addr) (n : Nat) (m : Mode) (w : World), (store a (.float .f64 n) m).run Try.prog w = stored Try.prog w a (.float .f64 n) m := fun a n m w => run_store _ _ _ _ _ rfl
    go_enter Try.func31, Try.ntmps31
    go_wp2_with (go_at_call 58; refine (hz _).mono ?_; rintro e w1 ⟨rfl, g1⟩; obtain ⟨c0, c1, c2, c3, c4⟩ := (Vc.new w _ _ _ _ _ _).grown g1)
    go_ret
    exact ⟨by first | rfl | simp [*], by first | exact g1 | (refine Grown.trans ?_ g1; go_grown) | go_grown⟩
  rw [dc_t p] at hz
  rw [dc_t (hv.2 ⟨p, q1⟩)]
  obtain ⟨k, m, g, x, r⟩ := v
  unfold vv at hz ⊢
  dsimp only at hk hx hz q1 ⊢
  subst hk
  clear hv p
  have hst : ∀ (a : Addr) (n : Nat) (m : Mode) (w : World), (store a (.float .f64 n) m).run Try.prog w = stored Try.prog w a (.float .f64 n) m := fun a n m w => run_store _ _ _ _ _ rfl
  go_enter Try.func31, Try.ntmps31
  go_wp2_with (go_at_call 58; refine (hz _).mono ?_; rintro e w1 ⟨rfl, g1⟩; obtain ⟨c0, c1, c2, c3, c4⟩ := (Vc.new w _ _ _ _ _ _).grown g1)
  go_ret
  exact ⟨by first | rfl | simp [*], by first | exact g1 | (refine Grown.trans ?_ g1; go_grown) | go_grown⟩
set_option maxRecDepth 100000 in
set_option maxHeartbeats 4000000 in
theorem sp_ok8 (v : Vv) (hk : v.k = 8) (hx : (v.x.size : Int) ≤ 1048576) (w : World) : Calls Try.prog 31 #[vv v] w fun e w' => e = .returned (.bool (dc (vok v))) ∧ Grown w w' := by
  have hv := vok8 hk
  have hz := fun w => sp_zero_tfff v w
  by_cases q1 : 0 ≤ v.m
  case neg =>
    by_cases p : zr v true false false false
    case neg =>
      rw [dc_f p] at hz
      rw [dc_f (fun h => p (hv.1 h).1)]
      obtain ⟨k, m, g, x, r⟩ := v
      unfold vv at hz ⊢
      dsimp only at hk hx hz q1 ⊢
      subst hk
      clear hv p
      have hst : ∀ (a : Addr) (n : Nat) (m : Mode) (w : World), (store a (.float .f64 n) m).run Try.prog w = stored Try.prog w a (.float .f64 n) m := fun a n m w => run_store _ _ _ _ _ rfl
      go_enter Try.func31, Try.ntmps31
      go_wp2_with (go_at_call 58; refine (hz _).mono ?_; rintro e w1 ⟨rfl, g1⟩; obtain ⟨c0, c1, c2, c3, c4⟩ := (Vc.new w _ _ _ _ _ _).grown g1)
      go_ret
      exact ⟨by first | rfl | simp [*], by first | exact g1 | (refine Grown.trans ?_ g1; go_grown) | go_grown⟩
    rw [dc_t p] at hz
    rw [dc_f (fun h => q1 (hv.1 h).2.1)]
    obtain ⟨k, m, g, x, r⟩ := v
    unfold vv at hz ⊢
    dsimp only at hk hx hz q1 ⊢
    subst hk
    clear hv p
    have hst : ∀ (a : Addr) (n : Nat) (m : Mode) (w : World), (store a (.float .f64 n) m).run Try.prog w = stored Try.prog w a (.float .f64 n) m := fun a n m w => run_store _ _ _ _ _ rfl
    go_enter Try.func31, Try.ntmps31
    go_wp2_with (go_at_call 58; refine (hz _).mono ?_; rintro e w1 ⟨rfl, g1⟩; obtain ⟨c0, c1, c2, c3, c4⟩ := (Vc.new w _ _ _ _ _ _).grown g1)
    go_ret
    exact ⟨by first | rfl | simp [*], by first | exact g1 | (refine Grown.trans ?_ g1; go_grown) | go_grown⟩
  by_cases q2 : v.m < 15
  case neg =>
    by_cases p : zr v true false false false
    case neg =>
      rw [dc_f p] at hz
      rw [dc_f (fun h => p (hv.1 h).1)]
      obtain ⟨k, m, g, x, r⟩ := v
      unfold vv at hz ⊢
      dsimp only at hk hx hz q1 q2 ⊢
      subst hk
      clear hv p
      have hst : ∀ (a : Addr) (n : Nat) (m : Mode) (w : World), (store a (.float .f64 n) m).run Try.prog w = stored Try.prog w a (.float .f64 n) m := fun a n m w => run_store _ _ _ _ _ rfl
      go_enter Try.func31, Try.ntmps31
      go_wp2_with (go_at_call 58; refine (hz _).mono ?_; rintro e w1 ⟨rfl, g1⟩; obtain ⟨c0, c1, c2, c3, c4⟩ := (Vc.new w _ _ _ _ _ _).grown g1)
      go_ret
      exact ⟨by first | rfl | simp [*], by first | exact g1 | (refine Grown.trans ?_ g1; go_grown) | go_grown⟩
    rw [dc_t p] at hz
    rw [dc_f (fun h => q2 (hv.1 h).2.2)]
    obtain ⟨k, m, g, x, r⟩ := v
    unfold vv at hz ⊢
    dsimp only at hk hx hz q1 q2 ⊢
    subst hk
    clear hv p
    have hst : ∀ (a : Addr) (n : Nat) (m : Mode) (w : World), (store a (.float .f64 n) m).run Try.prog w = stored Try.prog w a (.float .f64 n) m := fun a n m w => run_store _ _ _ _ _ rfl
    go_enter Try.func31, Try.ntmps31
    go_wp2_with (go_at_call 58; refine (hz _).mono ?_; rintro e w1 ⟨rfl, g1⟩; obtain ⟨c0, c1, c2, c3, c4⟩ := (Vc.new w _ _ _ _ _ _).grown g1)
    go_ret
    exact ⟨by first | rfl | simp [*], by first | exact g1 | (refine Grown.trans ?_ g1; go_grown) | go_grown⟩
  by_cases p : zr v true false false false
  case neg =>
    rw [dc_f p] at hz
    rw [dc_f (fun h => p (hv.1 h).1)]
    obtain ⟨k, m, g, x, r⟩ := v
    unfold vv at hz ⊢
    dsimp only at hk hx hz q1 q2 ⊢
    subst hk
    clear hv p
    have hst : ∀ (a : Addr) (n : Nat) (m : Mode) (w : World), (store a (.float .f64 n) m).run Try.prog w = stored Try.prog w a (.float .f64 n) m := fun a n m w => run_store _ _ _ _ _ rfl
    go_enter Try.func31, Try.ntmps31
    go_wp2_with (go_at_call 58; refine (hz _).mono ?_; rintro e w1 ⟨rfl, g1⟩; obtain ⟨c0, c1, c2, c3, c4⟩ := (Vc.new w _ _ _ _ _ _).grown g1)
    go_ret
    exact ⟨by first | rfl | simp [*], by first | exact g1 | (refine Grown.trans ?_ g1; go_grown) | go_grown⟩
  rw [dc_t p] at hz
  rw [dc_t (hv.2 ⟨p, q1, q2⟩)]
  obtain ⟨k, m, g, x, r⟩ := v
  unfold vv at hz ⊢
  dsimp only at hk hx hz q1 q2 ⊢
  subst hk
  clear hv p
  have hst : ∀ (a : Addr) (n : Nat) (m : Mode) (w : World), (store a (.float .f64 n) m).run Try.prog w = stored Try.prog w a (.float .f64 n) m := fun a n m w => run_store _ _ _ _ _ rfl
  go_enter Try.func31, Try.ntmps31
  go_wp2_with (go_at_call 58; refine (hz _).mono ?_; rintro e w1 ⟨rfl, g1⟩; obtain ⟨c0, c1, c2, c3, c4⟩ := (Vc.new w _ _ _ _ _ _).grown g1)
  go_ret
  exact ⟨by first | rfl | simp [*], by first | exact g1 | (refine Grown.trans ?_ g1; go_grown) | go_grown⟩
end Go.Proofs.Ytfpidccjcemcjaa
