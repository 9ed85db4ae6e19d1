import Derived.Test.YtfpidccjcemcjaaVac
namespace Go.Proofs.Ytfpidccjcemcjaa
open Go.ChangeShapes Go.WideShapes Go.ChangeAt Go.RowKit
set_option linter.unusedVariables false
set_option maxRecDepth 100000
attribute [local go_sem] run_equalIn_flt
set_option maxRecDepth 100000 in
set_option maxHeartbeats 4000000 in
theorem sp_okx (v : Vv) (hk : ¬ (v.k = 0 ∨ v.k = 1 ∨ v.k = 2 ∨ v.k = 3 ∨ v.k = 4 ∨ v.k = 5 ∨ v.k = 6 ∨ v.k = 7 ∨ v.k = 8)) (w : World) : Calls Try.prog 31 #[vv v] w fun e w' => e = .returned (.bool (dc (vok v))) ∧ Grown w w' := by
  rw [dc_f (vokx hk)]
  obtain ⟨k, m, g, x, r⟩ := v
  unfold vv
  dsimp only at hk ⊢
  have n0 : ¬ k = 0 := by omega
  have n1 : ¬ k = 1 := by omega
  have n2 : ¬ k = 2 := by omega
  have n3 : ¬ k = 3 := by omega
  have n4 : ¬ k = 4 := by omega
  have n5 : ¬ k = 5 := by omega
  have n6 : ¬ k = 6 := by omega
  have n7 : ¬ k = 7 := by omega
  have n8 : ¬ k = 8 := by omega
  clear hk
  have hst : ∀ (a : Addr) (n : Nat) (m : Mode) (w : World), (store a (.float .f64 n) m).run Try.prog w = stored Try.prog w a (.float .f64 n) m := fun a n m w => run_store _ _ _ _ _ rfl
  go_enter Try.func31, Try.ntmps31
  go_wp2_with fail
  go_ret
  exact ⟨rfl, by go_grown⟩
set_option maxRecDepth 100000 in
set_option maxHeartbeats 4000000 in
theorem sp_ok0 (v : Vv) (hk : v.k = 0) (hx : (v.x.size : Int) ≤ 1048576) (w : World) : Calls Try.prog 31 #[vv v] w fun e w' => e = .returned (.bool (dc (vok v))) ∧ Grown w w' := by
  have hv := vok0 hk
  have hz := fun w => sp_zero_ffff v w
  by_cases p : zr v false false false false
  case neg =>
    rw [dc_f p] at hz
    rw [dc_f (fun h => p (hv.1 h).1)]
    obtain ⟨k, m, g, x, r⟩ := v
    unfold vv at hz ⊢
    dsimp only at hk hx hz  ⊢
    subst hk
    clear hv p
    have hst : ∀ (a : Addr) (n : Nat) (m : Mode) (w : World), (store a (.float .f64 n) m).run Try.prog w = stored Try.prog w a (.float .f64 n) m := fun a n m w => run_store _ _ _ _ _ rfl
    go_enter Try.func31, Try.ntmps31
    go_wp2_with (go_at_call 58; refine (hz _).mono ?_; rintro e w1 ⟨rfl, g1⟩; obtain ⟨c0, c1, c2, c3, c4⟩ := (Vc.new w _ _ _ _ _ _).grown g1)
    go_ret
    exact ⟨by first | rfl | simp [*], by first | exact g1 | (refine Grown.trans ?_ g1; go_grown) | go_grown⟩
  rw [dc_t p] at hz
  rw [dc_t (hv.2 ⟨p, trivial⟩)]
  obtain ⟨k, m, g, x, r⟩ := v
  unfold vv at hz ⊢
  dsimp only at hk hx hz  ⊢
  subst hk
  clear hv p
  have hst : ∀ (a : Addr) (n : Nat) (m : Mode) (w : World), (store a (.float .f64 n) m).run Try.prog w = stored Try.prog w a (.float .f64 n) m := fun a n m w => run_store _ _ _ _ _ rfl
  go_enter Try.func31, Try.ntmps31
  go_wp2_with (go_at_call 58; refine (hz _).mono ?_; rintro e w1 ⟨rfl, g1⟩; obtain ⟨c0, c1, c2, c3, c4⟩ := (Vc.new w _ _ _ _ _ _).grown g1)
  go_ret
  exact ⟨by first | rfl | simp [*], by first | exact g1 | (refine Grown.trans ?_ g1; go_grown) | go_grown⟩
set_option maxRecDepth 100000 in
set_option maxHeartbeats 4000000 in
theorem sp_ok1 (v : Vv) (hk : v.k = 1) (hx : (v.x.size : Int) ≤ 1048576) (w : World) : Calls Try.prog 31 #[vv v] w fun e w' => e = .returned (.bool (dc (vok v))) ∧ Grown w w' := by
  have hv := vok1 hk
  have hz := fun w => sp_zero_tfff v w
  by_cases q1 : v.m = 0
  case pos =>
    by_cases p : zr v true false false false
    case neg =>
      rw [dc_f p] at hz
      rw [dc_f (fun h => p (hv.1 h).1)]
      obtain ⟨k, m, g, x, r⟩ := v
      unfold vv at hz ⊢
      dsimp only at hk hx hz q1 ⊢
      subst q1
      subst hk
      clear hv p
      have hst : ∀ (a : Addr) (n : Nat) (m : Mode) (w : World), (store a (.float .f64 n) m).run Try.prog w = stored Try.prog w a (.float .f64 n) m := fun a n m w => run_store _ _ _ _ _ rfl
      go_enter Try.func31, Try.ntmps31
      go_wp2_with (go_at_call 58; refine (hz _).mono ?_; rintro e w1 ⟨rfl, g1⟩; obtain ⟨c0, c1, c2, c3, c4⟩ := (Vc.new w _ _ _ _ _ _).grown g1)
      go_ret
      exact ⟨by first | rfl | simp [*], by first | exact g1 | (refine Grown.trans ?_ g1; go_grown) | go_grown⟩
    rw [dc_t p] at hz
    rw [dc_t (hv.2 ⟨p, .inl q1⟩)]
    obtain ⟨k, m, g, x, r⟩ := v
    unfold vv at hz ⊢
    dsimp only at hk hx hz q1 ⊢
    subst q1
    subst hk
    clear hv p
    have hst : ∀ (a : Addr) (n : Nat) (m : Mode) (w : World), (store a (.float .f64 n) m).run Try.prog w = stored Try.prog w a (.float .f64 n) m := fun a n m w => run_store _ _ _ _ _ rfl
    go_enter Try.func31, Try.ntmps31
    go_wp2_with (go_at_call 58; refine (hz _).mono ?_; rintro e w1 ⟨rfl, g1⟩; obtain ⟨c0, c1, c2, c3, c4⟩ := (Vc.new w _ _ _ _ _ _).grown g1)
    go_ret
    exact ⟨by first | rfl | simp [*], by first | exact g1 | (refine Grown.trans ?_ g1; go_grown) | go_grown⟩
  by_cases q2 : v.m = 1
  case pos =>
    by_cases p : zr v true false false false
    case neg =>
      rw [dc_f p] at hz
      rw [dc_f (fun h => p (hv.1 h).1)]
      obtain ⟨k, m, g, x, r⟩ := v
      unfold vv at hz ⊢
      dsimp only at hk hx hz q1 q2 ⊢
      subst q2
      subst hk
      clear hv p
      have hst : ∀ (a : Addr) (n : Nat) (m : Mode) (w : World), (store a (.float .f64 n) m).run Try.prog w = stored Try.prog w a (.float .f64 n) m := fun a n m w => run_store _ _ _ _ _ rfl
      go_enter Try.func31, Try.ntmps31
      go_wp2_with (go_at_call 58; refine (hz _).mono ?_; rintro e w1 ⟨rfl, g1⟩; obtain ⟨c0, c1, c2, c3, c4⟩ := (Vc.new w _ _ _ _ _ _).grown g1)
      go_ret
      exact ⟨by first | rfl | simp [*], by first | exact g1 | (refine Grown.trans ?_ g1; go_grown) | go_grown⟩
    rw [dc_t p] at hz
    rw [dc_t (hv.2 ⟨p, .inr q2⟩)]
    obtain ⟨k, m, g, x, r⟩ := v
    unfold vv at hz ⊢
    dsimp only at hk hx hz q1 q2 ⊢
    subst q2
    subst hk
    clear hv p
    have hst : ∀ (a : Addr) (n : Nat) (m : Mode) (w : World), (store a (.float .f64 n) m).run Try.prog w = stored Try.prog w a (.float .f64 n) m := fun a n m w => run_store _ _ _ _ _ rfl
    go_enter Try.func31, Try.ntmps31
    go_wp2_with (go_at_call 58; refine (hz _).mono ?_; rintro e w1 ⟨rfl, g1⟩; obtain ⟨c0, c1, c2, c3, c4⟩ := (Vc.new w _ _ _ _ _ _).grown g1)
    go_ret
    exact ⟨by first | rfl | simp [*], by first | exact g1 | (refine Grown.trans ?_ g1; go_grown) | go_grown⟩
  by_cases p : zr v true false false false
  case neg =>
    rw [dc_f p] at hz
    rw [dc_f (fun h => p (hv.1 h).1)]
    obtain ⟨k, m, g, x, r⟩ := v
    unfold vv at hz ⊢
    dsimp only at hk hx hz q1 q2 ⊢
    subst hk
    clear hv p
    have hst : ∀ (a : Addr) (n : Nat) (m : Mode) (w : World), (store a (.float .f64 n) m).run Try.prog w = stored Try.prog w a (.float .f64 n) m := fun a n m w => run_store _ _ _ _ _ rfl
    go_enter Try.func31, Try.ntmps31
    go_wp2_with (go_at_call 58; refine (hz _).mono ?_; rintro e w1 ⟨rfl, g1⟩; obtain ⟨c0, c1, c2, c3, c4⟩ := (Vc.new w _ _ _ _ _ _).grown g1)
    go_ret
    exact ⟨by first | rfl | simp [*], by first | exact g1 | (refine Grown.trans ?_ g1; go_grown) | go_grown⟩
  rw [dc_t p] at hz
  rw [dc_f (fun h => (hv.1 h).2.elim q1 q2)]
  obtain ⟨k, m, g, x, r⟩ := v
  unfold vv at hz ⊢
  dsimp only at hk hx hz q1 q2 ⊢
  subst hk
  clear hv p
  have hst : ∀ (a : Addr) (n : Nat) (m : Mode) (w : World), (store a (.float .f64 n) m).run Try.prog w = stored Try.prog w a (.float .f64 n) m := fun a n m w => run_store _ _ _ _ _ rfl
  go_enter Try.func31, Try.ntmps31
  go_wp2_with (go_at_call 58; refine (hz _).mono ?_; rintro e w1 ⟨rfl, g1⟩; obtain ⟨c0, c1, c2, c3, c4⟩ := (Vc.new w _ _ _ _ _ _).grown g1)
  go_ret
  exact ⟨by first | rfl | simp [*], by first | exact g1 | (refine Grown.trans ?_ g1; go_grown) | go_grown⟩
set_option maxRecDepth 100000 in
set_option maxHeartbeats 4000000 in
theorem sp_ok2 (v : Vv) (hk : v.k = 2) (hx : (v.x.size : Int) ≤ 1048576) (w : World) : Calls Try.prog 31 #[vv v] w fun e w' => e = .returned (.bool (dc (vok v))) ∧ Grown w w' := by
  have hv := vok2 hk
  have hz := fun w => sp_zero_tfff v w
  by_cases p : zr v true false false false
  case neg =>
    rw [dc_f p] at hz
    rw [dc_f (fun h => p (hv.1 h).1)]
    obtain ⟨k, m, g, x, r⟩ := v
    unfold vv at hz ⊢
    dsimp only at hk hx hz  ⊢
    subst hk
    clear hv p
    have hst : ∀ (a : Addr) (n : Nat) (m : Mode) (w : World), (store a (.float .f64 n) m).run Try.prog w = stored Try.prog w a (.float .f64 n) m := fun a n m w => run_store _ _ _ _ _ rfl
    go_enter Try.func31, Try.ntmps31
    go_wp2_with (go_at_call 58; refine (hz _).mono ?_; rintro e w1 ⟨rfl, g1⟩; obtain ⟨c0, c1, c2, c3, c4⟩ := (Vc.new w _ _ _ _ _ _).grown g1)
    go_ret
    exact ⟨by first | rfl | simp [*], by first | exact g1 | (refine Grown.trans ?_ g1; go_grown) | go_grown⟩
  rw [dc_t p] at hz
  rw [dc_t (hv.2 ⟨p, trivial⟩)]
  obtain ⟨k, m, g, x, r⟩ := v
  unfold vv at hz ⊢
  dsimp only at hk hx hz  ⊢
  subst hk
  clear hv p
  have hst : ∀ (a : Addr) (n : Nat) (m : Mode) (w : World), (store a (.float .f64 n) m).run Try.prog w = stored Try.prog w a (.float .f64 n) m := fun a n m w => run_store _ _ _ _ _ rfl
  go_enter Try.func31, Try.ntmps31
  go_wp2_with (go_at_call 58; refine (hz _).mono ?_; rintro e w1 ⟨rfl, g1⟩; obtain ⟨c0, c1, c2, c3, c4⟩ := (Vc.new w _ _ _ _ _ _).grown g1)
  go_ret
  exact ⟨by first | rfl | simp [*], by first | exact g1 | (refine Grown.trans ?_ g1; go_grown) | go_grown⟩
end Go.Proofs.Ytfpidccjcemcjaa
