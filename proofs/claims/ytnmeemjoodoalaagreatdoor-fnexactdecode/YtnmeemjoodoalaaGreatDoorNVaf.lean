import Derived.Test.YtnmeemjoodoalaaGreatDoorNFly
set_option maxRecDepth 100000
set_option maxHeartbeats 4000000
namespace Go.Proofs.YtnmeemjoodoalaaGreatDoor
open Go.ChangeShapes Go.WideShapes Go.ChangeAt Go.RowKit
set_option linter.unusedVariables false
set_option maxRecDepth 100000
attribute [local go_sem] run_equalIn_flt
theorem sp_ok6 (v : Vv) (hk : v.k = 6) (hx : (v.x.size : Int) ≤ 1048576) (w : World) : Calls Tryz.prog 132 #[vv v] w fun e w'=>e = .returned (.bool (dc (vok v))) ∧ Grown w w':=by
  have hv:=vok6 hk
  have hz:=fun w=>sp_zero_ffft v w
  by_cases q1 : 0 ≤ v.r
  case neg =>
    by_cases p : zr v false false false true
    case neg =>
      rw [dc_f p] at hz
      rw [dc_f (fun h=>p (hv.1 h).1)]
      obtain ⟨k,m,g,x,r⟩:=v
      unfold vv at hz ⊢
      dsimp only at hk hx hz q1 ⊢
      subst hk
      clear hv p
      have hst : ∀ (a : Addr) (n : Nat) (m : Mode) (w : World),(store a (.float .f64 n) m).run Tryz.prog w = stored Tryz.prog w a (.float .f64 n) m:=fun a n m w=>run_store _ _ _ _ _ rfl
      go_enter Tryz.func132,Tryz.ntmps132
      go_wp2_with (go_at_call 152;refine (hz _).mono ?_;rintro e w1 ⟨rfl,g1⟩;obtain ⟨c0,c1,c2,c3,c4⟩:=(Vc.new w _ _ _ _ _ _).grown g1)
      go_ret
      exact ⟨by first | rfl | simp [*],by first | exact g1 | (refine Grown.trans ?_ g1;go_grown) | go_grown⟩
    rw [dc_t p] at hz
    rw [dc_f (fun h=>q1 (hv.1 h).2)]
    obtain ⟨k,m,g,x,r⟩:=v
    unfold vv at hz ⊢
    dsimp only at hk hx hz q1 ⊢
    subst hk
    clear hv p
    have hst : ∀ (a : Addr) (n : Nat) (m : Mode) (w : World),(store a (.float .f64 n) m).run Tryz.prog w = stored Tryz.prog w a (.float .f64 n) m:=fun a n m w=>run_store _ _ _ _ _ rfl
    go_enter Tryz.func132,Tryz.ntmps132
    go_wp2_with (go_at_call 152;refine (hz _).mono ?_;rintro e w1 ⟨rfl,g1⟩;obtain ⟨c0,c1,c2,c3,c4⟩:=(Vc.new w _ _ _ _ _ _).grown g1)
    go_ret
    exact ⟨by first | rfl | simp [*],by first | exact g1 | (refine Grown.trans ?_ g1;go_grown) | go_grown⟩
  by_cases p : zr v false false false true
  case neg =>
    rw [dc_f p] at hz
    rw [dc_f (fun h=>p (hv.1 h).1)]
    obtain ⟨k,m,g,x,r⟩:=v
    unfold vv at hz ⊢
    dsimp only at hk hx hz q1 ⊢
    subst hk
    clear hv p
    have hst : ∀ (a : Addr) (n : Nat) (m : Mode) (w : World),(store a (.float .f64 n) m).run Tryz.prog w = stored Tryz.prog w a (.float .f64 n) m:=fun a n m w=>run_store _ _ _ _ _ rfl
    go_enter Tryz.func132,Tryz.ntmps132
    go_wp2_with (go_at_call 152;refine (hz _).mono ?_;rintro e w1 ⟨rfl,g1⟩;obtain ⟨c0,c1,c2,c3,c4⟩:=(Vc.new w _ _ _ _ _ _).grown g1)
    go_ret
    exact ⟨by first | rfl | simp [*],by first | exact g1 | (refine Grown.trans ?_ g1;go_grown) | go_grown⟩
  rw [dc_t p] at hz
  rw [dc_t (hv.2 ⟨p,q1⟩)]
  obtain ⟨k,m,g,x,r⟩:=v
  unfold vv at hz ⊢
  dsimp only at hk hx hz q1 ⊢
  subst hk
  clear hv p
  have hst : ∀ (a : Addr) (n : Nat) (m : Mode) (w : World),(store a (.float .f64 n) m).run Tryz.prog w = stored Tryz.prog w a (.float .f64 n) m:=fun a n m w=>run_store _ _ _ _ _ rfl
  go_enter Tryz.func132,Tryz.ntmps132
  go_wp2_with (go_at_call 152;refine (hz _).mono ?_;rintro e w1 ⟨rfl,g1⟩;obtain ⟨c0,c1,c2,c3,c4⟩:=(Vc.new w _ _ _ _ _ _).grown g1)
  go_ret
  exact ⟨by first | rfl | simp [*],by first | exact g1 | (refine Grown.trans ?_ g1;go_grown) | go_grown⟩
theorem sp_ok7 (v : Vv) (hk : v.k = 7) (hx : (v.x.size : Int) ≤ 1048576) (w : World) : Calls Tryz.prog 132 #[vv v] w fun e w'=>e = .returned (.bool (dc (vok v))) ∧ Grown w w':=by
  have hv:=vok7 hk
  have hz:=fun w=>sp_zero_ffft v w
  by_cases q1 : 0 ≤ v.r
  case neg =>
    by_cases p : zr v false false false true
    case neg =>
      rw [dc_f p] at hz
      rw [dc_f (fun h=>p (hv.1 h).1)]
      obtain ⟨k,m,g,x,r⟩:=v
      unfold vv at hz ⊢
      dsimp only at hk hx hz q1 ⊢
      subst hk
      clear hv p
      have hst : ∀ (a : Addr) (n : Nat) (m : Mode) (w : World),(store a (.float .f64 n) m).run Tryz.prog w = stored Tryz.prog w a (.float .f64 n) m:=fun a n m w=>run_store _ _ _ _ _ rfl
      go_enter Tryz.func132,Tryz.ntmps132
      go_wp2_with (go_at_call 152;refine (hz _).mono ?_;rintro e w1 ⟨rfl,g1⟩;obtain ⟨c0,c1,c2,c3,c4⟩:=(Vc.new w _ _ _ _ _ _).grown g1)
      go_ret
      exact ⟨by first | rfl | simp [*],by first | exact g1 | (refine Grown.trans ?_ g1;go_grown) | go_grown⟩
    rw [dc_t p] at hz
    rw [dc_f (fun h=>q1 (hv.1 h).2)]
    obtain ⟨k,m,g,x,r⟩:=v
    unfold vv at hz ⊢
    dsimp only at hk hx hz q1 ⊢
    subst hk
    clear hv p
    have hst : ∀ (a : Addr) (n : Nat) (m : Mode) (w : World),(store a (.float .f64 n) m).run Tryz.prog w = stored Tryz.prog w a (.float .f64 n) m:=fun a n m w=>run_store _ _ _ _ _ rfl
    go_enter Tryz.func132,Tryz.ntmps132
    go_wp2_with (go_at_call 152;refine (hz _).mono ?_;rintro e w1 ⟨rfl,g1⟩;obtain ⟨c0,c1,c2,c3,c4⟩:=(Vc.new w _ _ _ _ _ _).grown g1)
    go_ret
    exact ⟨by first | rfl | simp [*],by first | exact g1 | (refine Grown.trans ?_ g1;go_grown) | go_grown⟩
  by_cases p : zr v false false false true
  case neg =>
    rw [dc_f p] at hz
    rw [dc_f (fun h=>p (hv.1 h).1)]
    obtain ⟨k,m,g,x,r⟩:=v
    unfold vv at hz ⊢
    dsimp only at hk hx hz q1 ⊢
    subst hk
    clear hv p
    have hst : ∀ (a : Addr) (n : Nat) (m : Mode) (w : World),(store a (.float .f64 n) m).run Tryz.prog w = stored Tryz.prog w a (.float .f64 n) m:=fun a n m w=>run_store _ _ _ _ _ rfl
    go_enter Tryz.func132,Tryz.ntmps132
    go_wp2_with (go_at_call 152;refine (hz _).mono ?_;rintro e w1 ⟨rfl,g1⟩;obtain ⟨c0,c1,c2,c3,c4⟩:=(Vc.new w _ _ _ _ _ _).grown g1)
    go_ret
    exact ⟨by first | rfl | simp [*],by first | exact g1 | (refine Grown.trans ?_ g1;go_grown) | go_grown⟩
  rw [dc_t p] at hz
  rw [dc_t (hv.2 ⟨p,q1⟩)]
  obtain ⟨k,m,g,x,r⟩:=v
  unfold vv at hz ⊢
  dsimp only at hk hx hz q1 ⊢
  subst hk
  clear hv p
  have hst : ∀ (a : Addr) (n : Nat) (m : Mode) (w : World),(store a (.float .f64 n) m).run Tryz.prog w = stored Tryz.prog w a (.float .f64 n) m:=fun a n m w=>run_store _ _ _ _ _ rfl
  go_enter Tryz.func132,Tryz.ntmps132
  go_wp2_with (go_at_call 152;refine (hz _).mono ?_;rintro e w1 ⟨rfl,g1⟩;obtain ⟨c0,c1,c2,c3,c4⟩:=(Vc.new w _ _ _ _ _ _).grown g1)
  go_ret
  exact ⟨by first | rfl | simp [*],by first | exact g1 | (refine Grown.trans ?_ g1;go_grown) | go_grown⟩
theorem sp_ok8 (v : Vv) (hk : v.k = 8) (hx : (v.x.size : Int) ≤ 1048576) (w : World) : Calls Tryz.prog 132 #[vv v] w fun e w'=>e = .returned (.bool (dc (vok v))) ∧ Grown w w':=by
  have hv:=vok8 hk
  have hz:=fun w=>sp_zero_tfff v w
  by_cases q1 : 0 ≤ v.m
  case neg =>
    by_cases p : zr v true false false false
    case neg =>
      rw [dc_f p] at hz
      rw [dc_f (fun h=>p (hv.1 h).1)]
      obtain ⟨k,m,g,x,r⟩:=v
      unfold vv at hz ⊢
      dsimp only at hk hx hz q1 ⊢
      subst hk
      clear hv p
      have hst : ∀ (a : Addr) (n : Nat) (m : Mode) (w : World),(store a (.float .f64 n) m).run Tryz.prog w = stored Tryz.prog w a (.float .f64 n) m:=fun a n m w=>run_store _ _ _ _ _ rfl
      go_enter Tryz.func132,Tryz.ntmps132
      go_wp2_with (go_at_call 152;refine (hz _).mono ?_;rintro e w1 ⟨rfl,g1⟩;obtain ⟨c0,c1,c2,c3,c4⟩:=(Vc.new w _ _ _ _ _ _).grown g1)
      go_ret
      exact ⟨by first | rfl | simp [*],by first | exact g1 | (refine Grown.trans ?_ g1;go_grown) | go_grown⟩
    rw [dc_t p] at hz
    rw [dc_f (fun h=>q1 (hv.1 h).2.1)]
    obtain ⟨k,m,g,x,r⟩:=v
    unfold vv at hz ⊢
    dsimp only at hk hx hz q1 ⊢
    subst hk
    clear hv p
    have hst : ∀ (a : Addr) (n : Nat) (m : Mode) (w : World),(store a (.float .f64 n) m).run Tryz.prog w = stored Tryz.prog w a (.float .f64 n) m:=fun a n m w=>run_store _ _ _ _ _ rfl
    go_enter Tryz.func132,Tryz.ntmps132
    go_wp2_with (go_at_call 152;refine (hz _).mono ?_;rintro e w1 ⟨rfl,g1⟩;obtain ⟨c0,c1,c2,c3,c4⟩:=(Vc.new w _ _ _ _ _ _).grown g1)
    go_ret
    exact ⟨by first | rfl | simp [*],by first | exact g1 | (refine Grown.trans ?_ g1;go_grown) | go_grown⟩
  by_cases q2 : v.m < 15
  case neg =>
    by_cases p : zr v true false false false
    case neg =>
      rw [dc_f p] at hz
      rw [dc_f (fun h=>p (hv.1 h).1)]
      obtain ⟨k,m,g,x,r⟩:=v
      unfold vv at hz ⊢
      dsimp only at hk hx hz q1 q2 ⊢
      subst hk
      clear hv p
      have hst : ∀ (a : Addr) (n : Nat) (m : Mode) (w : World),(store a (.float .f64 n) m).run Tryz.prog w = stored Tryz.prog w a (.float .f64 n) m:=fun a n m w=>run_store _ _ _ _ _ rfl
      go_enter Tryz.func132,Tryz.ntmps132
      go_wp2_with (go_at_call 152;refine (hz _).mono ?_;rintro e w1 ⟨rfl,g1⟩;obtain ⟨c0,c1,c2,c3,c4⟩:=(Vc.new w _ _ _ _ _ _).grown g1)
      go_ret
      exact ⟨by first | rfl | simp [*],by first | exact g1 | (refine Grown.trans ?_ g1;go_grown) | go_grown⟩
    rw [dc_t p] at hz
    rw [dc_f (fun h=>q2 (hv.1 h).2.2)]
    obtain ⟨k,m,g,x,r⟩:=v
    unfold vv at hz ⊢
    dsimp only at hk hx hz q1 q2 ⊢
    subst hk
    clear hv p
    have hst : ∀ (a : Addr) (n : Nat) (m : Mode) (w : World),(store a (.float .f64 n) m).run Tryz.prog w = stored Tryz.prog w a (.float .f64 n) m:=fun a n m w=>run_store _ _ _ _ _ rfl
    go_enter Tryz.func132,Tryz.ntmps132
    go_wp2_with (go_at_call 152;refine (hz _).mono ?_;rintro e w1 ⟨rfl,g1⟩;obtain ⟨c0,c1,c2,c3,c4⟩:=(Vc.new w _ _ _ _ _ _).grown g1)
    go_ret
    exact ⟨by first | rfl | simp [*],by first | exact g1 | (refine Grown.trans ?_ g1;go_grown) | go_grown⟩
  by_cases p : zr v true false false false
  case neg =>
    rw [dc_f p] at hz
    rw [dc_f (fun h=>p (hv.1 h).1)]
    obtain ⟨k,m,g,x,r⟩:=v
    unfold vv at hz ⊢
    dsimp only at hk hx hz q1 q2 ⊢
    subst hk
    clear hv p
    have hst : ∀ (a : Addr) (n : Nat) (m : Mode) (w : World),(store a (.float .f64 n) m).run Tryz.prog w = stored Tryz.prog w a (.float .f64 n) m:=fun a n m w=>run_store _ _ _ _ _ rfl
    go_enter Tryz.func132,Tryz.ntmps132
    go_wp2_with (go_at_call 152;refine (hz _).mono ?_;rintro e w1 ⟨rfl,g1⟩;obtain ⟨c0,c1,c2,c3,c4⟩:=(Vc.new w _ _ _ _ _ _).grown g1)
    go_ret
    exact ⟨by first | rfl | simp [*],by first | exact g1 | (refine Grown.trans ?_ g1;go_grown) | go_grown⟩
  rw [dc_t p] at hz
  rw [dc_t (hv.2 ⟨p,q1,q2⟩)]
  obtain ⟨k,m,g,x,r⟩:=v
  unfold vv at hz ⊢
  dsimp only at hk hx hz q1 q2 ⊢
  subst hk
  clear hv p
  have hst : ∀ (a : Addr) (n : Nat) (m : Mode) (w : World),(store a (.float .f64 n) m).run Tryz.prog w = stored Tryz.prog w a (.float .f64 n) m:=fun a n m w=>run_store _ _ _ _ _ rfl
  go_enter Tryz.func132,Tryz.ntmps132
  go_wp2_with (go_at_call 152;refine (hz _).mono ?_;rintro e w1 ⟨rfl,g1⟩;obtain ⟨c0,c1,c2,c3,c4⟩:=(Vc.new w _ _ _ _ _ _).grown g1)
  go_ret
  exact ⟨by first | rfl | simp [*],by first | exact g1 | (refine Grown.trans ?_ g1;go_grown) | go_grown⟩
attribute [local go_sem] run_equalIn_flt
theorem im_okx (v : Vv) (hk : ¬ (v.k = 0 ∨ v.k = 1 ∨ v.k = 2 ∨ v.k = 3 ∨ v.k = 4 ∨ v.k = 5 ∨ v.k = 6 ∨ v.k = 7 ∨ v.k = 8)) (w : World) : Calls Tryz.prog 139 #[vv v] w fun e w'=>e = .returned (.bool (dc (vok v))) ∧ Grown w w':=by
  rw [dc_f (vokx hk)]
  obtain ⟨k,m,g,x,r⟩:=v
  unfold vv
  dsimp only at hk ⊢
  have n0 : ¬ k = 0:=by omega
  have n1 : ¬ k = 1:=by omega
  have n2 : ¬ k = 2:=by omega
  have n3 : ¬ k = 3:=by omega
  have n4 : ¬ k = 4:=by omega
  have n5 : ¬ k = 5:=by omega
  have n6 : ¬ k = 6:=by omega
  have n7 : ¬ k = 7:=by omega
  have n8 : ¬ k = 8:=by omega
  clear hk
  have hst : ∀ (a : Addr) (n : Nat) (m : Mode) (w : World),(store a (.float .f64 n) m).run Tryz.prog w = stored Tryz.prog w a (.float .f64 n) m:=fun a n m w=>run_store _ _ _ _ _ rfl
  go_enter Tryz.func139,Tryz.ntmps139
  go_wp2_with fail
  go_ret
  exact ⟨rfl,by go_grown⟩
theorem im_ok0 (v : Vv) (hk : v.k = 0) (hx : (v.x.size : Int) ≤ 1048576) (w : World) : Calls Tryz.prog 139 #[vv v] w fun e w'=>e = .returned (.bool (dc (vok v))) ∧ Grown w w':=by
  have hv:=vok0 hk
  by_cases hm : v.m = 0
  case neg =>
    rw [dc_f (fun h=>by have h1:=(hv.1 h).1;unfold zr at h1;simp_all)]
    obtain ⟨k,m,g,x,r⟩:=v
    unfold vv
    dsimp only at hk hx hm ⊢
    subst hk
    clear hv
    have hst : ∀ (a : Addr) (n : Nat) (m : Mode) (w : World),(store a (.float .f64 n) m).run Tryz.prog w = stored Tryz.prog w a (.float .f64 n) m:=fun a n m w=>run_store _ _ _ _ _ rfl
    go_enter Tryz.func139,Tryz.ntmps139
    go_wp2_with fail
    go_ret
    exact ⟨by first | rfl | simp [*],by go_grown⟩
  by_cases hg : fz v.g
  case neg =>
    rw [dc_f (fun h=>by have h1:=(hv.1 h).1;unfold zr at h1;simp_all)]
    obtain ⟨k,m,g,x,r⟩:=v
    unfold vv
    dsimp only at hk hx hm hg ⊢
    unfold fz at hg
    subst hk
    clear hv
    have hst : ∀ (a : Addr) (n : Nat) (m : Mode) (w : World),(store a (.float .f64 n) m).run Tryz.prog w = stored Tryz.prog w a (.float .f64 n) m:=fun a n m w=>run_store _ _ _ _ _ rfl
    go_enter Tryz.func139,Tryz.ntmps139
    go_wp2_with fail
    go_ret
    exact ⟨by first | rfl | simp [*],by go_grown⟩
  by_cases ht : v.x.toList = []
  case neg =>
    rw [dc_f (fun h=>by have h1:=(hv.1 h).1;unfold zr at h1;simp_all)]
    obtain ⟨k,m,g,x,r⟩:=v
    unfold vv
    dsimp only at hk hx hm hg ht ⊢
    unfold fz at hg
    subst hk
    clear hv
    have hst : ∀ (a : Addr) (n : Nat) (m : Mode) (w : World),(store a (.float .f64 n) m).run Tryz.prog w = stored Tryz.prog w a (.float .f64 n) m:=fun a n m w=>run_store _ _ _ _ _ rfl
    go_enter Tryz.func139,Tryz.ntmps139
    go_wp2_with fail
    go_ret
    exact ⟨by first | rfl | simp [*],by go_grown⟩
  by_cases hr : v.r = 0
  case neg =>
    rw [dc_f (fun h=>by have h1:=(hv.1 h).1;unfold zr at h1;simp_all)]
    obtain ⟨k,m,g,x,r⟩:=v
    unfold vv
    dsimp only at hk hx hm hg ht hr ⊢
    unfold fz at hg
    subst hk
    clear hv
    have hst : ∀ (a : Addr) (n : Nat) (m : Mode) (w : World),(store a (.float .f64 n) m).run Tryz.prog w = stored Tryz.prog w a (.float .f64 n) m:=fun a n m w=>run_store _ _ _ _ _ rfl
    go_enter Tryz.func139,Tryz.ntmps139
    go_wp2_with fail
    go_ret
    exact ⟨by first | rfl | simp [*],by go_grown⟩
  rw [dc_t (hv.2 ⟨by unfold zr;simp_all,trivial⟩)]
  obtain ⟨k,m,g,x,r⟩:=v
  unfold vv
  dsimp only at hk hx hm hg ht hr ⊢
  unfold fz at hg
  subst hk
  clear hv
  have hst : ∀ (a : Addr) (n : Nat) (m : Mode) (w : World),(store a (.float .f64 n) m).run Tryz.prog w = stored Tryz.prog w a (.float .f64 n) m:=fun a n m w=>run_store _ _ _ _ _ rfl
  go_enter Tryz.func139,Tryz.ntmps139
  go_wp2_with fail
  go_ret
  exact ⟨by first | rfl | simp [*],by go_grown⟩
theorem im_ok1 (v : Vv) (hk : v.k = 1) (hx : (v.x.size : Int) ≤ 1048576) (w : World) : Calls Tryz.prog 139 #[vv v] w fun e w'=>e = .returned (.bool (dc (vok v))) ∧ Grown w w':=by
  have hv:=vok1 hk
  by_cases q1 : v.m = 0
  case pos =>
    by_cases hg : fz v.g
    case neg =>
      rw [dc_f (fun h=>by have h1:=(hv.1 h).1;unfold zr at h1;simp_all)]
      obtain ⟨k,m,g,x,r⟩:=v
      unfold vv
      dsimp only at hk hx q1 hg ⊢
      unfold fz at hg
      subst hk
      clear hv
      have hst : ∀ (a : Addr) (n : Nat) (m : Mode) (w : World),(store a (.float .f64 n) m).run Tryz.prog w = stored Tryz.prog w a (.float .f64 n) m:=fun a n m w=>run_store _ _ _ _ _ rfl
      go_enter Tryz.func139,Tryz.ntmps139
      go_wp2_with fail
      go_ret
      exact ⟨by first | rfl | simp [*],by go_grown⟩
    by_cases ht : v.x.toList = []
    case neg =>
      rw [dc_f (fun h=>by have h1:=(hv.1 h).1;unfold zr at h1;simp_all)]
      obtain ⟨k,m,g,x,r⟩:=v
      unfold vv
      dsimp only at hk hx q1 hg ht ⊢
      unfold fz at hg
      subst hk
      clear hv
      have hst : ∀ (a : Addr) (n : Nat) (m : Mode) (w : World),(store a (.float .f64 n) m).run Tryz.prog w = stored Tryz.prog w a (.float .f64 n) m:=fun a n m w=>run_store _ _ _ _ _ rfl
      go_enter Tryz.func139,Tryz.ntmps139
      go_wp2_with fail
      go_ret
      exact ⟨by first | rfl | simp [*],by go_grown⟩
    by_cases hr : v.r = 0
    case neg =>
      rw [dc_f (fun h=>by have h1:=(hv.1 h).1;unfold zr at h1;simp_all)]
      obtain ⟨k,m,g,x,r⟩:=v
      unfold vv
      dsimp only at hk hx q1 hg ht hr ⊢
      unfold fz at hg
      subst hk
      clear hv
      have hst : ∀ (a : Addr) (n : Nat) (m : Mode) (w : World),(store a (.float .f64 n) m).run Tryz.prog w = stored Tryz.prog w a (.float .f64 n) m:=fun a n m w=>run_store _ _ _ _ _ rfl
      go_enter Tryz.func139,Tryz.ntmps139
      go_wp2_with fail
      go_ret
      exact ⟨by first | rfl | simp [*],by go_grown⟩
    rw [dc_t (hv.2 ⟨by unfold zr;simp_all,.inl q1⟩)]
    obtain ⟨k,m,g,x,r⟩:=v
    unfold vv
    dsimp only at hk hx q1 hg ht hr ⊢
    unfold fz at hg
    subst hk
    clear hv
    have hst : ∀ (a : Addr) (n : Nat) (m : Mode) (w : World),(store a (.float .f64 n) m).run Tryz.prog w = stored Tryz.prog w a (.float .f64 n) m:=fun a n m w=>run_store _ _ _ _ _ rfl
    go_enter Tryz.func139,Tryz.ntmps139
    go_wp2_with fail
    go_ret
    exact ⟨by first | rfl | simp [*],by go_grown⟩
  by_cases q2 : v.m = 1
  case pos =>
    by_cases hg : fz v.g
    case neg =>
      rw [dc_f (fun h=>by have h1:=(hv.1 h).1;unfold zr at h1;simp_all)]
      obtain ⟨k,m,g,x,r⟩:=v
      unfold vv
      dsimp only at hk hx q1 q2 hg ⊢
      unfold fz at hg
      subst hk
      clear hv
      have hst : ∀ (a : Addr) (n : Nat) (m : Mode) (w : World),(store a (.float .f64 n) m).run Tryz.prog w = stored Tryz.prog w a (.float .f64 n) m:=fun a n m w=>run_store _ _ _ _ _ rfl
      go_enter Tryz.func139,Tryz.ntmps139
      go_wp2_with fail
      go_ret
      exact ⟨by first | rfl | simp [*],by go_grown⟩
    by_cases ht : v.x.toList = []
    case neg =>
      rw [dc_f (fun h=>by have h1:=(hv.1 h).1;unfold zr at h1;simp_all)]
      obtain ⟨k,m,g,x,r⟩:=v
      unfold vv
      dsimp only at hk hx q1 q2 hg ht ⊢
      unfold fz at hg
      subst hk
      clear hv
      have hst : ∀ (a : Addr) (n : Nat) (m : Mode) (w : World),(store a (.float .f64 n) m).run Tryz.prog w = stored Tryz.prog w a (.float .f64 n) m:=fun a n m w=>run_store _ _ _ _ _ rfl
      go_enter Tryz.func139,Tryz.ntmps139
      go_wp2_with fail
      go_ret
      exact ⟨by first | rfl | simp [*],by go_grown⟩
    by_cases hr : v.r = 0
    case neg =>
      rw [dc_f (fun h=>by have h1:=(hv.1 h).1;unfold zr at h1;simp_all)]
      obtain ⟨k,m,g,x,r⟩:=v
      unfold vv
      dsimp only at hk hx q1 q2 hg ht hr ⊢
      unfold fz at hg
      subst hk
      clear hv
      have hst : ∀ (a : Addr) (n : Nat) (m : Mode) (w : World),(store a (.float .f64 n) m).run Tryz.prog w = stored Tryz.prog w a (.float .f64 n) m:=fun a n m w=>run_store _ _ _ _ _ rfl
      go_enter Tryz.func139,Tryz.ntmps139
      go_wp2_with fail
      go_ret
      exact ⟨by first | rfl | simp [*],by go_grown⟩
    rw [dc_t (hv.2 ⟨by unfold zr;simp_all,.inr q2⟩)]
    obtain ⟨k,m,g,x,r⟩:=v
    unfold vv
    dsimp only at hk hx q1 q2 hg ht hr ⊢
    unfold fz at hg
    subst hk
    clear hv
    have hst : ∀ (a : Addr) (n : Nat) (m : Mode) (w : World),(store a (.float .f64 n) m).run Tryz.prog w = stored Tryz.prog w a (.float .f64 n) m:=fun a n m w=>run_store _ _ _ _ _ rfl
    go_enter Tryz.func139,Tryz.ntmps139
    go_wp2_with fail
    go_ret
    exact ⟨by first | rfl | simp [*],by go_grown⟩
  rw [dc_f (fun h=>(hv.1 h).2.elim q1 q2)]
  obtain ⟨k,m,g,x,r⟩:=v
  unfold vv
  dsimp only at hk hx q1 q2 ⊢
  subst hk
  clear hv
  have hst : ∀ (a : Addr) (n : Nat) (m : Mode) (w : World),(store a (.float .f64 n) m).run Tryz.prog w = stored Tryz.prog w a (.float .f64 n) m:=fun a n m w=>run_store _ _ _ _ _ rfl
  go_enter Tryz.func139,Tryz.ntmps139
  go_wp2_with fail
  go_ret
  exact ⟨by first | rfl | simp [*],by go_grown⟩
attribute [local go_sem] run_equalIn_flt
theorem im_ok2 (v : Vv) (hk : v.k = 2) (hx : (v.x.size : Int) ≤ 1048576) (w : World) : Calls Tryz.prog 139 #[vv v] w fun e w'=>e = .returned (.bool (dc (vok v))) ∧ Grown w w':=by
  have hv:=vok2 hk
  by_cases hg : fz v.g
  case neg =>
    rw [dc_f (fun h=>by have h1:=(hv.1 h).1;unfold zr at h1;simp_all)]
    obtain ⟨k,m,g,x,r⟩:=v
    unfold vv
    dsimp only at hk hx hg ⊢
    unfold fz at hg
    subst hk
    clear hv
    have hst : ∀ (a : Addr) (n : Nat) (m : Mode) (w : World),(store a (.float .f64 n) m).run Tryz.prog w = stored Tryz.prog w a (.float .f64 n) m:=fun a n m w=>run_store _ _ _ _ _ rfl
    go_enter Tryz.func139,Tryz.ntmps139
    go_wp2_with fail
    go_ret
    exact ⟨by first | rfl | simp [*],by go_grown⟩
  by_cases ht : v.x.toList = []
  case neg =>
    rw [dc_f (fun h=>by have h1:=(hv.1 h).1;unfold zr at h1;simp_all)]
    obtain ⟨k,m,g,x,r⟩:=v
    unfold vv
    dsimp only at hk hx hg ht ⊢
    unfold fz at hg
    subst hk
    clear hv
    have hst : ∀ (a : Addr) (n : Nat) (m : Mode) (w : World),(store a (.float .f64 n) m).run Tryz.prog w = stored Tryz.prog w a (.float .f64 n) m:=fun a n m w=>run_store _ _ _ _ _ rfl
    go_enter Tryz.func139,Tryz.ntmps139
    go_wp2_with fail
    go_ret
    exact ⟨by first | rfl | simp [*],by go_grown⟩
  by_cases hr : v.r = 0
  case neg =>
    rw [dc_f (fun h=>by have h1:=(hv.1 h).1;unfold zr at h1;simp_all)]
    obtain ⟨k,m,g,x,r⟩:=v
    unfold vv
    dsimp only at hk hx hg ht hr ⊢
    unfold fz at hg
    subst hk
    clear hv
    have hst : ∀ (a : Addr) (n : Nat) (m : Mode) (w : World),(store a (.float .f64 n) m).run Tryz.prog w = stored Tryz.prog w a (.float .f64 n) m:=fun a n m w=>run_store _ _ _ _ _ rfl
    go_enter Tryz.func139,Tryz.ntmps139
    go_wp2_with fail
    go_ret
    exact ⟨by first | rfl | simp [*],by go_grown⟩
  rw [dc_t (hv.2 ⟨by unfold zr;simp_all,trivial⟩)]
  obtain ⟨k,m,g,x,r⟩:=v
  unfold vv
  dsimp only at hk hx hg ht hr ⊢
  unfold fz at hg
  subst hk
  clear hv
  have hst : ∀ (a : Addr) (n : Nat) (m : Mode) (w : World),(store a (.float .f64 n) m).run Tryz.prog w = stored Tryz.prog w a (.float .f64 n) m:=fun a n m w=>run_store _ _ _ _ _ rfl
  go_enter Tryz.func139,Tryz.ntmps139
  go_wp2_with fail
  go_ret
  exact ⟨by first | rfl | simp [*],by go_grown⟩
theorem im_ok3 (v : Vv) (hk : v.k = 3) (hx : (v.x.size : Int) ≤ 1048576) (w : World) : Calls Tryz.prog 139 #[vv v] w fun e w'=>e = .returned (.bool (dc (vok v))) ∧ Grown w w':=by
  have hv:=vok3 hk
  by_cases hm : v.m = 0
  case neg =>
    rw [dc_f (fun h=>by have h1:=(hv.1 h).1;unfold zr at h1;simp_all)]
    obtain ⟨k,m,g,x,r⟩:=v
    unfold vv
    dsimp only at hk hx hm ⊢
    subst hk
    clear hv
    have hst : ∀ (a : Addr) (n : Nat) (m : Mode) (w : World),(store a (.float .f64 n) m).run Tryz.prog w = stored Tryz.prog w a (.float .f64 n) m:=fun a n m w=>run_store _ _ _ _ _ rfl
    go_enter Tryz.func139,Tryz.ntmps139
    go_wp2_with fail
    go_ret
    exact ⟨by first | rfl | simp [*],by go_grown⟩
  by_cases ht : v.x.toList = []
  case neg =>
    rw [dc_f (fun h=>by have h1:=(hv.1 h).1;unfold zr at h1;simp_all)]
    obtain ⟨k,m,g,x,r⟩:=v
    unfold vv
    dsimp only at hk hx hm ht ⊢
    subst hk
    clear hv
    have hst : ∀ (a : Addr) (n : Nat) (m : Mode) (w : World),(store a (.float .f64 n) m).run Tryz.prog w = stored Tryz.prog w a (.float .f64 n) m:=fun a n m w=>run_store _ _ _ _ _ rfl
    go_enter Tryz.func139,Tryz.ntmps139
    go_wp2_with fail
    go_ret
    exact ⟨by first | rfl | simp [*],by go_grown⟩
  by_cases hr : v.r = 0
  case neg =>
    rw [dc_f (fun h=>by have h1:=(hv.1 h).1;unfold zr at h1;simp_all)]
    obtain ⟨k,m,g,x,r⟩:=v
    unfold vv
    dsimp only at hk hx hm ht hr ⊢
    subst hk
    clear hv
    have hst : ∀ (a : Addr) (n : Nat) (m : Mode) (w : World),(store a (.float .f64 n) m).run Tryz.prog w = stored Tryz.prog w a (.float .f64 n) m:=fun a n m w=>run_store _ _ _ _ _ rfl
    go_enter Tryz.func139,Tryz.ntmps139
    go_wp2_with fail
    go_ret
    exact ⟨by first | rfl | simp [*],by go_grown⟩
  rw [dc_t (hv.2 ⟨by unfold zr;simp_all,trivial⟩)]
  obtain ⟨k,m,g,x,r⟩:=v
  unfold vv
  dsimp only at hk hx hm ht hr ⊢
  subst hk
  clear hv
  have hst : ∀ (a : Addr) (n : Nat) (m : Mode) (w : World),(store a (.float .f64 n) m).run Tryz.prog w = stored Tryz.prog w a (.float .f64 n) m:=fun a n m w=>run_store _ _ _ _ _ rfl
  go_enter Tryz.func139,Tryz.ntmps139
  go_wp2_with fail
  go_ret
  exact ⟨by first | rfl | simp [*],by go_grown⟩
theorem im_ok4 (v : Vv) (hk : v.k = 4) (hx : (v.x.size : Int) ≤ 1048576) (w : World) : Calls Tryz.prog 139 #[vv v] w fun e w'=>e = .returned (.bool (dc (vok v))) ∧ Grown w w':=by
  have hv:=vok4 hk
  by_cases q1 : v.x.size ≤ 4000
  case neg =>
    have q1i : ¬ (v.x.size : Int) ≤ 4000:=by omega
    rw [dc_f (fun h=>q1 (hv.1 h).2)]
    obtain ⟨k,m,g,x,r⟩:=v
    unfold vv
    dsimp only at hk hx q1 q1i ⊢
    subst hk
    clear hv
    have hst : ∀ (a : Addr) (n : Nat) (m : Mode) (w : World),(store a (.float .f64 n) m).run Tryz.prog w = stored Tryz.prog w a (.float .f64 n) m:=fun a n m w=>run_store _ _ _ _ _ rfl
    go_enter Tryz.func139,Tryz.ntmps139
    go_wp2_with fail
    go_ret
    exact ⟨by first | rfl | simp [*],by go_grown⟩
  have q1i : (v.x.size : Int) ≤ 4000:=by omega
  by_cases hm : v.m = 0
  case neg =>
    rw [dc_f (fun h=>by have h1:=(hv.1 h).1;unfold zr at h1;simp_all)]
    obtain ⟨k,m,g,x,r⟩:=v
    unfold vv
    dsimp only at hk hx q1 q1i hm ⊢
    subst hk
    clear hv
    have hst : ∀ (a : Addr) (n : Nat) (m : Mode) (w : World),(store a (.float .f64 n) m).run Tryz.prog w = stored Tryz.prog w a (.float .f64 n) m:=fun a n m w=>run_store _ _ _ _ _ rfl
    go_enter Tryz.func139,Tryz.ntmps139
    go_wp2_with fail
    go_ret
    exact ⟨by first | rfl | simp [*],by go_grown⟩
  by_cases hg : fz v.g
  case neg =>
    rw [dc_f (fun h=>by have h1:=(hv.1 h).1;unfold zr at h1;simp_all)]
    obtain ⟨k,m,g,x,r⟩:=v
    unfold vv
    dsimp only at hk hx q1 q1i hm hg ⊢
    unfold fz at hg
    subst hk
    clear hv
    have hst : ∀ (a : Addr) (n : Nat) (m : Mode) (w : World),(store a (.float .f64 n) m).run Tryz.prog w = stored Tryz.prog w a (.float .f64 n) m:=fun a n m w=>run_store _ _ _ _ _ rfl
    go_enter Tryz.func139,Tryz.ntmps139
    go_wp2_with fail
    go_ret
    exact ⟨by first | rfl | simp [*],by go_grown⟩
  by_cases hr : v.r = 0
  case neg =>
    rw [dc_f (fun h=>by have h1:=(hv.1 h).1;unfold zr at h1;simp_all)]
    obtain ⟨k,m,g,x,r⟩:=v
    unfold vv
    dsimp only at hk hx q1 q1i hm hg hr ⊢
    unfold fz at hg
    subst hk
    clear hv
    have hst : ∀ (a : Addr) (n : Nat) (m : Mode) (w : World),(store a (.float .f64 n) m).run Tryz.prog w = stored Tryz.prog w a (.float .f64 n) m:=fun a n m w=>run_store _ _ _ _ _ rfl
    go_enter Tryz.func139,Tryz.ntmps139
    go_wp2_with fail
    go_ret
    exact ⟨by first | rfl | simp [*],by go_grown⟩
  rw [dc_t (hv.2 ⟨by unfold zr;simp_all,q1⟩)]
  obtain ⟨k,m,g,x,r⟩:=v
  unfold vv
  dsimp only at hk hx q1 q1i hm hg hr ⊢
  unfold fz at hg
  subst hk
  clear hv
  have hst : ∀ (a : Addr) (n : Nat) (m : Mode) (w : World),(store a (.float .f64 n) m).run Tryz.prog w = stored Tryz.prog w a (.float .f64 n) m:=fun a n m w=>run_store _ _ _ _ _ rfl
  go_enter Tryz.func139,Tryz.ntmps139
  go_wp2_with fail
  go_ret
  exact ⟨by first | rfl | simp [*],by go_grown⟩
theorem im_ok5 (v : Vv) (hk : v.k = 5) (hx : (v.x.size : Int) ≤ 1048576) (w : World) : Calls Tryz.prog 139 #[vv v] w fun e w'=>e = .returned (.bool (dc (vok v))) ∧ Grown w w':=by
  have hv:=vok5 hk
  by_cases q1 : 0 ≤ v.r
  case neg =>
    rw [dc_f (fun h=>q1 (hv.1 h).2)]
    obtain ⟨k,m,g,x,r⟩:=v
    unfold vv
    dsimp only at hk hx q1 ⊢
    subst hk
    clear hv
    have hst : ∀ (a : Addr) (n : Nat) (m : Mode) (w : World),(store a (.float .f64 n) m).run Tryz.prog w = stored Tryz.prog w a (.float .f64 n) m:=fun a n m w=>run_store _ _ _ _ _ rfl
    go_enter Tryz.func139,Tryz.ntmps139
    go_wp2_with fail
    go_ret
    exact ⟨by first | rfl | simp [*],by go_grown⟩
  by_cases hm : v.m = 0
  case neg =>
    rw [dc_f (fun h=>by have h1:=(hv.1 h).1;unfold zr at h1;simp_all)]
    obtain ⟨k,m,g,x,r⟩:=v
    unfold vv
    dsimp only at hk hx q1 hm ⊢
    subst hk
    clear hv
    have hst : ∀ (a : Addr) (n : Nat) (m : Mode) (w : World),(store a (.float .f64 n) m).run Tryz.prog w = stored Tryz.prog w a (.float .f64 n) m:=fun a n m w=>run_store _ _ _ _ _ rfl
    go_enter Tryz.func139,Tryz.ntmps139
    go_wp2_with fail
    go_ret
    exact ⟨by first | rfl | simp [*],by go_grown⟩
  by_cases hg : fz v.g
  case neg =>
    rw [dc_f (fun h=>by have h1:=(hv.1 h).1;unfold zr at h1;simp_all)]
    obtain ⟨k,m,g,x,r⟩:=v
    unfold vv
    dsimp only at hk hx q1 hm hg ⊢
    unfold fz at hg
    subst hk
    clear hv
    have hst : ∀ (a : Addr) (n : Nat) (m : Mode) (w : World),(store a (.float .f64 n) m).run Tryz.prog w = stored Tryz.prog w a (.float .f64 n) m:=fun a n m w=>run_store _ _ _ _ _ rfl
    go_enter Tryz.func139,Tryz.ntmps139
    go_wp2_with fail
    go_ret
    exact ⟨by first | rfl | simp [*],by go_grown⟩
  by_cases ht : v.x.toList = []
  case neg =>
    rw [dc_f (fun h=>by have h1:=(hv.1 h).1;unfold zr at h1;simp_all)]
    obtain ⟨k,m,g,x,r⟩:=v
    unfold vv
    dsimp only at hk hx q1 hm hg ht ⊢
    unfold fz at hg
    subst hk
    clear hv
    have hst : ∀ (a : Addr) (n : Nat) (m : Mode) (w : World),(store a (.float .f64 n) m).run Tryz.prog w = stored Tryz.prog w a (.float .f64 n) m:=fun a n m w=>run_store _ _ _ _ _ rfl
    go_enter Tryz.func139,Tryz.ntmps139
    go_wp2_with fail
    go_ret
    exact ⟨by first | rfl | simp [*],by go_grown⟩
  rw [dc_t (hv.2 ⟨by unfold zr;simp_all,q1⟩)]
  obtain ⟨k,m,g,x,r⟩:=v
  unfold vv
  dsimp only at hk hx q1 hm hg ht ⊢
  unfold fz at hg
  subst hk
  clear hv
  have hst : ∀ (a : Addr) (n : Nat) (m : Mode) (w : World),(store a (.float .f64 n) m).run Tryz.prog w = stored Tryz.prog w a (.float .f64 n) m:=fun a n m w=>run_store _ _ _ _ _ rfl
  go_enter Tryz.func139,Tryz.ntmps139
  go_wp2_with fail
  go_ret
  exact ⟨by first | rfl | simp [*],by go_grown⟩
end Go.Proofs.YtnmeemjoodoalaaGreatDoor
