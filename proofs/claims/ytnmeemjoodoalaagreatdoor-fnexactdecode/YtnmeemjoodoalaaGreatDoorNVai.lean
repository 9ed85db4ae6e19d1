import Derived.Test.YtnmeemjoodoalaaGreatDoorNFly
import Derived.Test.YtnmeemjoodoalaaGreatDoorNVaf
import Derived.Deep.Slices
import Derived.SizedLaws
import Derived.Carry
set_option maxRecDepth 100000
set_option maxHeartbeats 4000000
namespace Go.Proofs.YtnmeemjoodoalaaGreatDoor
open Go.ChangeShapes Go.WideShapes Go.ChangeAt Go.RowKit
set_option linter.unusedVariables false
set_option maxRecDepth 100000
attribute [local go_sem] run_equalIn_flt
theorem im_ok6 (v : Vv) (hk : v.k = 6) (hx : (v.x.size : Int) ≤ 1048576) (w : World) : Calls Tryz.prog 139 #[vv v] w fun e w'=>e = .returned (.bool (dc (vok v))) ∧ Grown w w':=by
  have hv:=vok6 hk
  by_cases q1 : 0 ≤ v.r
  case neg =>
    rw [dc_f (fun h=>q1 (hv.1 h).2)]
    obtain ⟨k,m,g,x,r⟩:=v
    unfold vv
    dsimp only at hk hx q1 ⊢
    subst hk
    clear hv
    have hst : ∀ (a : Addr) (n : Nat) (m : Mode) (w : World),(store a (.float .f64 n) m).run Tryz.prog w = stored Tryz.prog w a (.float .f64 n) m:=fun a n m w=>run_store _ _ _ _ _ rfl
    go_enter Tryz.func139,Tryz.ntmps139
    go_wp2_with fail
    go_ret
    exact ⟨by first | rfl | simp [*],by go_grown⟩
  by_cases hm : v.m = 0
  case neg =>
    rw [dc_f (fun h=>by have h1:=(hv.1 h).1;unfold zr at h1;simp_all)]
    obtain ⟨k,m,g,x,r⟩:=v
    unfold vv
    dsimp only at hk hx q1 hm ⊢
    subst hk
    clear hv
    have hst : ∀ (a : Addr) (n : Nat) (m : Mode) (w : World),(store a (.float .f64 n) m).run Tryz.prog w = stored Tryz.prog w a (.float .f64 n) m:=fun a n m w=>run_store _ _ _ _ _ rfl
    go_enter Tryz.func139,Tryz.ntmps139
    go_wp2_with fail
    go_ret
    exact ⟨by first | rfl | simp [*],by go_grown⟩
  by_cases hg : fz v.g
  case neg =>
    rw [dc_f (fun h=>by have h1:=(hv.1 h).1;unfold zr at h1;simp_all)]
    obtain ⟨k,m,g,x,r⟩:=v
    unfold vv
    dsimp only at hk hx q1 hm hg ⊢
    unfold fz at hg
    subst hk
    clear hv
    have hst : ∀ (a : Addr) (n : Nat) (m : Mode) (w : World),(store a (.float .f64 n) m).run Tryz.prog w = stored Tryz.prog w a (.float .f64 n) m:=fun a n m w=>run_store _ _ _ _ _ rfl
    go_enter Tryz.func139,Tryz.ntmps139
    go_wp2_with fail
    go_ret
    exact ⟨by first | rfl | simp [*],by go_grown⟩
  by_cases ht : v.x.toList = []
  case neg =>
    rw [dc_f (fun h=>by have h1:=(hv.1 h).1;unfold zr at h1;simp_all)]
    obtain ⟨k,m,g,x,r⟩:=v
    unfold vv
    dsimp only at hk hx q1 hm hg ht ⊢
    unfold fz at hg
    subst hk
    clear hv
    have hst : ∀ (a : Addr) (n : Nat) (m : Mode) (w : World),(store a (.float .f64 n) m).run Tryz.prog w = stored Tryz.prog w a (.float .f64 n) m:=fun a n m w=>run_store _ _ _ _ _ rfl
    go_enter Tryz.func139,Tryz.ntmps139
    go_wp2_with fail
    go_ret
    exact ⟨by first | rfl | simp [*],by go_grown⟩
  rw [dc_t (hv.2 ⟨by unfold zr;simp_all,q1⟩)]
  obtain ⟨k,m,g,x,r⟩:=v
  unfold vv
  dsimp only at hk hx q1 hm hg ht ⊢
  unfold fz at hg
  subst hk
  clear hv
  have hst : ∀ (a : Addr) (n : Nat) (m : Mode) (w : World),(store a (.float .f64 n) m).run Tryz.prog w = stored Tryz.prog w a (.float .f64 n) m:=fun a n m w=>run_store _ _ _ _ _ rfl
  go_enter Tryz.func139,Tryz.ntmps139
  go_wp2_with fail
  go_ret
  exact ⟨by first | rfl | simp [*],by go_grown⟩
theorem im_ok7 (v : Vv) (hk : v.k = 7) (hx : (v.x.size : Int) ≤ 1048576) (w : World) : Calls Tryz.prog 139 #[vv v] w fun e w'=>e = .returned (.bool (dc (vok v))) ∧ Grown w w':=by
  have hv:=vok7 hk
  by_cases q1 : 0 ≤ v.r
  case neg =>
    rw [dc_f (fun h=>q1 (hv.1 h).2)]
    obtain ⟨k,m,g,x,r⟩:=v
    unfold vv
    dsimp only at hk hx q1 ⊢
    subst hk
    clear hv
    have hst : ∀ (a : Addr) (n : Nat) (m : Mode) (w : World),(store a (.float .f64 n) m).run Tryz.prog w = stored Tryz.prog w a (.float .f64 n) m:=fun a n m w=>run_store _ _ _ _ _ rfl
    go_enter Tryz.func139,Tryz.ntmps139
    go_wp2_with fail
    go_ret
    exact ⟨by first | rfl | simp [*],by go_grown⟩
  by_cases hm : v.m = 0
  case neg =>
    rw [dc_f (fun h=>by have h1:=(hv.1 h).1;unfold zr at h1;simp_all)]
    obtain ⟨k,m,g,x,r⟩:=v
    unfold vv
    dsimp only at hk hx q1 hm ⊢
    subst hk
    clear hv
    have hst : ∀ (a : Addr) (n : Nat) (m : Mode) (w : World),(store a (.float .f64 n) m).run Tryz.prog w = stored Tryz.prog w a (.float .f64 n) m:=fun a n m w=>run_store _ _ _ _ _ rfl
    go_enter Tryz.func139,Tryz.ntmps139
    go_wp2_with fail
    go_ret
    exact ⟨by first | rfl | simp [*],by go_grown⟩
  by_cases hg : fz v.g
  case neg =>
    rw [dc_f (fun h=>by have h1:=(hv.1 h).1;unfold zr at h1;simp_all)]
    obtain ⟨k,m,g,x,r⟩:=v
    unfold vv
    dsimp only at hk hx q1 hm hg ⊢
    unfold fz at hg
    subst hk
    clear hv
    have hst : ∀ (a : Addr) (n : Nat) (m : Mode) (w : World),(store a (.float .f64 n) m).run Tryz.prog w = stored Tryz.prog w a (.float .f64 n) m:=fun a n m w=>run_store _ _ _ _ _ rfl
    go_enter Tryz.func139,Tryz.ntmps139
    go_wp2_with fail
    go_ret
    exact ⟨by first | rfl | simp [*],by go_grown⟩
  by_cases ht : v.x.toList = []
  case neg =>
    rw [dc_f (fun h=>by have h1:=(hv.1 h).1;unfold zr at h1;simp_all)]
    obtain ⟨k,m,g,x,r⟩:=v
    unfold vv
    dsimp only at hk hx q1 hm hg ht ⊢
    unfold fz at hg
    subst hk
    clear hv
    have hst : ∀ (a : Addr) (n : Nat) (m : Mode) (w : World),(store a (.float .f64 n) m).run Tryz.prog w = stored Tryz.prog w a (.float .f64 n) m:=fun a n m w=>run_store _ _ _ _ _ rfl
    go_enter Tryz.func139,Tryz.ntmps139
    go_wp2_with fail
    go_ret
    exact ⟨by first | rfl | simp [*],by go_grown⟩
  rw [dc_t (hv.2 ⟨by unfold zr;simp_all,q1⟩)]
  obtain ⟨k,m,g,x,r⟩:=v
  unfold vv
  dsimp only at hk hx q1 hm hg ht ⊢
  unfold fz at hg
  subst hk
  clear hv
  have hst : ∀ (a : Addr) (n : Nat) (m : Mode) (w : World),(store a (.float .f64 n) m).run Tryz.prog w = stored Tryz.prog w a (.float .f64 n) m:=fun a n m w=>run_store _ _ _ _ _ rfl
  go_enter Tryz.func139,Tryz.ntmps139
  go_wp2_with fail
  go_ret
  exact ⟨by first | rfl | simp [*],by go_grown⟩
theorem im_ok8 (v : Vv) (hk : v.k = 8) (hx : (v.x.size : Int) ≤ 1048576) (w : World) : Calls Tryz.prog 139 #[vv v] w fun e w'=>e = .returned (.bool (dc (vok v))) ∧ Grown w w':=by
  have hv:=vok8 hk
  by_cases q1 : 0 ≤ v.m
  case neg =>
    rw [dc_f (fun h=>q1 (hv.1 h).2.1)]
    obtain ⟨k,m,g,x,r⟩:=v
    unfold vv
    dsimp only at hk hx q1 ⊢
    subst hk
    clear hv
    have hst : ∀ (a : Addr) (n : Nat) (m : Mode) (w : World),(store a (.float .f64 n) m).run Tryz.prog w = stored Tryz.prog w a (.float .f64 n) m:=fun a n m w=>run_store _ _ _ _ _ rfl
    go_enter Tryz.func139,Tryz.ntmps139
    go_wp2_with fail
    go_ret
    exact ⟨by first | rfl | simp [*],by go_grown⟩
  by_cases q2 : v.m < 15
  case neg =>
    rw [dc_f (fun h=>q2 (hv.1 h).2.2)]
    obtain ⟨k,m,g,x,r⟩:=v
    unfold vv
    dsimp only at hk hx q1 q2 ⊢
    subst hk
    clear hv
    have hst : ∀ (a : Addr) (n : Nat) (m : Mode) (w : World),(store a (.float .f64 n) m).run Tryz.prog w = stored Tryz.prog w a (.float .f64 n) m:=fun a n m w=>run_store _ _ _ _ _ rfl
    go_enter Tryz.func139,Tryz.ntmps139
    go_wp2_with fail
    go_ret
    exact ⟨by first | rfl | simp [*],by go_grown⟩
  by_cases hg : fz v.g
  case neg =>
    rw [dc_f (fun h=>by have h1:=(hv.1 h).1;unfold zr at h1;simp_all)]
    obtain ⟨k,m,g,x,r⟩:=v
    unfold vv
    dsimp only at hk hx q1 q2 hg ⊢
    unfold fz at hg
    subst hk
    clear hv
    have hst : ∀ (a : Addr) (n : Nat) (m : Mode) (w : World),(store a (.float .f64 n) m).run Tryz.prog w = stored Tryz.prog w a (.float .f64 n) m:=fun a n m w=>run_store _ _ _ _ _ rfl
    go_enter Tryz.func139,Tryz.ntmps139
    go_wp2_with fail
    go_ret
    exact ⟨by first | rfl | simp [*],by go_grown⟩
  by_cases ht : v.x.toList = []
  case neg =>
    rw [dc_f (fun h=>by have h1:=(hv.1 h).1;unfold zr at h1;simp_all)]
    obtain ⟨k,m,g,x,r⟩:=v
    unfold vv
    dsimp only at hk hx q1 q2 hg ht ⊢
    unfold fz at hg
    subst hk
    clear hv
    have hst : ∀ (a : Addr) (n : Nat) (m : Mode) (w : World),(store a (.float .f64 n) m).run Tryz.prog w = stored Tryz.prog w a (.float .f64 n) m:=fun a n m w=>run_store _ _ _ _ _ rfl
    go_enter Tryz.func139,Tryz.ntmps139
    go_wp2_with fail
    go_ret
    exact ⟨by first | rfl | simp [*],by go_grown⟩
  by_cases hr : v.r = 0
  case neg =>
    rw [dc_f (fun h=>by have h1:=(hv.1 h).1;unfold zr at h1;simp_all)]
    obtain ⟨k,m,g,x,r⟩:=v
    unfold vv
    dsimp only at hk hx q1 q2 hg ht hr ⊢
    unfold fz at hg
    subst hk
    clear hv
    have hst : ∀ (a : Addr) (n : Nat) (m : Mode) (w : World),(store a (.float .f64 n) m).run Tryz.prog w = stored Tryz.prog w a (.float .f64 n) m:=fun a n m w=>run_store _ _ _ _ _ rfl
    go_enter Tryz.func139,Tryz.ntmps139
    go_wp2_with fail
    go_ret
    exact ⟨by first | rfl | simp [*],by go_grown⟩
  rw [dc_t (hv.2 ⟨by unfold zr;simp_all,q1,q2⟩)]
  obtain ⟨k,m,g,x,r⟩:=v
  unfold vv
  dsimp only at hk hx q1 q2 hg ht hr ⊢
  unfold fz at hg
  subst hk
  clear hv
  have hst : ∀ (a : Addr) (n : Nat) (m : Mode) (w : World),(store a (.float .f64 n) m).run Tryz.prog w = stored Tryz.prog w a (.float .f64 n) m:=fun a n m w=>run_store _ _ _ _ _ rfl
  go_enter Tryz.func139,Tryz.ntmps139
  go_wp2_with fail
  go_ret
  exact ⟨by first | rfl | simp [*],by go_grown⟩
theorem sp_ok (v : Vv) (hx : (v.x.size : Int) ≤ 1048576) (w : World) : Calls Tryz.prog 132 #[vv v] w fun e w'=>e = .returned (.bool (dc (vok v))) ∧ Grown w w':=by
  by_cases hk : v.k = 0 ∨ v.k = 1 ∨ v.k = 2 ∨ v.k = 3 ∨ v.k = 4 ∨ v.k = 5 ∨ v.k = 6 ∨ v.k = 7 ∨ v.k = 8
  · rcases hk with hk | hk | hk | hk | hk | hk | hk | hk | hk
    · exact sp_ok0 v hk hx w
    · exact sp_ok1 v hk hx w
    · exact sp_ok2 v hk hx w
    · exact sp_ok3 v hk hx w
    · exact sp_ok4 v hk hx w
    · exact sp_ok5 v hk hx w
    · exact sp_ok6 v hk hx w
    · exact sp_ok7 v hk hx w
    · exact sp_ok8 v hk hx w
  · exact sp_okx v hk w
theorem im_ok (v : Vv) (hx : (v.x.size : Int) ≤ 1048576) (w : World) : Calls Tryz.prog 139 #[vv v] w fun e w'=>e = .returned (.bool (dc (vok v))) ∧ Grown w w':=by
  by_cases hk : v.k = 0 ∨ v.k = 1 ∨ v.k = 2 ∨ v.k = 3 ∨ v.k = 4 ∨ v.k = 5 ∨ v.k = 6 ∨ v.k = 7 ∨ v.k = 8
  · rcases hk with hk | hk | hk | hk | hk | hk | hk | hk | hk
    · exact im_ok0 v hk hx w
    · exact im_ok1 v hk hx w
    · exact im_ok2 v hk hx w
    · exact im_ok3 v hk hx w
    · exact im_ok4 v hk hx w
    · exact im_ok5 v hk hx w
    · exact im_ok6 v hk hx w
    · exact im_ok7 v hk hx w
    · exact im_ok8 v hk hx w
  · exact im_okx v hk w
theorem laidOut : laidOutB Tryz.prog = true:=by kernel_rfl
def Sz {H : Type} (t : TypeId) (d : DataW H) : Prop:=∀ n ∈ d.weights Tryz.prog t,n ≤ 140737488351232
section
variable {H : Type} {enc : TypeId × Value → H} {w : World} {base : Nat} {sp : Nat → Bool} {held : Bool}
structure Vb (v : Vv) : Prop where
  k : -9223372036854775808 ≤ v.k ∧ v.k ≤ 9223372036854775807
  m : -9223372036854775808 ≤ v.m ∧ v.m ≤ 9223372036854775807
  g : v.g < 18446744073709551616
  x : (v.x.size : Int) < 140737488355328
  r : -9223372036854775808 ≤ v.r ∧ v.r ≤ 9223372036854775807
end
end Go.Proofs.YtnmeemjoodoalaaGreatDoor
