import Derived.Test.YtndpgnmicikaaaaVaj
import Derived.Test.YtndpgnmicikaaaaVak
namespace Go.Proofs.Ytndpgnmicikaaaa
open Go.ChangeShapes Go.WideShapes Go.ChangeAt Go.RowKit
set_option linter.unusedVariables false
attribute [local go_sem] run_equalIn_flt
/-- the values that count as true -/
def vtr (v : Vv) : Prop := vok v ∧ ¬ v.k = 0 ∧ (v.k = 1 → v.m = 1)
set_option maxRecDepth 100000 in
set_option maxHeartbeats 2000000 in
theorem sp_truth (v : Vv) (hx : (v.x.size : Int) ≤ 1048576) (w : World) : Calls Try.prog 12 #[vv v] w fun e w' => e = .returned (.bool (dc (vtr v))) ∧ Grown w w' := by
  have HO := fun w => sp_ok v hx w
  by_cases ho : vok v
  case neg =>
    rw [dc_f ho] at HO
    rw [dc_f (fun h => ho h.1)]
    obtain ⟨k, m, g, x, r⟩ := v
    unfold vv at HO ⊢
    dsimp only at HO hx  ⊢
    clear hx ho
    go_enter Try.func12, Try.ntmps12
    go_wp2_with (go_at_call 9; refine (HO _).mono ?_; rintro e w1 ⟨rfl, g1⟩; obtain ⟨c0, c1, c2, c3, c4⟩ := (Vc.new w _ _ _ _ _ _).grown g1)
    go_ret
    exact ⟨by first | rfl | simp [*], by first | exact g1 | (refine Grown.trans ?_ g1; go_grown) | go_grown⟩
  rw [dc_t ho] at HO
  by_cases k0 : v.k = 0
  case pos =>
    rw [dc_f (fun h => h.2.1 k0)]
    obtain ⟨k, m, g, x, r⟩ := v
    unfold vv at HO ⊢
    dsimp only at HO hx k0 ⊢
    subst k0
    clear hx ho
    go_enter Try.func12, Try.ntmps12
    go_wp2_with (go_at_call 9; refine (HO _).mono ?_; rintro e w1 ⟨rfl, g1⟩; obtain ⟨c0, c1, c2, c3, c4⟩ := (Vc.new w _ _ _ _ _ _).grown g1)
    go_ret
    exact ⟨by first | rfl | simp [*], by first | exact g1 | (refine Grown.trans ?_ g1; go_grown) | go_grown⟩
  by_cases k1 : v.k = 1
  case pos =>
    have hv := (vok1 k1).1 ho
    obtain ⟨⟨_, hg, ht, hr⟩, hm⟩ := hv
    simp only [Bool.false_eq_true, false_or] at hg ht hr
    unfold fz at hg
    by_cases m1 : v.m = 1
    case pos =>
      rw [dc_t ⟨ho, k0, fun _ => m1⟩]
      obtain ⟨k, m, g, x, r⟩ := v
      unfold vv at HO ⊢
      dsimp only at HO hx k1 m1 hg ht hr ⊢
      subst k1
      subst m1
      subst hr
      clear hx ho hm k0
      go_enter Try.func12, Try.ntmps12
      go_wp2_with (go_at_call 9; refine (HO _).mono ?_; rintro e w1 ⟨rfl, g1⟩; obtain ⟨c0, c1, c2, c3, c4⟩ := (Vc.new w _ _ _ _ _ _).grown g1)
      go_ret
      exact ⟨by first | rfl | simp [*], by first | exact g1 | (refine Grown.trans ?_ g1; go_grown) | go_grown⟩
    have m0 : v.m = 0 := hm.resolve_right m1
    rw [dc_f (fun h => m1 (h.2.2 k1))]
    obtain ⟨k, m, g, x, r⟩ := v
    unfold vv at HO ⊢
    dsimp only at HO hx k1 m0 hg ht hr ⊢
    subst k1
    subst m0
    subst hr
    clear hx ho hm k0 m1
    go_enter Try.func12, Try.ntmps12
    go_wp2_with (go_at_call 9; refine (HO _).mono ?_; rintro e w1 ⟨rfl, g1⟩; obtain ⟨c0, c1, c2, c3, c4⟩ := (Vc.new w _ _ _ _ _ _).grown g1)
    go_ret
    exact ⟨by first | rfl | simp [*], by first | exact g1 | (refine Grown.trans ?_ g1; go_grown) | go_grown⟩
  rw [dc_t ⟨ho, k0, fun h => absurd h k1⟩]
  obtain ⟨k, m, g, x, r⟩ := v
  unfold vv at HO ⊢
  dsimp only at HO hx k0 k1 ⊢
  clear hx ho
  go_enter Try.func12, Try.ntmps12
  go_wp2_with (go_at_call 9; refine (HO _).mono ?_; rintro e w1 ⟨rfl, g1⟩; obtain ⟨c0, c1, c2, c3, c4⟩ := (Vc.new w _ _ _ _ _ _).grown g1)
  go_ret
  exact ⟨by first | rfl | simp [*], by first | exact g1 | (refine Grown.trans ?_ g1; go_grown) | go_grown⟩
set_option maxRecDepth 100000 in
set_option maxHeartbeats 2000000 in
theorem im_truth (v : Vv) (hx : (v.x.size : Int) ≤ 1048576) (w : World) : Calls Try.prog 13 #[vv v] w fun e w' => e = .returned (.bool (dc (vtr v))) ∧ Grown w w' := by
  have HO := fun w => im_ok v hx w
  by_cases ho : vok v
  case neg =>
    rw [dc_f ho] at HO
    rw [dc_f (fun h => ho h.1)]
    obtain ⟨k, m, g, x, r⟩ := v
    unfold vv at HO ⊢
    dsimp only at HO hx  ⊢
    clear hx ho
    go_enter Try.func13, Try.ntmps13
    go_wp2_with (go_at_call 11; refine (HO _).mono ?_; rintro e w1 ⟨rfl, g1⟩; obtain ⟨c0, c1, c2, c3, c4⟩ := (Vc.new w _ _ _ _ _ _).grown g1)
    go_ret
    exact ⟨by first | rfl | simp [*], by first | exact g1 | (refine Grown.trans ?_ g1; go_grown) | go_grown⟩
  rw [dc_t ho] at HO
  by_cases k0 : v.k = 0
  case pos =>
    rw [dc_f (fun h => h.2.1 k0)]
    obtain ⟨k, m, g, x, r⟩ := v
    unfold vv at HO ⊢
    dsimp only at HO hx k0 ⊢
    subst k0
    clear hx ho
    go_enter Try.func13, Try.ntmps13
    go_wp2_with (go_at_call 11; refine (HO _).mono ?_; rintro e w1 ⟨rfl, g1⟩; obtain ⟨c0, c1, c2, c3, c4⟩ := (Vc.new w _ _ _ _ _ _).grown g1)
    go_ret
    exact ⟨by first | rfl | simp [*], by first | exact g1 | (refine Grown.trans ?_ g1; go_grown) | go_grown⟩
  by_cases k1 : v.k = 1
  case pos =>
    have hv := (vok1 k1).1 ho
    obtain ⟨⟨_, hg, ht, hr⟩, hm⟩ := hv
    simp only [Bool.false_eq_true, false_or] at hg ht hr
    unfold fz at hg
    by_cases m1 : v.m = 1
    case pos =>
      rw [dc_t ⟨ho, k0, fun _ => m1⟩]
      obtain ⟨k, m, g, x, r⟩ := v
      unfold vv at HO ⊢
      dsimp only at HO hx k1 m1 hg ht hr ⊢
      subst k1
      subst m1
      subst hr
      clear hx ho hm k0
      go_enter Try.func13, Try.ntmps13
      go_wp2_with (go_at_call 11; refine (HO _).mono ?_; rintro e w1 ⟨rfl, g1⟩; obtain ⟨c0, c1, c2, c3, c4⟩ := (Vc.new w _ _ _ _ _ _).grown g1)
      go_ret
      exact ⟨by first | rfl | simp [*], by first | exact g1 | (refine Grown.trans ?_ g1; go_grown) | go_grown⟩
    have m0 : v.m = 0 := hm.resolve_right m1
    rw [dc_f (fun h => m1 (h.2.2 k1))]
    obtain ⟨k, m, g, x, r⟩ := v
    unfold vv at HO ⊢
    dsimp only at HO hx k1 m0 hg ht hr ⊢
    subst k1
    subst m0
    subst hr
    clear hx ho hm k0 m1
    go_enter Try.func13, Try.ntmps13
    go_wp2_with (go_at_call 11; refine (HO _).mono ?_; rintro e w1 ⟨rfl, g1⟩; obtain ⟨c0, c1, c2, c3, c4⟩ := (Vc.new w _ _ _ _ _ _).grown g1)
    go_ret
    exact ⟨by first | rfl | simp [*], by first | exact g1 | (refine Grown.trans ?_ g1; go_grown) | go_grown⟩
  rw [dc_t ⟨ho, k0, fun h => absurd h k1⟩]
  obtain ⟨k, m, g, x, r⟩ := v
  unfold vv at HO ⊢
  dsimp only at HO hx k0 k1 ⊢
  clear hx ho
  go_enter Try.func13, Try.ntmps13
  go_wp2_with (go_at_call 11; refine (HO _).mono ?_; rintro e w1 ⟨rfl, g1⟩; obtain ⟨c0, c1, c2, c3, c4⟩ := (Vc.new w _ _ _ _ _ _).grown g1)
  go_ret
  exact ⟨by first | rfl | simp [*], by first | exact g1 | (refine Grown.trans ?_ g1; go_grown) | go_grown⟩
set_option maxHeartbeats 2000000 in
theorem law_truth (v : Vv) (hb : Vb v) (w : World) : Calls Try.prog 4 #[vv v] w fun e w' => e = .returned (.bool true) ∧ Grown w w' := by
  have HS := fun w => sz_val v 1048576 (by omega) hb.x w
  by_cases hs : (v.x.size : Int) ≤ 1048576
  case neg =>
    rw [if_neg hs] at HS
    obtain ⟨k, m, g, x, r⟩ := v
    unfold vv at HS ⊢
    dsimp only at HS hs ⊢
    clear hb
    go_enter Try.func4, Try.ntmps4
    go_wp2_with fail
    refine (HS _).mono ?_
    rintro e w1 ⟨rfl, g1⟩
    have G1 : Hid (Grown w w1) := Grown.trans (by go_grown) g1
    clear g1 HS
    go_wp2_with fail
    go_ret
    exact ⟨rfl, G1⟩
  rw [if_pos hs] at HS
  have HO := fun w => sp_truth v hs w
  have HI := fun w => im_truth v hs w
  have HT := fun w => to_val v w
  generalize dc (vtr v) = R at HO HI
  obtain ⟨k, m, g, x, r⟩ := v
  unfold vv at HS HO HI HT ⊢
  dsimp only at HS HO HI HT hs ⊢
  have hs2 : ¬ 1048576 - (x.size : Int) < 0 := by omega
  have hrr : (R != R) = false := by simp
  clear hb hs
  have HS' : Hid (∀ w, _) := HS
  have HO' : Hid (∀ w, _) := HO
  have HI' : Hid (∀ w, _) := HI
  have HT' : Hid (∀ w, _) := HT
  clear HS HO HI HT
  go_enter Try.func4, Try.ntmps4
  go_wp2_with fail
  refine (HS' _).mono ?_
  rintro e w1 ⟨rfl, g1⟩
  have G1 : Hid (Grown w w1) := Grown.trans (by go_grown) g1
  have V1 : Vc w1 w.heap.size ⟨k, m, g, x, r⟩ := (Vc.new w k m g x r 24).grown g1
  obtain ⟨c0, c1, c2, c3, c4⟩ := V1
  clear g1 HS'
  go_wp2_with fail
  refine (HT' _).mono ?_
  rintro e w2 ⟨rfl, g2⟩
  go_wp2_with fail
  refine (HO' _).mono ?_
  rintro e w3 ⟨rfl, g3⟩
  have G3 : Hid (Grown w w3) := Grown.trans G1 (Grown.trans g2 g3)
  obtain ⟨d0, d1, d2, d3, d4⟩ := (show Vc w1 w.heap.size ⟨k, m, g, x, r⟩ from ⟨c0, c1, c2, c3, c4⟩).grown (Grown.trans g2 g3)
  clear G1 g2 g3 c0 c1 c2 c3 c4 HO'
  go_wp2_with fail
  refine (HT' _).mono ?_
  rintro e w4 ⟨rfl, g4⟩
  go_wp2_with fail
  refine (HI' _).mono ?_
  rintro e w5 ⟨rfl, g5⟩
  have G5 : Hid (Grown w w5) := Grown.trans G3 (Grown.trans g4 g5)
  clear G3 g4 g5 d0 d1 d2 d3 d4 HI' HT'
  go_wp2_with fail
  go_ret
  exact ⟨rfl, G5⟩
end Go.Proofs.Ytndpgnmicikaaaa
