import Derived.Test.YtladepgpandklaaDoorVca
import Derived.Test.YtladepgpandklaaDoorFrb
import Derived.Laws.StructEq
namespace Go.Proofs.YtladepgpandklaaDoor
open Go.ChangeShapes Go.WideShapes Go.ChangeAt Go.RowKit
set_option linter.unusedVariables false
set_option maxRecDepth 100000
theorem unary_negf' (k : FloatKind) (b : Nat) : Op.unary .neg (.float k b) = pure (.float k (Op.negFloat k b)) := rfl
attribute [local go_sem] unary_negf'
theorem mul_run {x y r : Nat} (h : floatBits .mul .f64 x y = some r) (w : World) : (binOp .mul 22 (.float .f64 x) (.float .f64 y)).run Tryd.prog w = .ok (.float .f64 r) w :=
  run_float_arith w .mul 22 .f64 _ _ _ h
theorem sp_nn_t (x : Nat) (hn : FloatKind.f64.format.order x x = none) (w : World) : Calls Tryd.prog 17 #[.float .f64 x] w fun e w' => e = .returned (.bool true) ∧ w' = w := by
  go_enter Tryd.func17, Tryd.ntmps17
  go_wp2_with fail
  go_ret
  exact ⟨rfl, rfl⟩
theorem sp_nn_f (x : Nat) (hn : FloatKind.f64.format.order x x = some .eq) (w : World) : Calls Tryd.prog 17 #[.float .f64 x] w fun e w' => e = .returned (.bool false) ∧ w' = w := by
  go_enter Tryd.func17, Tryd.ntmps17
  go_wp2_with fail
  go_ret
  exact ⟨rfl, rfl⟩
def sgb (s : Bool) : ByteArray := if s then ⟨#[45]⟩ else ⟨#[]⟩
/-- a float's text: an odd number and a power of two -/
def ftx (s : Bool) (o : Nat) (e : Int) : ByteArray := ((sgb s ++ itx o) ++ ⟨#[112]⟩) ++ itx e
set_option maxHeartbeats 8000000 in
theorem sp_ft_false (m k o t : Nat) (hc : Flt.Canon m k) (hm : m ≠ 0) (hmo : m = o * 2 ^ t) (ho : o % 2 = 1) (ht : t ≤ 52) (w : World) : Calls Tryd.prog 10 #[.float .f64 (Ieee.double.word false (k * 4503599627370496 + m))] w fun e w' => e = .returned (.string (ftx false o ((k : Int) + t - 1074))) ∧ Grown w w' := by
  have hlt := hc.lt
  have hk := hc.le
  have hos : (o : Int) ≤ 9007199254740992 := by
    have : o * 1 ≤ o * 2 ^ t := Nat.mul_le_mul_left _ (Nat.two_pow_pos t)
    omega
  have hself := Flt.ord_self false hc
  have hzero := Flt.ord_zero false hc hm
  simp only [Bool.false_eq_true, if_false] at hzero
  have hF := Flt.F_word hc
  have hng := Flt.neg_word false (k * 4503599627370496 + m) (by have := hc.rung; omega)
  simp only [Bool.not_false] at hng
  have hzF := Flt.ord_zero false hc hm
  simp only [Bool.false_eq_true, if_false] at hzF
  rw [← hF] at hzF
  rw [← hF] at hself hzero ⊢
  have hnn := fun w => sp_nn_f _ hself w
  obtain ⟨r, hr1, hr2⟩ := Flt.F_halve (q := k) hm hlt hk
  have hmr := fun w => mul_run hr1 w
  obtain ⟨x, hx⟩ : ∃ x, x = Ieee.double.word true (k * 4503599627370496 + m) := ⟨_, rfl⟩
  clear hng
  have HA : Hid (m < 9007199254740992 ∧ k ≤ 2045 ∧ m = o * 2 ^ t ∧ o % 2 = 1 ∧ m ≠ 0 ∧ t ≤ 52 ∧ (o : Int) ≤ 9007199254740992) := (⟨hlt, hk, hmo, ho, hm, ht, hos⟩ : _ ∧ _ ∧ _ ∧ _ ∧ _ ∧ _ ∧ _)
  clear hr1 hF hc hlt hmo ho hm hx hos
  go_enter Tryd.func10, Tryd.ntmps10
  go_wp2_with (go_at_call 17; refine (hnn _).mono ?_; rintro e w ⟨rfl, rfl⟩)
  clear hnn hr2 hmr hself hzero hzF 
  go_loopw [0, 4] (fun s0 s4 wr => ∃ q : Nat, s0 = .float .f64 (Flt.F m q) ∧ s4 = .int .i64 ((q : Int) - k) ∧ k ≤ q ∧ (q = k ∨ q + t ≤ 1074) ∧ wr = w) (fun _ s4 _ => 3000 - (intOf s4).toNat)
  case atStart => exact ⟨k, rfl, by simp, Nat.le_refl _, .inl rfl, rfl⟩
  case round =>
    obtain ⟨q, rfl, rfl, hkq, hqt, rfl⟩ := hrel
    obtain ⟨hlt, hk, hmo, ho, hm, ht, hos⟩ := (show m < 9007199254740992 ∧ k ≤ 2045 ∧ m = o * 2 ^ t ∧ o % 2 = 1 ∧ m ≠ 0 ∧ t ≤ 52 ∧ (o : Int) ≤ 9007199254740992 from HA)
    have hq : q ≤ 2045 := by omega
    have hfl := fun w => spec_floor (Flt.F m q) (Flt.F_lt m q) w (by rw [Flt.F_order hlt hq hlt hq, Flt.cmp_eq rfl])
    by_cases g : q + t < 1074
    · have hgt := Flt.F_fl_gt hm hlt hq (by rw [hmo]; exact Flt.dv_no ho g)
      have hmul := fun w => mul_run (Flt.F_two (m := m) (q := q) hlt (by omega)) w
      have hwr : wrap64 ((q : Int) - k + 1) = (q : Int) - k + 1 := by unfold wrap64; omega
      clear hmo ho hm
      go_wp2_with (go_at_call 18; refine (hfl _).mono ?_; rintro e w ⟨rfl, rfl⟩)
      go_roundw
      case rel => exact ⟨q + 1, rfl, by first | (congr 1; omega) | (simp; omega), by omega, .inr (by omega), by first | trivial | rfl⟩
      case measure => simp [intOf]; omega
    · have heq := Flt.F_fl_eq hm hlt hq (by rw [hmo]; exact Flt.dv_yes (by omega))
      have HQ : Hid (1074 ≤ q + t ∧ q ≤ 2045 ∧ k ≤ q) := (⟨by omega, hq, hkq⟩ : _ ∧ _ ∧ _)
      have hwn : wrap64 (-((q : Int) - k)) = (k : Int) - q := by unfold wrap64; omega
      have hwn2 : wrap64 ((k : Int) - q) = (k : Int) - q := by unfold wrap64; omega
      clear hmo ho hm
      go_wp2_with (go_at_call 18; refine (hfl _).mono ?_; rintro e w ⟨rfl, rfl⟩)
      clear heq hfl
      obtain ⟨q1, hq1⟩ : ∃ q1, q1 = q := ⟨_, rfl⟩
      go_loopw [0, 4] (fun s0 s4 wr => ∃ q : Nat, s0 = .float .f64 (Flt.F m q) ∧ s4 = .int .i64 ((k : Int) - q) ∧ 1074 ≤ q + t ∧ q ≤ 2045 ∧ wr = w) (fun _ s4 _ => 6000 - (intOf s4 + 3000).toNat)
      case atStart => exact ⟨q, rfl, by first | rfl | (simp; omega), HQ.1, HQ.2.1, by first | trivial | rfl⟩
      case round =>
        clear hkq hqt hq HQ hwn hwn2 hq1 g
        obtain ⟨p, rfl, rfl, hpt, hp, rfl⟩ := hrel
        obtain ⟨_, _, hmo, ho, hm, _, _⟩ := (show m < 9007199254740992 ∧ k ≤ 2045 ∧ m = o * 2 ^ t ∧ o % 2 = 1 ∧ m ≠ 0 ∧ t ≤ 52 ∧ (o : Int) ≤ 9007199254740992 from HA)
        obtain ⟨p', rfl⟩ : ∃ p', p = p' + 1 := ⟨p - 1, by omega⟩
        have hfl := fun w => spec_floor (Flt.F m p') (Flt.F_lt m p') w (by rw [Flt.F_order hlt (by omega) hlt (by omega), Flt.cmp_eq rfl])
        have hmul := fun w => mul_run (Flt.F_half (m := m) (q := p') hlt hp) w
        by_cases g : 1074 ≤ p' + t
        · have heq := Flt.F_fl_eq (q := p') hm hlt (by omega) (by rw [hmo]; exact Flt.dv_yes g)
          have hwr : wrap64 ((k : Int) - ((p' + 1 : Nat) : Int) + 1) = (k : Int) - p' := by unfold wrap64; omega
          clear hmo ho hm
          go_wp2_with (go_at_call 18; refine (hfl _).mono ?_; rintro e w ⟨rfl, rfl⟩)
          go_roundw
          case rel => exact ⟨p', rfl, by first | rfl | (congr 1; omega) | (simp; omega), g, by omega, by first | trivial | rfl⟩
          case measure => simp [intOf]; omega
        · have hgt := Flt.F_fl_gt (q := p') hm hlt (by omega) (by rw [hmo]; exact Flt.dv_no ho (by omega))
          have hcv := fun w => conv_run (Flt.F_toInt (m := m) (q := p' + 1) (o := o) hlt hp (by rw [hmo, Nat.mul_assoc, ← Nat.pow_add]; unfold Flt.U Flt.eU; congr 2; omega) (by omega)) w
          have he : (k : Int) - ((p' + 1 : Nat) : Int) = (k : Int) + t - 1074 := by omega
          have hd1 := fun w => sp_dec (o : Int) (by omega) (by omega) w
          have hd2 := fun w => sp_dec ((k : Int) + t - 1074) (by omega) (by omega) w
          have l1 := itx_len (o : Int) (by omega) (by omega)
          have l2 := itx_len ((k : Int) + t - 1074) (by omega) (by omega)
          rw [he]
          obtain ⟨A, hA⟩ : ∃ A, A = itx (o : Int) := ⟨_, rfl⟩
          obtain ⟨B, hB⟩ : ∃ B, B = itx ((k : Int) + t - 1074) := ⟨_, rfl⟩
          have HR : Hid (ftx false o ((k : Int) + t - 1074) = ((⟨#[]⟩ ++ A) ++ ⟨#[112]⟩) ++ B) := by rw [hA, hB]; rfl
          rw [← hA] at hd1 l1
          rw [← hB] at hd2 l2
          clear hmo ho hm HA he hA hB
          go_wp2_with (go_at_call 18; refine (hfl _).mono ?_; rintro e w ⟨rfl, rfl⟩)
          refine (hd1 _).mono ?_
          rintro e w1 ⟨rfl, g1⟩
          have G1 : Hid (Grown w w1) := g1
          clear g1 hd1 hfl hmul hgt hcv
          have n1 : ¬ 9223372036854775807 < 1 + A.size := by omega
          have n2 : ¬ 9223372036854775807 < A.size := by omega
          have n3 : ¬ 9223372036854775807 < A.size + 1 := by omega
          have n4 : ¬ 9223372036854775807 < 1 + A.size + 1 := by omega
          have n5 : ¬ 9223372036854775807 < A.size + 1 + B.size := by omega
          have n6 : ¬ 9223372036854775807 < 1 + A.size + 1 + B.size := by omega
          go_wp2_with fail
          refine (hd2 _).mono ?_
          rintro e w2 ⟨rfl, g2⟩
          have G2 : Hid (Grown w w2) := Grown.trans G1 g2
          clear g2 hd2 G1
          go_wp2_with fail
          go_ret
          refine ⟨?_, G2⟩
          rw [show _ = _ from HR]
          first | rfl | (simp; done)
set_option maxHeartbeats 8000000 in
theorem sp_ft_true (m k o t : Nat) (hc : Flt.Canon m k) (hm : m ≠ 0) (hmo : m = o * 2 ^ t) (ho : o % 2 = 1) (ht : t ≤ 52) (w : World) : Calls Tryd.prog 10 #[.float .f64 (Ieee.double.word true (k * 4503599627370496 + m))] w fun e w' => e = .returned (.string (ftx true o ((k : Int) + t - 1074))) ∧ Grown w w' := by
  have hlt := hc.lt
  have hk := hc.le
  have hos : (o : Int) ≤ 9007199254740992 := by
    have : o * 1 ≤ o * 2 ^ t := Nat.mul_le_mul_left _ (Nat.two_pow_pos t)
    omega
  have hself := Flt.ord_self true hc
  have hzero := Flt.ord_zero true hc hm
  simp only [if_true] at hzero
  have hF := Flt.F_word hc
  have hng := Flt.neg_word true (k * 4503599627370496 + m) (by have := hc.rung; omega)
  simp only [Bool.not_true] at hng
  have hzF := Flt.ord_zero false hc hm
  simp only [Bool.false_eq_true, if_false] at hzF
  rw [← hF] at hzF
  rw [← hF] at hng
  have hnn := fun w => sp_nn_f _ hself w
  obtain ⟨r, hr1, hr2⟩ := Flt.F_halve (q := k) hm hlt hk
  have hmr := fun w => mul_run hr1 w
  obtain ⟨x, hx⟩ : ∃ x, x = Ieee.double.word true (k * 4503599627370496 + m) := ⟨_, rfl⟩
  rw [← hx] at hself hzero hng hnn ⊢
  have HA : Hid (m < 9007199254740992 ∧ k ≤ 2045 ∧ m = o * 2 ^ t ∧ o % 2 = 1 ∧ m ≠ 0 ∧ t ≤ 52 ∧ (o : Int) ≤ 9007199254740992) := (⟨hlt, hk, hmo, ho, hm, ht, hos⟩ : _ ∧ _ ∧ _ ∧ _ ∧ _ ∧ _ ∧ _)
  clear hr1 hF hc hlt hmo ho hm hx hos
  go_enter Tryd.func10, Tryd.ntmps10
  go_wp2_with (go_at_call 17; refine (hnn _).mono ?_; rintro e w ⟨rfl, rfl⟩)
  clear hnn hr2 hmr hself hzero hzF hng
  go_loopw [0, 4] (fun s0 s4 wr => ∃ q : Nat, s0 = .float .f64 (Flt.F m q) ∧ s4 = .int .i64 ((q : Int) - k) ∧ k ≤ q ∧ (q = k ∨ q + t ≤ 1074) ∧ wr = w) (fun _ s4 _ => 3000 - (intOf s4).toNat)
  case atStart => exact ⟨k, rfl, by simp, Nat.le_refl _, .inl rfl, rfl⟩
  case round =>
    obtain ⟨q, rfl, rfl, hkq, hqt, rfl⟩ := hrel
    obtain ⟨hlt, hk, hmo, ho, hm, ht, hos⟩ := (show m < 9007199254740992 ∧ k ≤ 2045 ∧ m = o * 2 ^ t ∧ o % 2 = 1 ∧ m ≠ 0 ∧ t ≤ 52 ∧ (o : Int) ≤ 9007199254740992 from HA)
    have hq : q ≤ 2045 := by omega
    have hfl := fun w => spec_floor (Flt.F m q) (Flt.F_lt m q) w (by rw [Flt.F_order hlt hq hlt hq, Flt.cmp_eq rfl])
    by_cases g : q + t < 1074
    · have hgt := Flt.F_fl_gt hm hlt hq (by rw [hmo]; exact Flt.dv_no ho g)
      have hmul := fun w => mul_run (Flt.F_two (m := m) (q := q) hlt (by omega)) w
      have hwr : wrap64 ((q : Int) - k + 1) = (q : Int) - k + 1 := by unfold wrap64; omega
      clear hmo ho hm
      go_wp2_with (go_at_call 18; refine (hfl _).mono ?_; rintro e w ⟨rfl, rfl⟩)
      go_roundw
      case rel => exact ⟨q + 1, rfl, by first | (congr 1; omega) | (simp; omega), by omega, .inr (by omega), by first | trivial | rfl⟩
      case measure => simp [intOf]; omega
    · have heq := Flt.F_fl_eq hm hlt hq (by rw [hmo]; exact Flt.dv_yes (by omega))
      have HQ : Hid (1074 ≤ q + t ∧ q ≤ 2045 ∧ k ≤ q) := (⟨by omega, hq, hkq⟩ : _ ∧ _ ∧ _)
      have hwn : wrap64 (-((q : Int) - k)) = (k : Int) - q := by unfold wrap64; omega
      have hwn2 : wrap64 ((k : Int) - q) = (k : Int) - q := by unfold wrap64; omega
      clear hmo ho hm
      go_wp2_with (go_at_call 18; refine (hfl _).mono ?_; rintro e w ⟨rfl, rfl⟩)
      clear heq hfl
      obtain ⟨q1, hq1⟩ : ∃ q1, q1 = q := ⟨_, rfl⟩
      go_loopw [0, 4] (fun s0 s4 wr => ∃ q : Nat, s0 = .float .f64 (Flt.F m q) ∧ s4 = .int .i64 ((k : Int) - q) ∧ 1074 ≤ q + t ∧ q ≤ 2045 ∧ wr = w) (fun _ s4 _ => 6000 - (intOf s4 + 3000).toNat)
      case atStart => exact ⟨q, rfl, by first | rfl | (simp; omega), HQ.1, HQ.2.1, by first | trivial | rfl⟩
      case round =>
        clear hkq hqt hq HQ hwn hwn2 hq1 g
        obtain ⟨p, rfl, rfl, hpt, hp, rfl⟩ := hrel
        obtain ⟨_, _, hmo, ho, hm, _, _⟩ := (show m < 9007199254740992 ∧ k ≤ 2045 ∧ m = o * 2 ^ t ∧ o % 2 = 1 ∧ m ≠ 0 ∧ t ≤ 52 ∧ (o : Int) ≤ 9007199254740992 from HA)
        obtain ⟨p', rfl⟩ : ∃ p', p = p' + 1 := ⟨p - 1, by omega⟩
        have hfl := fun w => spec_floor (Flt.F m p') (Flt.F_lt m p') w (by rw [Flt.F_order hlt (by omega) hlt (by omega), Flt.cmp_eq rfl])
        have hmul := fun w => mul_run (Flt.F_half (m := m) (q := p') hlt hp) w
        by_cases g : 1074 ≤ p' + t
        · have heq := Flt.F_fl_eq (q := p') hm hlt (by omega) (by rw [hmo]; exact Flt.dv_yes g)
          have hwr : wrap64 ((k : Int) - ((p' + 1 : Nat) : Int) + 1) = (k : Int) - p' := by unfold wrap64; omega
          clear hmo ho hm
          go_wp2_with (go_at_call 18; refine (hfl _).mono ?_; rintro e w ⟨rfl, rfl⟩)
          go_roundw
          case rel => exact ⟨p', rfl, by first | rfl | (congr 1; omega) | (simp; omega), g, by omega, by first | trivial | rfl⟩
          case measure => simp [intOf]; omega
        · have hgt := Flt.F_fl_gt (q := p') hm hlt (by omega) (by rw [hmo]; exact Flt.dv_no ho (by omega))
          have hcv := fun w => conv_run (Flt.F_toInt (m := m) (q := p' + 1) (o := o) hlt hp (by rw [hmo, Nat.mul_assoc, ← Nat.pow_add]; unfold Flt.U Flt.eU; congr 2; omega) (by omega)) w
          have he : (k : Int) - ((p' + 1 : Nat) : Int) = (k : Int) + t - 1074 := by omega
          have hd1 := fun w => sp_dec (o : Int) (by omega) (by omega) w
          have hd2 := fun w => sp_dec ((k : Int) + t - 1074) (by omega) (by omega) w
          have l1 := itx_len (o : Int) (by omega) (by omega)
          have l2 := itx_len ((k : Int) + t - 1074) (by omega) (by omega)
          rw [he]
          obtain ⟨A, hA⟩ : ∃ A, A = itx (o : Int) := ⟨_, rfl⟩
          obtain ⟨B, hB⟩ : ∃ B, B = itx ((k : Int) + t - 1074) := ⟨_, rfl⟩
          have HR : Hid (ftx true o ((k : Int) + t - 1074) = ((⟨#[45]⟩ ++ A) ++ ⟨#[112]⟩) ++ B) := by rw [hA, hB]; rfl
          rw [← hA] at hd1 l1
          rw [← hB] at hd2 l2
          clear hmo ho hm HA he hA hB
          go_wp2_with (go_at_call 18; refine (hfl _).mono ?_; rintro e w ⟨rfl, rfl⟩)
          refine (hd1 _).mono ?_
          rintro e w1 ⟨rfl, g1⟩
          have G1 : Hid (Grown w w1) := g1
          clear g1 hd1 hfl hmul hgt hcv
          have n1 : ¬ 9223372036854775807 < 1 + A.size := by omega
          have n2 : ¬ 9223372036854775807 < A.size := by omega
          have n3 : ¬ 9223372036854775807 < A.size + 1 := by omega
          have n4 : ¬ 9223372036854775807 < 1 + A.size + 1 := by omega
          have n5 : ¬ 9223372036854775807 < A.size + 1 + B.size := by omega
          have n6 : ¬ 9223372036854775807 < 1 + A.size + 1 + B.size := by omega
          go_wp2_with fail
          refine (hd2 _).mono ?_
          rintro e w2 ⟨rfl, g2⟩
          have G2 : Hid (Grown w w2) := Grown.trans G1 g2
          clear g2 hd2 G1
          go_wp2_with fail
          go_ret
          refine ⟨?_, G2⟩
          rw [show _ = _ from HR]
          first | rfl | (simp; done)
end Go.Proofs.YtladepgpandklaaDoor
