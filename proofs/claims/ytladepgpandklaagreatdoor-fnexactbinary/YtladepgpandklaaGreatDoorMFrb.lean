import Derived.Test.YtladepgpandklaaGreatDoorMFlz
import Derived.Test.YtladepgpandklaaGreatDoorMVca
import Derived.Laws.StructEq
import Derived.Test.YtladepgpandklaaGreatDoorMVak
import Derived.Shelf.Strconv.Itoa3
import Derived.Shelf.LaysM
import Derived.Shelf.Spec.TrailingZeros
namespace Go.Proofs.YtladepgpandklaaGreatDoor.Flt
open Ieee
theorem F_order {m q m' q' : Nat} (hm : m < 9007199254740992) (hq : q ≤ 2045) (hm' : m' < 9007199254740992) (hq' : q' ≤ 2045) : FloatKind.f64.format.order (F m q) (F m' q') = some (compare ((m * 2 ^ q : Nat) : Int) ((m' * 2 ^ q' : Nat) : Int)) := by
  obtain ⟨a, b, hr, hv⟩ := F_read hm hq
  obtain ⟨a', b', hr', hv'⟩ := F_read hm' hq'
  show double.order _ _ = _
  unfold Format.order
  rw [hr, hr', order_num, hv, hv']
  simp only [vl, Bool.false_eq_true, if_false]
theorem F_fl_eq {m q : Nat} (hm : m ≠ 0) (h : m < 9007199254740992) (hq : q ≤ 2045) (hd : m * 2 ^ q % U = 0) : FloatKind.f64.format.order (F m q) (floorW (F m q)) = some .eq := by
  obtain ⟨a, b, hc, h0, e⟩ := F_canon hm h hq
  have hx := F_eq hc h0 e
  have hr := read_word false hc
  rw [← hx] at hr
  rw [(floor_int hc h0 hr hx (by rw [e]; exact hd)).1, F_order h hq h hq, cmp_eq rfl]
theorem F_fl_gt {m q : Nat} (hm : m ≠ 0) (h : m < 9007199254740992) (hq : q ≤ 2045) (hd : m * 2 ^ q % U ≠ 0) : FloatKind.f64.format.order (F m q) (floorW (F m q)) = some .gt := by
  obtain ⟨a, b, hc, h0, e⟩ := F_canon hm h hq
  have hx := F_eq hc h0 e
  have hr := read_word false hc
  rw [← hx] at hr
  have hb : b < 1074 := Nat.lt_of_not_le fun g => hd (by rw [← e]; exact big_place a g)
  have hs := (small_place hc hb).2
  have hf := floor_num hr
  simp only [Bool.false_and, Bool.toNat_false, Nat.add_zero] at hf
  obtain ⟨m2, k2, g1, g2⟩ := int_float false (a * 2 ^ b / U) (by omega)
  rw [← hf] at g1
  show double.order _ _ = _
  unfold Format.order
  rw [hr, g1, order_num, g2]
  simp only [vl, Bool.false_eq_true, if_false]
  rw [cmp_gt]
  have h1 := Nat.div_add_mod (a * 2 ^ b) U
  rw [← e] at hd
  rw [Nat.mul_comm] at h1
  generalize a * 2 ^ b / U * U = X at *
  generalize a * 2 ^ b = V at *
  omega
theorem dv_yes {o t q : Nat} (h : 1074 ≤ q + t) : o * 2 ^ t * 2 ^ q % U = 0 := by
  rw [Nat.mul_assoc, ← Nat.pow_add]
  exact big_place o (by omega)
theorem dv_no {o t q : Nat} (ho : o % 2 = 1) (h : q + t < 1074) : o * 2 ^ t * 2 ^ q % U ≠ 0 := by
  rw [Nat.mul_assoc, ← Nat.pow_add]
  intro e
  have hU : U = 2 ^ (t + q) * (2 * 2 ^ (1073 - t - q)) := by
    unfold U eU
    rw [← Nat.pow_succ', ← Nat.pow_add]
    congr 1
    omega
  have hd := Nat.dvd_of_mod_eq_zero e
  rw [hU, Nat.mul_comm o] at hd
  have h2 := Nat.dvd_of_mul_dvd_mul_left (Nat.two_pow_pos _) hd
  have h3 : 2 ∣ o := Nat.dvd_trans ⟨_, rfl⟩ h2
  omega
theorem F_half0 {m : Nat} (h0 : m ≠ 0) (h : m < 9007199254740992) : ∃ r, floatBits .mul .f64 (F m 0) 4602678819172646912 = some r ∧ FloatKind.f64.format.order r (F m 0) = some .lt := by
  have hc : Canon m 0 := ⟨h, .inr rfl, by omega⟩
  have hx : F m 0 = double.word false (0 * 4503599627370496 + m) := F_eq hc h0 (by simp)
  have hr := read_word false hc
  rw [← hx] at hr
  obtain ⟨kept, hk, hkl⟩ : ∃ kept, double.nearest false (m * 4503599627370496) (((0 : Nat) : Int) - 1074 + (((eH : Nat) : Int) - 1074)) = double.word false (0 * 4503599627370496 + kept) ∧ kept < m := by
    have hl : (m * 4503599627370496).log2 = m.log2 + 52 := by
      have := log2_mul_pow h0 52
      rwa [show (2 : Nat) ^ 52 = 4503599627370496 by decide] at this
    have hl53 : m.log2 < 53 := (Nat.log2_lt h0).2 (by omega)
    have hl2 : m < 2 ^ (m.log2 + 1) := Nat.lt_log2_self
    have ef : double.fractionBits = 52 := rfl
    have eh : ((eH : Nat) : Int) = 1021 := by decide
    unfold Format.nearest
    rw [if_neg (by omega), hl, ef, c_lp, eh]
    have elast : max (((0 : Nat) : Int) - 1074 + (1021 - 1074) + ((m.log2 + 52 : Nat) : Int) - ((52 : Nat) : Int)) (-1074) = -1074 := by omega
    have e1 : (((0 : Nat) : Int) - 1074 + (1021 - 1074) - -1074).toNat = 0 := by omega
    have e2 : ((-1074 : Int) - (((0 : Nat) : Int) - 1074 + (1021 - 1074))).toNat = 53 := by omega
    have e3 : ((-1074 : Int) - -1074).toNat = 0 := by omega
    dsimp only
    rw [elast, e1, e2, e3, Nat.shiftLeft_zero, Nat.zero_mul, Nat.zero_add, c_ir]
    have hmin : min 53 ((m * 4503599627370496).log2 + 2) = 53 := by rw [hl]; omega
    refine ⟨Toward.even.cut false (m * 4503599627370496) 53, ?_, ?_⟩
    · have hcut : Toward.even.cut false (m * 4503599627370496) 53 ≤ m := by
        unfold Toward.cut
        rw [hmin]
        dsimp only
        rw [show (1 : Nat) <<< 53 = 9007199254740992 by decide]
        have hd : m * 4503599627370496 / 9007199254740992 = m / 2 := by omega
        have hr2 : m * 4503599627370496 % 9007199254740992 = m % 2 * 4503599627370496 := by omega
        rw [hd, hr2]
        have := Bool.toNat_le (decide (9007199254740992 < 2 * (m % 2 * 4503599627370496)) || 9007199254740992 == 2 * (m % 2 * 4503599627370496) && m / 2 % 2 == 1)
        omega
      rw [Nat.min_eq_left (by omega)]
      simp
    · unfold Toward.cut
      rw [hmin]
      dsimp only
      rw [show (1 : Nat) <<< 53 = 9007199254740992 by decide]
      have hd : m * 4503599627370496 / 9007199254740992 = m / 2 := by omega
      have hr2 : m * 4503599627370496 % 9007199254740992 = m % 2 * 4503599627370496 := by omega
      rw [hd, hr2]
      by_cases g : m ≤ 2
      · have : m = 1 ∨ m = 2 := by omega
        rcases this with rfl | rfl <;> decide
      · have := Bool.toNat_le (decide (9007199254740992 < 2 * (m % 2 * 4503599627370496)) || 9007199254740992 == 2 * (m % 2 * 4503599627370496) && m / 2 % 2 == 1)
        omega
  have hck : Canon kept 0 := ⟨by omega, .inr rfl, by omega⟩
  refine ⟨double.word false (0 * 4503599627370496 + kept), ?_, ?_⟩
  · show double.mul _ _ = _
    unfold Format.mul
    rw [hr, half_read]
    simp only [Datum.product, Bool.xor_false, Option.map_some, Format.write, Option.some.injEq]
    exact hk
  · show double.order _ _ = _
    unfold Format.order
    rw [read_word false hck, hr, order_num]
    simp only [vl, Bool.false_eq_true, if_false]
    rw [cmp_lt (by simp; omega)]
/-- half of a number is less -/
theorem F_halve {m q : Nat} (h0 : m ≠ 0) (h : m < 9007199254740992) (hq : q ≤ 2045) : ∃ r, floatBits .mul .f64 (F m q) 4602678819172646912 = some r ∧ FloatKind.f64.format.order r (F m q) = some .lt := by
  cases q with
  | zero => exact F_half0 h0 h
  | succ q =>
    refine ⟨F m q, F_half h hq, ?_⟩
    rw [F_order h (by omega) h hq, cmp_lt]
    rw [Nat.pow_succ]
    have := Nat.mul_pos (Nat.pos_of_ne_zero h0) (Nat.two_pow_pos q)
    rw [← Nat.mul_assoc]
    omega
/-- an odd number's float as an int -/
theorem F_toInt {m q o : Nat} (h : m < 9007199254740992) (hq : q ≤ 2045) (e : m * 2 ^ q = o * U) (ho : o < 9007199254740992) : floatToIntVal .f64 (F m q) .i64 = some (o : Int) := by
  obtain ⟨a, b, hr, hv⟩ := F_read h hq
  have hU := U_pos
  rw [conv_num hr (by rw [hv, e]; simp only [vl, Bool.false_eq_true, if_false]; have : (o : Int) * (U : Int) < 9223372036854775808 * (U : Int) := Int.mul_lt_mul_of_pos_right (by omega) (by omega); rw [Int.natCast_mul]; exact this) (by rw [hv]; simp only [vl, Bool.false_eq_true, if_false]; omega), hv, e, Nat.mul_div_cancel _ hU]
  rfl
end Go.Proofs.YtladepgpandklaaGreatDoor.Flt
namespace Go.Proofs.YtladepgpandklaaGreatDoor
open Go.ChangeShapes Go.WideShapes Go.ChangeAt Go.RowKit
set_option linter.unusedVariables false
set_option maxRecDepth 100000
theorem unary_negf' (k : FloatKind) (b : Nat) : Op.unary .neg (.float k b) = pure (.float k (Op.negFloat k b)) := rfl
attribute [local go_sem] unary_negf'
theorem mul_run {x y r : Nat} (h : floatBits .mul .f64 x y = some r) (w : World) : (binOp .mul 22 (.float .f64 x) (.float .f64 y)).run Tryz.prog w = .ok (.float .f64 r) w :=
  run_float_arith w .mul 22 .f64 _ _ _ h
theorem sp_nn_t (x : Nat) (hn : FloatKind.f64.format.order x x = none) (w : World) : Calls Tryz.prog 39 #[.float .f64 x] w fun e w' => e = .returned (.bool true) ∧ w' = w := by
  go_enter Tryz.func39, Tryz.ntmps39
  go_wp2_with fail
  go_ret
  exact ⟨rfl, rfl⟩
theorem sp_nn_f (x : Nat) (hn : FloatKind.f64.format.order x x = some .eq) (w : World) : Calls Tryz.prog 39 #[.float .f64 x] w fun e w' => e = .returned (.bool false) ∧ w' = w := by
  go_enter Tryz.func39, Tryz.ntmps39
  go_wp2_with fail
  go_ret
  exact ⟨rfl, rfl⟩
def sgb (s : Bool) : ByteArray := if s then ⟨#[45]⟩ else ⟨#[]⟩
/-- a float's text: an odd number and a power of two -/
def ftx (s : Bool) (o : Nat) (e : Int) : ByteArray := ((sgb s ++ itx o) ++ ⟨#[112]⟩) ++ itx e
set_option maxHeartbeats 8000000 in
theorem sp_ft_false (m k o t : Nat) (hc : Flt.Canon m k) (hm : m ≠ 0) (hmo : m = o * 2 ^ t) (ho : o % 2 = 1) (ht : t ≤ 52) (w : World) : Calls Tryz.prog 37 #[.float .f64 (Ieee.double.word false (k * 4503599627370496 + m))] w fun e w' => e = .returned (.string (ftx false o ((k : Int) + t - 1074))) ∧ Grown w w' := by
  have hlt := hc.lt
  have hk := hc.le
  have hos : (o : Int) ≤ 9007199254740992 := by
    have : o * 1 ≤ o * 2 ^ t := Nat.mul_le_mul_left _ (Nat.two_pow_pos t)
    omega
  have hself := Flt.ord_self false hc
  have hzero := Flt.ord_zero false hc hm
  simp only [Bool.false_eq_true, if_false] at hzero
  have hF := Flt.F_word hc
  have hng := Flt.neg_word false (k * 4503599627370496 + m) (by have := hc.rung; omega)
  simp only [Bool.not_false] at hng
  have hzF := Flt.ord_zero false hc hm
  simp only [Bool.false_eq_true, if_false] at hzF
  rw [← hF] at hzF
  rw [← hF] at hself hzero ⊢
  have hnn := fun w => sp_nn_f _ hself w
  obtain ⟨r, hr1, hr2⟩ := Flt.F_halve (q := k) hm hlt hk
  have hmr := fun w => mul_run hr1 w
  obtain ⟨x, hx⟩ : ∃ x, x = Ieee.double.word true (k * 4503599627370496 + m) := ⟨_, rfl⟩
  clear hng
  have HA : Hid (m < 9007199254740992 ∧ k ≤ 2045 ∧ m = o * 2 ^ t ∧ o % 2 = 1 ∧ m ≠ 0 ∧ t ≤ 52 ∧ (o : Int) ≤ 9007199254740992) := (⟨hlt, hk, hmo, ho, hm, ht, hos⟩ : _ ∧ _ ∧ _ ∧ _ ∧ _ ∧ _ ∧ _)
  clear hr1 hF hc hlt hmo ho hm hx hos
  go_enter Tryz.func37, Tryz.ntmps37
  go_wp2_with (go_at_call 39; refine (hnn _).mono ?_; rintro e w ⟨rfl, rfl⟩)
  clear hnn hr2 hmr hself hzero hzF 
  go_loopw [0, 4] (fun s0 s4 wr => ∃ q : Nat, s0 = .float .f64 (Flt.F m q) ∧ s4 = .int .i64 ((q : Int) - k) ∧ k ≤ q ∧ (q = k ∨ q + t ≤ 1074) ∧ wr = w) (fun _ s4 _ => 3000 - (intOf s4).toNat)
  case atStart => exact ⟨k, rfl, by simp, Nat.le_refl _, .inl rfl, rfl⟩
  case round =>
    obtain ⟨q, rfl, rfl, hkq, hqt, rfl⟩ := hrel
    obtain ⟨hlt, hk, hmo, ho, hm, ht, hos⟩ := (show m < 9007199254740992 ∧ k ≤ 2045 ∧ m = o * 2 ^ t ∧ o % 2 = 1 ∧ m ≠ 0 ∧ t ≤ 52 ∧ (o : Int) ≤ 9007199254740992 from HA)
    have hq : q ≤ 2045 := by omega
    have hfl := fun w => spec_floor (Flt.F m q) (Flt.F_lt m q) w (by rw [Flt.F_order hlt hq hlt hq, Flt.cmp_eq rfl])
    by_cases g : q + t < 1074
    · have hgt := Flt.F_fl_gt hm hlt hq (by rw [hmo]; exact Flt.dv_no ho g)
      have hmul := fun w => mul_run (Flt.F_two (m := m) (q := q) hlt (by omega)) w
      have hwr : wrap64 ((q : Int) - k + 1) = (q : Int) - k + 1 := by unfold wrap64; omega
      clear hmo ho hm
      go_wp2_with (go_at_call 44; refine (hfl _).mono ?_; rintro e w ⟨rfl, rfl⟩)
      go_roundw
      case rel => exact ⟨q + 1, rfl, by first | (congr 1; omega) | (simp; omega), by omega, .inr (by omega), by first | trivial | rfl⟩
      case measure => simp [intOf]; omega
    · have heq := Flt.F_fl_eq hm hlt hq (by rw [hmo]; exact Flt.dv_yes (by omega))
      have HQ : Hid (1074 ≤ q + t ∧ q ≤ 2045 ∧ k ≤ q) := (⟨by omega, hq, hkq⟩ : _ ∧ _ ∧ _)
      have hwn : wrap64 (-((q : Int) - k)) = (k : Int) - q := by unfold wrap64; omega
      have hwn2 : wrap64 ((k : Int) - q) = (k : Int) - q := by unfold wrap64; omega
      clear hmo ho hm
      go_wp2_with (go_at_call 44; refine (hfl _).mono ?_; rintro e w ⟨rfl, rfl⟩)
      clear heq hfl
      obtain ⟨q1, hq1⟩ : ∃ q1, q1 = q := ⟨_, rfl⟩
      go_loopw [0, 4] (fun s0 s4 wr => ∃ q : Nat, s0 = .float .f64 (Flt.F m q) ∧ s4 = .int .i64 ((k : Int) - q) ∧ 1074 ≤ q + t ∧ q ≤ 2045 ∧ wr = w) (fun _ s4 _ => 6000 - (intOf s4 + 3000).toNat)
      case atStart => exact ⟨q, rfl, by first | rfl | (simp; omega), HQ.1, HQ.2.1, by first | trivial | rfl⟩
      case round =>
        clear hkq hqt hq HQ hwn hwn2 hq1 g
        obtain ⟨p, rfl, rfl, hpt, hp, rfl⟩ := hrel
        obtain ⟨_, _, hmo, ho, hm, _, _⟩ := (show m < 9007199254740992 ∧ k ≤ 2045 ∧ m = o * 2 ^ t ∧ o % 2 = 1 ∧ m ≠ 0 ∧ t ≤ 52 ∧ (o : Int) ≤ 9007199254740992 from HA)
        obtain ⟨p', rfl⟩ : ∃ p', p = p' + 1 := ⟨p - 1, by omega⟩
        have hfl := fun w => spec_floor (Flt.F m p') (Flt.F_lt m p') w (by rw [Flt.F_order hlt (by omega) hlt (by omega), Flt.cmp_eq rfl])
        have hmul := fun w => mul_run (Flt.F_half (m := m) (q := p') hlt hp) w
        by_cases g : 1074 ≤ p' + t
        · have heq := Flt.F_fl_eq (q := p') hm hlt (by omega) (by rw [hmo]; exact Flt.dv_yes g)
          have hwr : wrap64 ((k : Int) - ((p' + 1 : Nat) : Int) + 1) = (k : Int) - p' := by unfold wrap64; omega
          clear hmo ho hm
          go_wp2_with (go_at_call 44; refine (hfl _).mono ?_; rintro e w ⟨rfl, rfl⟩)
          go_roundw
          case rel => exact ⟨p', rfl, by first | rfl | (congr 1; omega) | (simp; omega), g, by omega, by first | trivial | rfl⟩
          case measure => simp [intOf]; omega
        · have hgt := Flt.F_fl_gt (q := p') hm hlt (by omega) (by rw [hmo]; exact Flt.dv_no ho (by omega))
          have hcv := fun w => conv_run (Flt.F_toInt (m := m) (q := p' + 1) (o := o) hlt hp (by rw [hmo, Nat.mul_assoc, ← Nat.pow_add]; unfold Flt.U Flt.eU; congr 2; omega) (by omega)) w
          have he : (k : Int) - ((p' + 1 : Nat) : Int) = (k : Int) + t - 1074 := by omega
          have hd1 := fun w => sp_dec (o : Int) (by omega) (by omega) w
          have hd2 := fun w => sp_dec ((k : Int) + t - 1074) (by omega) (by omega) w
          have l1 := itx_len (o : Int) (by omega) (by omega)
          have l2 := itx_len ((k : Int) + t - 1074) (by omega) (by omega)
          rw [he]
          obtain ⟨A, hA⟩ : ∃ A, A = itx (o : Int) := ⟨_, rfl⟩
          obtain ⟨B, hB⟩ : ∃ B, B = itx ((k : Int) + t - 1074) := ⟨_, rfl⟩
          have HR : Hid (ftx false o ((k : Int) + t - 1074) = ((⟨#[]⟩ ++ A) ++ ⟨#[112]⟩) ++ B) := by rw [hA, hB]; rfl
          rw [← hA] at hd1 l1
          rw [← hB] at hd2 l2
          clear hmo ho hm HA he hA hB
          go_wp2_with (go_at_call 44; refine (hfl _).mono ?_; rintro e w ⟨rfl, rfl⟩)
          refine (hd1 _).mono ?_
          rintro e w1 ⟨rfl, g1⟩
          have G1 : Hid (Grown w w1) := g1
          clear g1 hd1 hfl hmul hgt hcv
          have n1 : ¬ 9223372036854775807 < 1 + A.size := by omega
          have n2 : ¬ 9223372036854775807 < A.size := by omega
          have n3 : ¬ 9223372036854775807 < A.size + 1 := by omega
          have n4 : ¬ 9223372036854775807 < 1 + A.size + 1 := by omega
          have n5 : ¬ 9223372036854775807 < A.size + 1 + B.size := by omega
          have n6 : ¬ 9223372036854775807 < 1 + A.size + 1 + B.size := by omega
          go_wp2_with fail
          refine (hd2 _).mono ?_
          rintro e w2 ⟨rfl, g2⟩
          have G2 : Hid (Grown w w2) := Grown.trans G1 g2
          clear g2 hd2 G1
          go_wp2_with fail
          go_ret
          refine ⟨?_, G2⟩
          rw [show _ = _ from HR]
          first | rfl | (simp; done)
set_option maxHeartbeats 8000000 in
theorem sp_ft_true (m k o t : Nat) (hc : Flt.Canon m k) (hm : m ≠ 0) (hmo : m = o * 2 ^ t) (ho : o % 2 = 1) (ht : t ≤ 52) (w : World) : Calls Tryz.prog 37 #[.float .f64 (Ieee.double.word true (k * 4503599627370496 + m))] w fun e w' => e = .returned (.string (ftx true o ((k : Int) + t - 1074))) ∧ Grown w w' := by
  have hlt := hc.lt
  have hk := hc.le
  have hos : (o : Int) ≤ 9007199254740992 := by
    have : o * 1 ≤ o * 2 ^ t := Nat.mul_le_mul_left _ (Nat.two_pow_pos t)
    omega
  have hself := Flt.ord_self true hc
  have hzero := Flt.ord_zero true hc hm
  simp only [if_true] at hzero
  have hF := Flt.F_word hc
  have hng := Flt.neg_word true (k * 4503599627370496 + m) (by have := hc.rung; omega)
  simp only [Bool.not_true] at hng
  have hzF := Flt.ord_zero false hc hm
  simp only [Bool.false_eq_true, if_false] at hzF
  rw [← hF] at hzF
  rw [← hF] at hng
  have hnn := fun w => sp_nn_f _ hself w
  obtain ⟨r, hr1, hr2⟩ := Flt.F_halve (q := k) hm hlt hk
  have hmr := fun w => mul_run hr1 w
  obtain ⟨x, hx⟩ : ∃ x, x = Ieee.double.word true (k * 4503599627370496 + m) := ⟨_, rfl⟩
  rw [← hx] at hself hzero hng hnn ⊢
  have HA : Hid (m < 9007199254740992 ∧ k ≤ 2045 ∧ m = o * 2 ^ t ∧ o % 2 = 1 ∧ m ≠ 0 ∧ t ≤ 52 ∧ (o : Int) ≤ 9007199254740992) := (⟨hlt, hk, hmo, ho, hm, ht, hos⟩ : _ ∧ _ ∧ _ ∧ _ ∧ _ ∧ _ ∧ _)
  clear hr1 hF hc hlt hmo ho hm hx hos
  go_enter Tryz.func37, Tryz.ntmps37
  go_wp2_with (go_at_call 39; refine (hnn _).mono ?_; rintro e w ⟨rfl, rfl⟩)
  clear hnn hr2 hmr hself hzero hzF hng
  go_loopw [0, 4] (fun s0 s4 wr => ∃ q : Nat, s0 = .float .f64 (Flt.F m q) ∧ s4 = .int .i64 ((q : Int) - k) ∧ k ≤ q ∧ (q = k ∨ q + t ≤ 1074) ∧ wr = w) (fun _ s4 _ => 3000 - (intOf s4).toNat)
  case atStart => exact ⟨k, rfl, by simp, Nat.le_refl _, .inl rfl, rfl⟩
  case round =>
    obtain ⟨q, rfl, rfl, hkq, hqt, rfl⟩ := hrel
    obtain ⟨hlt, hk, hmo, ho, hm, ht, hos⟩ := (show m < 9007199254740992 ∧ k ≤ 2045 ∧ m = o * 2 ^ t ∧ o % 2 = 1 ∧ m ≠ 0 ∧ t ≤ 52 ∧ (o : Int) ≤ 9007199254740992 from HA)
    have hq : q ≤ 2045 := by omega
    have hfl := fun w => spec_floor (Flt.F m q) (Flt.F_lt m q) w (by rw [Flt.F_order hlt hq hlt hq, Flt.cmp_eq rfl])
    by_cases g : q + t < 1074
    · have hgt := Flt.F_fl_gt hm hlt hq (by rw [hmo]; exact Flt.dv_no ho g)
      have hmul := fun w => mul_run (Flt.F_two (m := m) (q := q) hlt (by omega)) w
      have hwr : wrap64 ((q : Int) - k + 1) = (q : Int) - k + 1 := by unfold wrap64; omega
      clear hmo ho hm
      go_wp2_with (go_at_call 44; refine (hfl _).mono ?_; rintro e w ⟨rfl, rfl⟩)
      go_roundw
      case rel => exact ⟨q + 1, rfl, by first | (congr 1; omega) | (simp; omega), by omega, .inr (by omega), by first | trivial | rfl⟩
      case measure => simp [intOf]; omega
    · have heq := Flt.F_fl_eq hm hlt hq (by rw [hmo]; exact Flt.dv_yes (by omega))
      have HQ : Hid (1074 ≤ q + t ∧ q ≤ 2045 ∧ k ≤ q) := (⟨by omega, hq, hkq⟩ : _ ∧ _ ∧ _)
      have hwn : wrap64 (-((q : Int) - k)) = (k : Int) - q := by unfold wrap64; omega
      have hwn2 : wrap64 ((k : Int) - q) = (k : Int) - q := by unfold wrap64; omega
      clear hmo ho hm
      go_wp2_with (go_at_call 44; refine (hfl _).mono ?_; rintro e w ⟨rfl, rfl⟩)
      clear heq hfl
      obtain ⟨q1, hq1⟩ : ∃ q1, q1 = q := ⟨_, rfl⟩
      go_loopw [0, 4] (fun s0 s4 wr => ∃ q : Nat, s0 = .float .f64 (Flt.F m q) ∧ s4 = .int .i64 ((k : Int) - q) ∧ 1074 ≤ q + t ∧ q ≤ 2045 ∧ wr = w) (fun _ s4 _ => 6000 - (intOf s4 + 3000).toNat)
      case atStart => exact ⟨q, rfl, by first | rfl | (simp; omega), HQ.1, HQ.2.1, by first | trivial | rfl⟩
      case round =>
        clear hkq hqt hq HQ hwn hwn2 hq1 g
        obtain ⟨p, rfl, rfl, hpt, hp, rfl⟩ := hrel
        obtain ⟨_, _, hmo, ho, hm, _, _⟩ := (show m < 9007199254740992 ∧ k ≤ 2045 ∧ m = o * 2 ^ t ∧ o % 2 = 1 ∧ m ≠ 0 ∧ t ≤ 52 ∧ (o : Int) ≤ 9007199254740992 from HA)
        obtain ⟨p', rfl⟩ : ∃ p', p = p' + 1 := ⟨p - 1, by omega⟩
        have hfl := fun w => spec_floor (Flt.F m p') (Flt.F_lt m p') w (by rw [Flt.F_order hlt (by omega) hlt (by omega), Flt.cmp_eq rfl])
        have hmul := fun w => mul_run (Flt.F_half (m := m) (q := p') hlt hp) w
        by_cases g : 1074 ≤ p' + t
        · have heq := Flt.F_fl_eq (q := p') hm hlt (by omega) (by rw [hmo]; exact Flt.dv_yes g)
          have hwr : wrap64 ((k : Int) - ((p' + 1 : Nat) : Int) + 1) = (k : Int) - p' := by unfold wrap64; omega
          clear hmo ho hm
          go_wp2_with (go_at_call 44; refine (hfl _).mono ?_; rintro e w ⟨rfl, rfl⟩)
          go_roundw
          case rel => exact ⟨p', rfl, by first | rfl | (congr 1; omega) | (simp; omega), g, by omega, by first | trivial | rfl⟩
          case measure => simp [intOf]; omega
        · have hgt := Flt.F_fl_gt (q := p') hm hlt (by omega) (by rw [hmo]; exact Flt.dv_no ho (by omega))
          have hcv := fun w => conv_run (Flt.F_toInt (m := m) (q := p' + 1) (o := o) hlt hp (by rw [hmo, Nat.mul_assoc, ← Nat.pow_add]; unfold Flt.U Flt.eU; congr 2; omega) (by omega)) w
          have he : (k : Int) - ((p' + 1 : Nat) : Int) = (k : Int) + t - 1074 := by omega
          have hd1 := fun w => sp_dec (o : Int) (by omega) (by omega) w
          have hd2 := fun w => sp_dec ((k : Int) + t - 1074) (by omega) (by omega) w
          have l1 := itx_len (o : Int) (by omega) (by omega)
          have l2 := itx_len ((k : Int) + t - 1074) (by omega) (by omega)
          rw [he]
          obtain ⟨A, hA⟩ : ∃ A, A = itx (o : Int) := ⟨_, rfl⟩
          obtain ⟨B, hB⟩ : ∃ B, B = itx ((k : Int) + t - 1074) := ⟨_, rfl⟩
          have HR : Hid (ftx true o ((k : Int) + t - 1074) = ((⟨#[45]⟩ ++ A) ++ ⟨#[112]⟩) ++ B) := by rw [hA, hB]; rfl
          rw [← hA] at hd1 l1
          rw [← hB] at hd2 l2
          clear hmo ho hm HA he hA hB
          go_wp2_with (go_at_call 44; refine (hfl _).mono ?_; rintro e w ⟨rfl, rfl⟩)
          refine (hd1 _).mono ?_
          rintro e w1 ⟨rfl, g1⟩
          have G1 : Hid (Grown w w1) := g1
          clear g1 hd1 hfl hmul hgt hcv
          have n1 : ¬ 9223372036854775807 < 1 + A.size := by omega
          have n2 : ¬ 9223372036854775807 < A.size := by omega
          have n3 : ¬ 9223372036854775807 < A.size + 1 := by omega
          have n4 : ¬ 9223372036854775807 < 1 + A.size + 1 := by omega
          have n5 : ¬ 9223372036854775807 < A.size + 1 + B.size := by omega
          have n6 : ¬ 9223372036854775807 < 1 + A.size + 1 + B.size := by omega
          go_wp2_with fail
          refine (hd2 _).mono ?_
          rintro e w2 ⟨rfl, g2⟩
          have G2 : Hid (Grown w w2) := Grown.trans G1 g2
          clear g2 hd2 G1
          go_wp2_with fail
          go_ret
          refine ⟨?_, G2⟩
          rw [show _ = _ from HR]
          first | rfl | (simp; done)
end Go.Proofs.YtladepgpandklaaGreatDoor
namespace Go.Proofs.YtladepgpandklaaGreatDoor
open Go.Shelf
def renT : Go.Shelf.Ren := ⟨fun | 29 => 85 | n => n, fun | 0 => 0 | 3 => 3 | 4 => 4 | 5 => 5 | 22 => 56 | 25 => 92 | 54 => 93 | n => n, fun | 1 => 2 | n => n⟩
theorem laysT : Go.Proofs.Lays7.n29 Tryz.prog renT := {
  mixed := by kernel_rfl
  f29 := Tryz.func85.trans (congrArg some (by kernel_rfl))
  t0 := Tryz.underlying0
  a0 := Tryz.isAgg0
  z0 := Tryz.sizeOf0
  v0 := Tryz.zeroValue0
  i0 := by kernel_rfl
  t3 := Tryz.underlying3
  a3 := Tryz.isAgg3
  z3 := Tryz.sizeOf3
  v3 := Tryz.zeroValue3
  i3 := by kernel_rfl
  t4 := Tryz.underlying4
  a4 := Tryz.isAgg4
  z4 := Tryz.sizeOf4
  v4 := Tryz.zeroValue4
  i4 := by kernel_rfl
  t5 := Tryz.underlying5
  a5 := Tryz.isAgg5
  z5 := Tryz.sizeOf5
  v5 := Tryz.zeroValue5
  i5 := by kernel_rfl
  t22 := Tryz.underlying56
  a22 := Tryz.isAgg56
  z22 := Tryz.sizeOf56
  v22 := Tryz.zeroValue56
  i22 := by kernel_rfl
  t25 := Tryz.underlying92
  a25 := Tryz.isAgg92
  z25 := Tryz.sizeOf92
  v25 := Tryz.zeroValue92
  i25 := by kernel_rfl
  t54 := Tryz.underlying93
  a54 := Tryz.isAgg93
  z54 := Tryz.sizeOf93
  g1 := by kernel_rfl }
def renI : Go.Shelf.Ren := ⟨fun | 129 => 97 | 246 => 81 | 283 => 88 | 284 => 89 | 285 => 90 | 286 => 91 | 317 => 96 | 318 => 98 | 319 => 99 | 320 => 100 | 337 => 104 | 338 => 85 | n => n, fun | 0 => 0 | 2 => 2 | 3 => 3 | 4 => 4 | 5 => 5 | 9 => 9 | 20 => 20 | 37 => 62 | 46 => 92 | 51 => 97 | 53 => 56 | 171 => 87 | 173 => 89 | 212 => 96 | 213 => 98 | 232 => 102 | 233 => 93 | n => n, fun | 17 => 3 | 18 => 4 | 19 => 2 | n => n⟩
theorem laysI : Go.Proofs.LaysM.n246 Tryz.prog renI := {
  mixed := by kernel_rfl
  f129 := Tryz.func97.trans (congrArg some (by kernel_rfl))
  f246 := Tryz.func81.trans (congrArg some (by kernel_rfl))
  f283 := Tryz.func88.trans (congrArg some (by kernel_rfl))
  f284 := Tryz.func89.trans (congrArg some (by kernel_rfl))
  f285 := Tryz.func90.trans (congrArg some (by kernel_rfl))
  f286 := Tryz.func91.trans (congrArg some (by kernel_rfl))
  f317 := Tryz.func96.trans (congrArg some (by kernel_rfl))
  f318 := Tryz.func98.trans (congrArg some (by kernel_rfl))
  f319 := Tryz.func99.trans (congrArg some (by kernel_rfl))
  f320 := Tryz.func100.trans (congrArg some (by kernel_rfl))
  f337 := Tryz.func104.trans (congrArg some (by kernel_rfl))
  f338 := Tryz.func85.trans (congrArg some (by kernel_rfl))
  t0 := Tryz.underlying0
  a0 := Tryz.isAgg0
  z0 := Tryz.sizeOf0
  v0 := Tryz.zeroValue0
  t2 := Tryz.underlying2
  a2 := Tryz.isAgg2
  z2 := Tryz.sizeOf2
  v2 := Tryz.zeroValue2
  t3 := Tryz.underlying3
  a3 := Tryz.isAgg3
  z3 := Tryz.sizeOf3
  v3 := Tryz.zeroValue3
  t4 := Tryz.underlying4
  a4 := Tryz.isAgg4
  z4 := Tryz.sizeOf4
  v4 := Tryz.zeroValue4
  t5 := Tryz.underlying5
  a5 := Tryz.isAgg5
  z5 := Tryz.sizeOf5
  v5 := Tryz.zeroValue5
  t9 := Tryz.underlying9
  a9 := Tryz.isAgg9
  z9 := Tryz.sizeOf9
  v9 := Tryz.zeroValue9
  t20 := Tryz.underlying20
  a20 := Tryz.isAgg20
  z20 := Tryz.sizeOf20
  v20 := Tryz.zeroValue20
  t37 := Tryz.underlying62
  a37 := Tryz.isAgg62
  z37 := Tryz.sizeOf62
  v37 := Tryz.zeroValue62
  t46 := Tryz.underlying92
  a46 := Tryz.isAgg92
  z46 := Tryz.sizeOf92
  v46 := Tryz.zeroValue92
  t51 := Tryz.underlying97
  a51 := Tryz.isAgg97
  z51 := Tryz.sizeOf97
  v51 := Tryz.zeroValue97
  t53 := Tryz.underlying56
  a53 := Tryz.isAgg56
  z53 := Tryz.sizeOf56
  v53 := Tryz.zeroValue56
  t171 := Tryz.underlying87
  a171 := Tryz.isAgg87
  z171 := Tryz.sizeOf87
  v171 := Tryz.zeroValue87
  t173 := Tryz.underlying89
  a173 := Tryz.isAgg89
  z173 := Tryz.sizeOf89
  v173 := Tryz.zeroValue89
  t212 := Tryz.underlying96
  a212 := Tryz.isAgg96
  z212 := Tryz.sizeOf96
  v212 := Tryz.zeroValue96
  t213 := Tryz.underlying98
  a213 := Tryz.isAgg98
  z213 := Tryz.sizeOf98
  t232 := Tryz.underlying102
  a232 := Tryz.isAgg102
  z232 := Tryz.sizeOf102
  v232 := Tryz.zeroValue102
  t233 := Tryz.underlying93
  a233 := Tryz.isAgg93
  z233 := Tryz.sizeOf93
  v233 := Tryz.zeroValue93
  g17 := by kernel_rfl
  g18 := by kernel_rfl
  g19 := by kernel_rfl
  i0 := by kernel_rfl
  i2 := by kernel_rfl
  i3 := by kernel_rfl
  i4 := by kernel_rfl
  i5 := by kernel_rfl
  i9 := by kernel_rfl
  i20 := by kernel_rfl
  i37 := by kernel_rfl
  i46 := by kernel_rfl
  i51 := by kernel_rfl
  i53 := by kernel_rfl
  i171 := by kernel_rfl
  i173 := by kernel_rfl
  i212 := by kernel_rfl
  i232 := by kernel_rfl
  i233 := by kernel_rfl
  m17 := by kernel_rfl
  m18 := by kernel_rfl
  m19 := by kernel_rfl }
open Go.RowKit Go.Sort Go.Lib in
theorem format10 (n : Int) (h0 : -9223372036854775808 ≤ n) (h1 : n ≤ 9223372036854775807) (w : World) (htab : Lib.TabIs Tryz.prog w "internal/strconv.uint64pow10" .u64 Lib.pow10Tab) :
    Calls Tryz.prog 81 #[.int .i64 n, .int .i64 10] w fun e w' => e = .returned (.string ⟨(Lib.itoa n).toArray⟩) ∧ ∃ k os, w' = grow (w.drewN k) os := Any.internal_strconv_FormatInt_10 laysI n h0 h1 w htab
end Go.Proofs.YtladepgpandklaaGreatDoor
