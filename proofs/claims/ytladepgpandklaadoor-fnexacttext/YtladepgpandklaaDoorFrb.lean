import Derived.Test.YtladepgpandklaaDoorFra
namespace Go.Proofs.YtladepgpandklaaDoor.Flt
open Ieee
theorem F_order {m q m' q' : Nat} (hm : m < 9007199254740992) (hq : q ≤ 2045) (hm' : m' < 9007199254740992) (hq' : q' ≤ 2045) : FloatKind.f64.format.order (F m q) (F m' q') = some (compare ((m * 2 ^ q : Nat) : Int) ((m' * 2 ^ q' : Nat) : Int)) := by
  obtain ⟨a, b, hr, hv⟩ := F_read hm hq
  obtain ⟨a', b', hr', hv'⟩ := F_read hm' hq'
  show double.order _ _ = _
  unfold Format.order
  rw [hr, hr', order_num, hv, hv']
  simp only [vl, Bool.false_eq_true, if_false]
theorem F_fl_eq {m q : Nat} (hm : m ≠ 0) (h : m < 9007199254740992) (hq : q ≤ 2045) (hd : m * 2 ^ q % U = 0) : FloatKind.f64.format.order (F m q) (floorW (F m q)) = some .eq := by
  obtain ⟨a, b, hc, h0, e⟩ := F_canon hm h hq
  have hx := F_eq hc h0 e
  have hr := read_word false hc
  rw [← hx] at hr
  rw [(floor_int hc h0 hr hx (by rw [e]; exact hd)).1, F_order h hq h hq, cmp_eq rfl]
theorem F_fl_gt {m q : Nat} (hm : m ≠ 0) (h : m < 9007199254740992) (hq : q ≤ 2045) (hd : m * 2 ^ q % U ≠ 0) : FloatKind.f64.format.order (F m q) (floorW (F m q)) = some .gt := by
  obtain ⟨a, b, hc, h0, e⟩ := F_canon hm h hq
  have hx := F_eq hc h0 e
  have hr := read_word false hc
  rw [← hx] at hr
  have hb : b < 1074 := Nat.lt_of_not_le fun g => hd (by rw [← e]; exact big_place a g)
  have hs := (small_place hc hb).2
  have hf := floor_num hr
  simp only [Bool.false_and, Bool.toNat_false, Nat.add_zero] at hf
  obtain ⟨m2, k2, g1, g2⟩ := int_float false (a * 2 ^ b / U) (by omega)
  rw [← hf] at g1
  show double.order _ _ = _
  unfold Format.order
  rw [hr, g1, order_num, g2]
  simp only [vl, Bool.false_eq_true, if_false]
  rw [cmp_gt]
  have h1 := Nat.div_add_mod (a * 2 ^ b) U
  rw [← e] at hd
  rw [Nat.mul_comm] at h1
  generalize a * 2 ^ b / U * U = X at *
  generalize a * 2 ^ b = V at *
  omega
theorem dv_yes {o t q : Nat} (h : 1074 ≤ q + t) : o * 2 ^ t * 2 ^ q % U = 0 := by
  rw [Nat.mul_assoc, ← Nat.pow_add]
  exact big_place o (by omega)
theorem dv_no {o t q : Nat} (ho : o % 2 = 1) (h : q + t < 1074) : o * 2 ^ t * 2 ^ q % U ≠ 0 := by
  rw [Nat.mul_assoc, ← Nat.pow_add]
  intro e
  have hU : U = 2 ^ (t + q) * (2 * 2 ^ (1073 - t - q)) := by
    unfold U eU
    rw [← Nat.pow_succ', ← Nat.pow_add]
    congr 1
    omega
  have hd := Nat.dvd_of_mod_eq_zero e
  rw [hU, Nat.mul_comm o] at hd
  have h2 := Nat.dvd_of_mul_dvd_mul_left (Nat.two_pow_pos _) hd
  have h3 : 2 ∣ o := Nat.dvd_trans ⟨_, rfl⟩ h2
  omega
theorem F_half0 {m : Nat} (h0 : m ≠ 0) (h : m < 9007199254740992) : ∃ r, floatBits .mul .f64 (F m 0) 4602678819172646912 = some r ∧ FloatKind.f64.format.order r (F m 0) = some .lt := by
  have hc : Canon m 0 := ⟨h, .inr rfl, by omega⟩
  have hx : F m 0 = double.word false (0 * 4503599627370496 + m) := F_eq hc h0 (by simp)
  have hr := read_word false hc
  rw [← hx] at hr
  obtain ⟨kept, hk, hkl⟩ : ∃ kept, double.nearest false (m * 4503599627370496) (((0 : Nat) : Int) - 1074 + (((eH : Nat) : Int) - 1074)) = double.word false (0 * 4503599627370496 + kept) ∧ kept < m := by
    have hl : (m * 4503599627370496).log2 = m.log2 + 52 := by
      have := log2_mul_pow h0 52
      rwa [show (2 : Nat) ^ 52 = 4503599627370496 by decide] at this
    have hl53 : m.log2 < 53 := (Nat.log2_lt h0).2 (by omega)
    have hl2 : m < 2 ^ (m.log2 + 1) := Nat.lt_log2_self
    have ef : double.fractionBits = 52 := rfl
    have eh : ((eH : Nat) : Int) = 1021 := by decide
    unfold Format.nearest
    rw [if_neg (by omega), hl, ef, c_lp, eh]
    have elast : max (((0 : Nat) : Int) - 1074 + (1021 - 1074) + ((m.log2 + 52 : Nat) : Int) - ((52 : Nat) : Int)) (-1074) = -1074 := by omega
    have e1 : (((0 : Nat) : Int) - 1074 + (1021 - 1074) - -1074).toNat = 0 := by omega
    have e2 : ((-1074 : Int) - (((0 : Nat) : Int) - 1074 + (1021 - 1074))).toNat = 53 := by omega
    have e3 : ((-1074 : Int) - -1074).toNat = 0 := by omega
    dsimp only
    rw [elast, e1, e2, e3, Nat.shiftLeft_zero, Nat.zero_mul, Nat.zero_add, c_ir]
    have hmin : min 53 ((m * 4503599627370496).log2 + 2) = 53 := by rw [hl]; omega
    refine ⟨Toward.even.cut false (m * 4503599627370496) 53, ?_, ?_⟩
    · have hcut : Toward.even.cut false (m * 4503599627370496) 53 ≤ m := by
        unfold Toward.cut
        rw [hmin]
        dsimp only
        rw [show (1 : Nat) <<< 53 = 9007199254740992 by decide]
        have hd : m * 4503599627370496 / 9007199254740992 = m / 2 := by omega
        have hr2 : m * 4503599627370496 % 9007199254740992 = m % 2 * 4503599627370496 := by omega
        rw [hd, hr2]
        have := Bool.toNat_le (decide (9007199254740992 < 2 * (m % 2 * 4503599627370496)) || 9007199254740992 == 2 * (m % 2 * 4503599627370496) && m / 2 % 2 == 1)
        omega
      rw [Nat.min_eq_left (by omega)]
      simp
    · unfold Toward.cut
      rw [hmin]
      dsimp only
      rw [show (1 : Nat) <<< 53 = 9007199254740992 by decide]
      have hd : m * 4503599627370496 / 9007199254740992 = m / 2 := by omega
      have hr2 : m * 4503599627370496 % 9007199254740992 = m % 2 * 4503599627370496 := by omega
      rw [hd, hr2]
      by_cases g : m ≤ 2
      · have : m = 1 ∨ m = 2 := by omega
        rcases this with rfl | rfl <;> decide
      · have := Bool.toNat_le (decide (9007199254740992 < 2 * (m % 2 * 4503599627370496)) || 9007199254740992 == 2 * (m % 2 * 4503599627370496) && m / 2 % 2 == 1)
        omega
  have hck : Canon kept 0 := ⟨by omega, .inr rfl, by omega⟩
  refine ⟨double.word false (0 * 4503599627370496 + kept), ?_, ?_⟩
  · show double.mul _ _ = _
    unfold Format.mul
    rw [hr, half_read]
    simp only [Datum.product, Bool.xor_false, Option.map_some, Format.write, Option.some.injEq]
    exact hk
  · show double.order _ _ = _
    unfold Format.order
    rw [read_word false hck, hr, order_num]
    simp only [vl, Bool.false_eq_true, if_false]
    rw [cmp_lt (by simp; omega)]
/-- half of a number is less -/
theorem F_halve {m q : Nat} (h0 : m ≠ 0) (h : m < 9007199254740992) (hq : q ≤ 2045) : ∃ r, floatBits .mul .f64 (F m q) 4602678819172646912 = some r ∧ FloatKind.f64.format.order r (F m q) = some .lt := by
  cases q with
  | zero => exact F_half0 h0 h
  | succ q =>
    refine ⟨F m q, F_half h hq, ?_⟩
    rw [F_order h (by omega) h hq, cmp_lt]
    rw [Nat.pow_succ]
    have := Nat.mul_pos (Nat.pos_of_ne_zero h0) (Nat.two_pow_pos q)
    rw [← Nat.mul_assoc]
    omega
/-- an odd number's float as an int -/
theorem F_toInt {m q o : Nat} (h : m < 9007199254740992) (hq : q ≤ 2045) (e : m * 2 ^ q = o * U) (ho : o < 9007199254740992) : floatToIntVal .f64 (F m q) .i64 = some (o : Int) := by
  obtain ⟨a, b, hr, hv⟩ := F_read h hq
  have hU := U_pos
  rw [conv_num hr (by rw [hv, e]; simp only [vl, Bool.false_eq_true, if_false]; have : (o : Int) * (U : Int) < 9223372036854775808 * (U : Int) := Int.mul_lt_mul_of_pos_right (by omega) (by omega); rw [Int.natCast_mul]; exact this) (by rw [hv]; simp only [vl, Bool.false_eq_true, if_false]; omega), hv, e, Nat.mul_div_cancel _ hU]
  rfl
end Go.Proofs.YtladepgpandklaaDoor.Flt
