import Derived.Test.YtgocahalfanpjaaDoorFlw
namespace Go.Proofs.YtgocahalfanpjaaDoor.Flt
open Ieee
def eC : Nat := 1085
theorem hi_read : double.read 4890909195324358656 = .number false 4503599627370496 (((eC : Nat) : Int) - 1074) := by decide
theorem lo_read : double.read 14114281232179134464 = .number true 4503599627370496 (((eC : Nat) : Int) - 1074) := by decide
theorem hi_val : 4503599627370496 * 2 ^ eC = 9223372036854775808 * U := by
  have h := pow_U eC (by decide)
  have e : eC - 1074 = 11 := by decide
  rw [e] at h
  rw [h, ← Nat.mul_assoc]
theorem zero_read : double.read 0 = .number false 0 (((0 : Nat) : Int) - 1074) := by decide
theorem cmp_lt {a b : Int} (h : a < b) : compare a b = .lt := Int.compare_eq_lt.2 h
theorem cmp_gt {a b : Int} (h : b < a) : compare a b = .gt := Int.compare_eq_gt.2 h
theorem cmp_eq {a b : Int} (h : a = b) : compare a b = .eq := by subst h; simp
/-- below the point there is nothing from 2 ^ 52 on -/
theorem small_place {m k : Nat} (h : Canon m k) (hk : k < 1074) : m * 2 ^ k < 4503599627370496 * U ∧ m * 2 ^ k / U < 4503599627370496 := by
  have h0 := h.lt
  have e : U = 2 ^ (1073 - k) * (2 * 2 ^ k) := by
    rw [U_eq (1074 - k) k (by omega)]
    have : 1074 - k = 1073 - k + 1 := by omega
    rw [this, Nat.pow_succ, Nat.mul_assoc]
  have h1 : 1 ≤ 2 ^ (1073 - k) := Nat.one_le_two_pow
  have h2 : 2 * 2 ^ k ≤ U := by rw [e]; exact Nat.le_mul_of_pos_left _ (by omega)
  have h3 : m * 2 ^ k < 9007199254740992 * 2 ^ k := Nat.mul_lt_mul_of_pos_right h0 (Nat.two_pow_pos k)
  have h4 : m * 2 ^ k < 4503599627370496 * U := by
    have : 9007199254740992 * 2 ^ k = 4503599627370496 * (2 * 2 ^ k) := by rw [← Nat.mul_assoc]
    have : 4503599627370496 * (2 * 2 ^ k) ≤ 4503599627370496 * U := Nat.mul_le_mul_left _ h2
    omega
  exact ⟨h4, (Nat.div_lt_iff_lt_mul U_pos).2 h4⟩
theorem big_place (m : Nat) {k : Nat} (hk : 1074 ≤ k) : m * 2 ^ k % U = 0 := by
  rw [pow_U k hk, ← Nat.mul_assoc, Nat.mul_mod_left]
theorem floor_num {x : Nat} {s : Bool} {m k : Nat} (hr : double.read x = .number s m ((k : Int) - 1074)) :
    floorW x = double.nearest s (m * 2 ^ k / U + (s && m * 2 ^ k % U != 0).toNat) 0 := by
  unfold floorW
  rw [hr, integral_num]
  rfl
theorem floor_int {x : Nat} {s : Bool} {m k : Nat} (hc : Canon m k) (hm : m ≠ 0) (hr : double.read x = .number s m ((k : Int) - 1074)) (hx : x = double.word s (k * 4503599627370496 + m))
    (h : m * 2 ^ k % U = 0) : floorW x = x ∧ double.nearest s (m * 2 ^ k / U) 0 = x := by
  have e : m * 2 ^ k / U * U = m * 2 ^ k := by
    have := Nat.div_add_mod (m * 2 ^ k) U
    rw [h, Nat.mul_comm] at this
    omega
  have n := nearest_int s _ hc hm e
  refine ⟨?_, by rw [n, ← hx]⟩
  rw [floor_num hr, h]
  simp only [bne_self_eq_false, Bool.and_false, Bool.toNat_false, Nat.add_zero]
  rw [n, ← hx]
theorem conv_num {x : Nat} {s : Bool} {m k : Nat} (hr : double.read x = .number s m ((k : Int) - 1074))
    (h1 : vl s (m * 2 ^ k) < 9223372036854775808 * (U : Int)) (h2 : -(9223372036854775808 * (U : Int)) ≤ vl s (m * 2 ^ k)) :
    floatToIntVal .f64 x .i64 = some (vl s (m * 2 ^ k / U)) := by
  have e : (FloatKind.f64.decode x).toInt .zero = some (vl s (m * 2 ^ k / U)) := by
    unfold FloatKind.decode
    show (double.read x).toInt .zero = _
    rw [hr]
    unfold Datum.toInt Datum.integral
    simp only [cut_zero, (units m k).1, signed_vl, Nat.pow_zero, Nat.mul_one]
  unfold floatToIntVal
  simp only [e]
  have hU := U_pos
  have hd : m * 2 ^ k / U * U ≤ m * 2 ^ k := Nat.div_mul_le_self _ _
  generalize m * 2 ^ k = V at *
  have b : -9223372036854775808 ≤ vl s (V / U) ∧ vl s (V / U) ≤ 9223372036854775807 := by
    cases s
    · simp only [vl, Bool.false_eq_true, if_false] at *
      have : V / U < 9223372036854775808 := (Nat.div_lt_iff_lt_mul hU).2 (by omega)
      generalize V / U = q at *
      omega
    · simp only [vl, if_true] at *
      have : V / U ≤ 9223372036854775808 := Nat.div_le_of_le_mul (by rw [Nat.mul_comm]; omega)
      generalize V / U = q at *
      omega
  have bb : IntKind.i64.min ≤ vl s (V / U) ∧ vl s (V / U) ≤ IntKind.i64.max := b
  rw [if_pos bb]
theorem order_nan {x : Nat} (h : ∃ s t, double.read x = .nan s t) : double.order x x = none := by
  obtain ⟨s, t, h⟩ := h
  unfold Format.order; rw [h]; rfl
theorem quiet_nan (s : Bool) (t : Nat) : double.order (double.write (.nan s (double.quiet t))) (double.write (.nan s (double.quiet t))) = none := by
  refine order_nan ?_
  have e : double.write (.nan s (double.quiet t)) = double.word s (9218868437227405312 + (t ||| 2 ^ 51) % 2 ^ 52) := by
    unfold Format.write; rw [c_ir]; rfl
  have h0 : (t ||| 2 ^ 51) % 2 ^ 52 ≠ 0 := by
    intro g
    have h : ((t ||| 2 ^ 51) % 2 ^ 52).testBit 51 = true := by
      rw [Nat.testBit_mod_two_pow, Nat.testBit_or, Nat.testBit_two_pow_self]; simp
    rw [g] at h
    simp at h
  have h1 : (t ||| 2 ^ 51) % 2 ^ 52 < 2 ^ 52 := Nat.mod_lt _ (by decide)
  rw [e]
  generalize (t ||| 2 ^ 51) % 2 ^ 52 = q at h0 h1
  obtain ⟨e1, e2⟩ := word_parts s (9218868437227405312 + q) (by omega)
  refine ⟨s, q, ?_⟩
  unfold Format.read
  simp only [e1, e2, c_bn, c_ir]
  rw [if_neg (by omega), if_neg (by omega), if_neg (by omega)]
  have e3 : 9218868437227405312 + q - 9218868437227405312 = q := by omega
  rw [e3]
theorem f64_double : FloatKind.f64.format = double := rfl
theorem nearest_eq (z : Int) : FloatKind.f64.nearest z = double.nearest (decide (z < 0)) z.natAbs 0 := rfl
theorem floor_facts (x : Nat) (hx : x < 18446744073709551616) :
    (FloatKind.f64.format.order x x = none) ∨
    (FloatKind.f64.format.order x x = some .eq ∧ floorW x = x ∧ (FloatKind.f64.format.order x 0 = some .eq ∨
      (FloatKind.f64.format.order x 0 = some .lt ∨ FloatKind.f64.format.order x 0 = some .gt) ∧
        ((FloatKind.f64.format.order x 4890909195324358656 = some .gt ∨ FloatKind.f64.format.order x 4890909195324358656 = some .eq) ∨
          FloatKind.f64.format.order x 4890909195324358656 = some .lt ∧ (FloatKind.f64.format.order x 14114281232179134464 = some .lt ∨ FloatKind.f64.format.order x 14114281232179134464 = some .eq)))) ∨
    (FloatKind.f64.format.order x x = some .eq ∧ (FloatKind.f64.format.order x 0 = some .lt ∨ FloatKind.f64.format.order x 0 = some .gt) ∧
      FloatKind.f64.format.order x 4890909195324358656 = some .lt ∧ FloatKind.f64.format.order x 14114281232179134464 = some .gt ∧
      ∃ z, floatToIntVal .f64 x .i64 = some z ∧
        (((FloatKind.f64.format.order (FloatKind.f64.nearest z) x = some .eq ∨ FloatKind.f64.format.order (FloatKind.f64.nearest z) x = some .lt) ∧ FloatKind.f64.nearest z = floorW x) ∨
         (FloatKind.f64.format.order (FloatKind.f64.nearest z) x = some .gt ∧ floatBits .sub .f64 (FloatKind.f64.nearest z) 4607182418800017408 = some (floorW x)))) := by
  simp only [f64_double]
  rcases read_cases x hx with ⟨s, t, hr⟩ | ⟨s, hr, hw⟩ | ⟨s, m, k, hc, hr, hw⟩
  · left; unfold Format.order; rw [hr]; rfl
  · right; left
    unfold Format.order floorW
    rw [hr, zero_read, hi_read, lo_read]
    refine ⟨by simp [Datum.order], ?_, Or.inr ?_⟩
    · rw [hw]; rfl
    · cases s <;> simp [Datum.order]
  · right
    have hU := U_pos
    have oxx : double.order x x = some .eq := by
      unfold Format.order; rw [hr, order_num, cmp_eq rfl]
    have ox0 : double.order x 0 = some (compare (vl s (m * 2 ^ k)) 0) := by
      unfold Format.order; rw [hr, zero_read, order_num]; simp [vl]
    have oxh : double.order x 4890909195324358656 = some (compare (vl s (m * 2 ^ k)) (9223372036854775808 * (U : Int))) := by
      unfold Format.order; rw [hr, hi_read, order_num, hi_val]; simp [vl]
    have oxl : double.order x 14114281232179134464 = some (compare (vl s (m * 2 ^ k)) (-(9223372036854775808 * (U : Int)))) := by
      unfold Format.order; rw [hr, lo_read, order_num, hi_val]; simp [vl]
    by_cases hm : m = 0
    · left
      subst hm
      refine ⟨oxx, ?_, Or.inl ?_⟩
      · rw [floor_num hr]
        have hk : k = 0 := by have := hc.low; omega
        subst hk
        simp [nearest_zero, hw]
      · rw [ox0]; cases s <;> simp [vl]
    · have hV : 0 < m * 2 ^ k := Nat.mul_pos (by omega) (Nat.two_pow_pos k)
      have o0 : double.order x 0 = some .lt ∨ double.order x 0 = some .gt := by
        rw [ox0]
        cases s
        · right; rw [cmp_gt]; simp only [vl, Bool.false_eq_true, if_false]; omega
        · left; rw [cmp_lt]; simp only [vl, if_true]; omega
      by_cases hbig : 9223372036854775808 * U ≤ m * 2 ^ k
      · left
        have hk : 1074 ≤ k := by
          refine Nat.le_of_not_lt fun g => ?_
          have := (small_place hc g).1
          omega
        refine ⟨oxx, (floor_int hc hm hr hw (big_place m hk)).1, Or.inr ⟨o0, ?_⟩⟩
        rw [oxh, oxl]
        generalize m * 2 ^ k = V at *
        cases s
        · left
          simp only [vl, Bool.false_eq_true, if_false]
          by_cases g : V = 9223372036854775808 * U
          · right; rw [cmp_eq (by omega)]
          · left; rw [cmp_gt (by omega)]
        · right
          simp only [vl, if_true]
          refine ⟨by rw [cmp_lt (by omega)], ?_⟩
          by_cases g : V = 9223372036854775808 * U
          · right; rw [cmp_eq (by omega)]
          · left; rw [cmp_lt (by omega)]
      · right
        have b1 : vl s (m * 2 ^ k) < 9223372036854775808 * (U : Int) := by
          generalize m * 2 ^ k = V at *
          cases s
          · simp only [vl, Bool.false_eq_true, if_false]; omega
          · simp only [vl, if_true]; omega
        have b2 : -(9223372036854775808 * (U : Int)) < vl s (m * 2 ^ k) := by
          generalize m * 2 ^ k = V at *
          cases s
          · simp only [vl, Bool.false_eq_true, if_false]; omega
          · simp only [vl, if_true]; omega
        refine ⟨oxx, o0, by rw [oxh, cmp_lt b1], by rw [oxl, cmp_gt b2], _, conv_num hr b1 (by omega), ?_⟩
        rw [nearest_eq]
        by_cases hz : m * 2 ^ k % U = 0
        · left
          obtain ⟨f1, f2⟩ := floor_int hc hm hr hw hz
          have hT : m * 2 ^ k / U ≠ 0 := by
            intro g
            have := Nat.div_add_mod (m * 2 ^ k) U
            rw [hz, g] at this
            omega
          have e : double.nearest (decide (vl s (m * 2 ^ k / U) < 0)) (vl s (m * 2 ^ k / U)).natAbs 0 = x := by
            rw [← f2]
            generalize m * 2 ^ k / U = T at *
            cases s
            · simp only [vl, Bool.false_eq_true, if_false]
              have : decide ((T : Int) < 0) = false := by simp
              rw [this]; simp
            · simp only [vl, if_true]
              have : decide (-(T : Int) < 0) = true := by simp; omega
              rw [this]; simp
          rw [e]
          exact ⟨Or.inl oxx, f1.symm⟩
        · have hk : k < 1074 := by
            refine Nat.lt_of_not_le fun g => hz (big_place m g)
          have hT := (small_place hc hk).2
          have hmod := Nat.mod_lt (m * 2 ^ k) hU
          have hdm := Nat.div_add_mod (m * 2 ^ k) U
          rw [Nat.mul_comm] at hdm
          rw [floor_num hr]
          have hb : (m * 2 ^ k % U != 0) = true := by simpa using hz
          rw [hb]
          have ord : ∀ s' : Bool, double.order (double.nearest s' (m * 2 ^ k / U) 0) x = some (compare (vl s' (m * 2 ^ k / U * U)) (vl s (m * 2 ^ k))) := fun s' => by
            obtain ⟨m', k', g1, g2⟩ := int_float s' (m * 2 ^ k / U) (by omega)
            unfold Format.order
            rw [g1, hr, order_num, g2]
          generalize m * 2 ^ k / U = T at *
          generalize m * 2 ^ k % U = R at *
          cases s
          · left
            have e : decide (vl false T < 0) = false := by simp [vl]
            have e2 : (vl false T).natAbs = T := by simp [vl]
            rw [e, e2]
            refine ⟨Or.inr ?_, by simp⟩
            rw [ord false, cmp_lt]
            simp only [vl, Bool.false_eq_true, if_false]
            omega
          · right
            have e2 : (vl true T).natAbs = T := by simp [vl]
            rw [e2]
            refine ⟨?_, ?_⟩
            · rw [ord, cmp_gt]
              cases decide (vl true T < 0) <;> simp only [vl, Bool.false_eq_true, if_false, if_true] <;> omega
            · show double.sub _ _ = _
              rw [less_one _ T ?_ hT]
              · simp
              · by_cases g : T = 0
                · exact Or.inr g
                · left; simp [vl]; omega
theorem zero_cases (x : Nat) (hx : x < 18446744073709551616) :
    (FloatKind.f64.format.order x x = none) ∨
    (FloatKind.f64.format.order x x = some .eq ∧ FloatKind.f64.format.order x 0 = some .eq ∧ (x = 0 ∨ x = 9223372036854775808)) ∨
    (FloatKind.f64.format.order x x = some .eq ∧ (FloatKind.f64.format.order x 0 = some .lt ∨ FloatKind.f64.format.order x 0 = some .gt)) := by
  simp only [f64_double]
  rcases read_cases x hx with ⟨s, t, hr⟩ | ⟨s, hr, hw⟩ | ⟨s, m, k, hc, hr, hw⟩
  · left; unfold Format.order; rw [hr]; rfl
  · right; right
    unfold Format.order
    rw [hr, zero_read]
    refine ⟨by simp [Datum.order], ?_⟩
    cases s <;> simp [Datum.order]
  · right
    have oxx : double.order x x = some .eq := by
      unfold Format.order; rw [hr, order_num, cmp_eq rfl]
    have ox0 : double.order x 0 = some (compare (vl s (m * 2 ^ k)) 0) := by
      unfold Format.order; rw [hr, zero_read, order_num]; simp [vl]
    by_cases hm : m = 0
    · left
      subst hm
      have hk : k = 0 := by have := hc.low; omega
      subst hk
      refine ⟨oxx, by rw [ox0]; cases s <;> simp [vl], ?_⟩
      rw [hw]
      cases s
      · left; rfl
      · right; rfl
    · right
      have hV : 0 < m * 2 ^ k := Nat.mul_pos (by omega) (Nat.two_pow_pos k)
      refine ⟨oxx, ?_⟩
      rw [ox0]
      cases s
      · right; rw [cmp_gt]; simp only [vl, Bool.false_eq_true, if_false]; omega
      · left; rw [cmp_lt]; simp only [vl, if_true]; omega
end Go.Proofs.YtgocahalfanpjaaDoor.Flt
