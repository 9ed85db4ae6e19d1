import Derived.Test.YtfpidccjcemcjaaFlx
namespace Go.Proofs.Ytfpidccjcemcjaa.Flt
open Ieee
theorem range_facts (x : Nat) (hx : x < 18446744073709551616) :
    (FloatKind.f64.format.order x x = none) ∨
    (FloatKind.f64.format.order x x = some .eq ∧
      (((FloatKind.f64.format.order x 4890909195324358656 = some .gt ∨ FloatKind.f64.format.order x 4890909195324358656 = some .eq) ∧ FloatKind.f64.format.order x 14114281232179134464 = some .gt) ∨
       (FloatKind.f64.format.order x 4890909195324358656 = some .lt ∧ FloatKind.f64.format.order x 14114281232179134464 = some .lt) ∨
       (FloatKind.f64.format.order x 4890909195324358656 = some .lt ∧ (FloatKind.f64.format.order x 14114281232179134464 = some .gt ∨ FloatKind.f64.format.order x 14114281232179134464 = some .eq) ∧
         ∃ z y, floatToIntVal .f64 x .i64 = some z ∧ floatToIntVal .f64 (floorW x) .i64 = some y))) := by
  simp only [f64_double]
  rcases read_cases x hx with ⟨s, t, hr⟩ | ⟨s, hr, hw⟩ | ⟨s, m, k, hc, hr, hw⟩
  · left; unfold Format.order; rw [hr]; rfl
  · right
    unfold Format.order
    rw [hr, hi_read, lo_read]
    refine ⟨by simp [Datum.order], ?_⟩
    cases s
    · left; simp [Datum.order]
    · right; left; simp [Datum.order]
  · right
    have hU := U_pos
    have oxx : double.order x x = some .eq := by
      unfold Format.order; rw [hr, order_num, cmp_eq rfl]
    have oxh : double.order x 4890909195324358656 = some (compare (vl s (m * 2 ^ k)) (9223372036854775808 * (U : Int))) := by
      unfold Format.order; rw [hr, hi_read, order_num, hi_val]; simp [vl]
    have oxl : double.order x 14114281232179134464 = some (compare (vl s (m * 2 ^ k)) (-(9223372036854775808 * (U : Int)))) := by
      unfold Format.order; rw [hr, lo_read, order_num, hi_val]; simp [vl]
    refine ⟨oxx, ?_⟩
    rw [oxh, oxl]
    by_cases h1 : vl s (m * 2 ^ k) < 9223372036854775808 * (U : Int)
    · right
      rw [cmp_lt h1]
      by_cases h2 : vl s (m * 2 ^ k) < -(9223372036854775808 * (U : Int))
      · left; rw [cmp_lt h2]; simp
      · right
        refine ⟨rfl, ?_, vl s (m * 2 ^ k / U), ?_⟩
        · by_cases h3 : vl s (m * 2 ^ k) = -(9223372036854775808 * (U : Int))
          · right; rw [cmp_eq h3]
          · left; rw [cmp_gt (by omega)]
        · have hz := conv_num hr h1 (by omega)
          by_cases hm : m = 0
          · subst hm
            have hk : k = 0 := by have := hc.low; omega
            subst hk
            have e : floorW x = x := by rw [floor_num hr]; simp [nearest_zero, hw]
            rw [e]
            exact ⟨_, hz, hz⟩
          by_cases hR : m * 2 ^ k % U = 0
          · rw [(floor_int hc hm hr hw hR).1]
            exact ⟨_, hz, hz⟩
          · have hk : k < 1074 := Nat.lt_of_not_le fun g => hR (big_place m g)
            have hT := (small_place hc hk).2
            obtain ⟨m', k', g1, g2⟩ := int_float s (m * 2 ^ k / U + (s && m * 2 ^ k % U != 0).toNat) (by
              have : (s && m * 2 ^ k % U != 0).toNat ≤ 1 := Bool.toNat_le _
              omega)
            rw [← floor_num hr] at g1
            have hle : (m * 2 ^ k / U + (s && m * 2 ^ k % U != 0).toNat) * U ≤ 4503599627370496 * U := Nat.mul_le_mul_right _ (by
              have : (s && m * 2 ^ k % U != 0).toNat ≤ 1 := Bool.toNat_le _
              omega)
            refine ⟨_, hz, conv_num g1 ?_ ?_⟩
            · rw [g2]
              generalize (m * 2 ^ k / U + (s && m * 2 ^ k % U != 0).toNat) * U = V at *
              cases s
              · simp only [vl, Bool.false_eq_true, if_false]; omega
              · simp only [vl, if_true]; omega
            · rw [g2]
              generalize (m * 2 ^ k / U + (s && m * 2 ^ k % U != 0).toNat) * U = V at *
              cases s
              · simp only [vl, Bool.false_eq_true, if_false]; omega
              · simp only [vl, if_true]; omega
    · left
      refine ⟨?_, by rw [cmp_gt (by omega)]⟩
      by_cases h3 : vl s (m * 2 ^ k) = 9223372036854775808 * (U : Int)
      · right; rw [cmp_eq h3]
      · left; rw [cmp_gt (by omega)]
theorem beq_opt (o p : Option Ordering) (h : o = some .eq ↔ p = some .eq) : (o != some .eq) = (p != some .eq) := by
  by_cases g : p = some .eq
  · rw [h.2 g, g]
  · have g2 : ¬ o = some .eq := fun e => g (h.1 e)
    have e1 : (o != some .eq) = true := by simpa using g2
    have e2 : (p != some .eq) = true := by simpa using g
    rw [e1, e2]
theorem cmp_swap (a b : Int) : compare a b = .eq ↔ compare b a = .eq := by
  rw [Int.compare_eq_eq, Int.compare_eq_eq]; exact eq_comm
theorem order_symm (x y : Nat) : (FloatKind.f64.format.order x y != some .eq) = (FloatKind.f64.format.order y x != some .eq) := by
  refine beq_opt _ _ ?_
  unfold Format.order
  generalize FloatKind.f64.format.read x = a
  generalize FloatKind.f64.format.read y = b
  cases a with
  | nan s t => cases b <;> simp [Datum.order]
  | infinity s =>
    cases b with
    | nan t u => simp [Datum.order]
    | infinity t => cases s <;> cases t <;> simp [Datum.order]
    | number t n j => cases s <;> simp [Datum.order]
  | number s m i =>
    cases b with
    | nan t u => simp [Datum.order]
    | infinity t => cases t <;> simp [Datum.order]
    | number t n j =>
      simp only [Datum.order, Option.some.injEq]
      rw [Int.min_comm j i]
      exact cmp_swap _ _
theorem floor_lt (x : Nat) : floorW x < 18446744073709551616 := double.write_lt _
end Go.Proofs.Ytfpidccjcemcjaa.Flt
