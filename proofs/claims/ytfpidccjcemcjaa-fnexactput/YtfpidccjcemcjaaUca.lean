import Derived.Test.YtfpidccjcemcjaaUae
import Derived.Test.YtfpidccjcemcjaaVay
namespace Go.Proofs.Ytfpidccjcemcjaa.Flt
open Ieee
/-- floats that are the same number and no zeros have the same bits -/
theorem order_eq (x y : Nat) (hx : x < 18446744073709551616) (hy : y < 18446744073709551616) (h : FloatKind.f64.format.order x y = some .eq) (h0 : FloatKind.f64.format.order x 0 ≠ some .eq) : x = y := by
  simp only [f64_double] at h h0
  unfold Format.order at h h0
  rcases read_cases x hx with ⟨s, t, hr⟩ | ⟨s, hr, hw⟩ | ⟨s, m, k, hc, hr, hw⟩
  · rw [hr] at h; simp [Datum.order] at h
  · rcases read_cases y hy with ⟨s', t', hr'⟩ | ⟨s', hr', hw'⟩ | ⟨s', m', k', hc', hr', hw'⟩
    · rw [hr, hr'] at h; simp [Datum.order] at h
    · rw [hr, hr'] at h
      have : s = s' := by cases s <;> cases s' <;> simp_all [Datum.order]
      rw [hw, hw', this]
    · rw [hr, hr'] at h; cases s <;> simp [Datum.order] at h
  · rcases read_cases y hy with ⟨s', t', hr'⟩ | ⟨s', hr', hw'⟩ | ⟨s', m', k', hc', hr', hw'⟩
    · rw [hr, hr'] at h; simp [Datum.order] at h
    · rw [hr, hr'] at h; cases s' <;> simp [Datum.order] at h
    · rw [hr, hr', order_num] at h
      rw [hr, zero_read, order_num] at h0
      have h1 : vl s (m * 2 ^ k) = vl s' (m' * 2 ^ k') := by simpa using h
      have h2 : vl s (m * 2 ^ k) ≠ 0 := by
        intro e
        apply h0
        rw [cmp_eq]
        rw [e]
        simp [vl]
      have hm : m ≠ 0 := by
        rintro rfl
        apply h2
        cases s <;> simp [vl]
      have hv : 0 < m * 2 ^ k := Nat.mul_pos (by omega) (Nat.two_pow_pos k)
      have hs : s = s' ∧ m * 2 ^ k = m' * 2 ^ k' := by
        generalize m * 2 ^ k = a at *
        generalize m' * 2 ^ k' = b at *
        cases s <;> cases s' <;> simp [vl] at h1 ⊢ <;> omega
      obtain ⟨rfl, he⟩ := hs
      have hm' : m' ≠ 0 := by
        rintro rfl
        simp at he
        omega
      have n1 := nearest_val s hc m k hm rfl
      have n2 := nearest_val s hc' m k hm' he
      rw [hw, hw', ← n1, ← n2]
/-- a float is not below its floor -/
theorem floor_le (x : Nat) (hx : x < 18446744073709551616) (hn : FloatKind.f64.format.order x x = some .eq) (h : (FloatKind.f64.format.order x (floorW x) == some .eq) = false) : FloatKind.f64.format.order x (floorW x) = some .gt := by
  simp only [f64_double] at h hn ⊢
  rcases read_cases x hx with ⟨s, t, hr⟩ | ⟨s, hr, hw⟩ | ⟨s, m, k, hc, hr, hw⟩
  · unfold Format.order at hn; rw [hr] at hn; simp [Datum.order] at hn
  · have e : floorW x = x := by
      unfold floorW
      rw [hr, hw]
      rfl
    rw [e, hn] at h
    cases h
  · by_cases hm : m = 0
    · subst hm
      have e : floorW x = x := by
        have hk : k = 0 := by have := hc.low; omega
        subst hk
        rw [floor_num hr]
        simp
        rw [nearest_zero, hw]
      rw [e, hn] at h
      cases h
    by_cases hU : m * 2 ^ k % U = 0
    · rw [(floor_int hc hm hr hw hU).1, hn] at h
      cases h
    have hk : k < 1074 := by
      rcases Nat.lt_or_ge k 1074 with g | g
      · exact g
      · exact absurd (big_place m g) hU
    obtain ⟨p1, p2⟩ := small_place hc hk
    have e := floor_num hr
    obtain ⟨T, hT⟩ : ∃ T, T = m * 2 ^ k / U + (s && m * 2 ^ k % U != 0).toNat := ⟨_, rfl⟩
    rw [← hT] at e
    have hb : (m * 2 ^ k % U != 0) = true := by simpa using hU
    rw [hb] at hT
    have hTl : T < 9007199254740992 := by
      rw [hT]
      cases s <;> simp <;> omega
    obtain ⟨m2, k2, r2, e2⟩ := int_float s T hTl
    rw [e]
    unfold Format.order
    rw [hr, r2, order_num, e2]
    have hd := Nat.div_add_mod (m * 2 ^ k) U
    have hlt := Nat.mod_lt (m * 2 ^ k) U_pos
    congr 1
    apply cmp_gt
    have hUp := U_pos
    rw [hT]
    generalize m * 2 ^ k / U = q at *
    generalize m * 2 ^ k % U = r at *
    generalize m * 2 ^ k = v at *
    have e3 : U * q = q * U := Nat.mul_comm _ _
    have e4 : (q + 1) * U = q * U + U := by rw [Nat.add_mul, Nat.one_mul]
    generalize U = u at *
    cases s
    · simp [vl]
      have : q * u < v := by omega
      exact_mod_cast this
    · simp [vl]
      have : v < (q + 1) * u := by omega
      exact_mod_cast this
end Go.Proofs.Ytfpidccjcemcjaa.Flt
