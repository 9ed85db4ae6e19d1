import Derived.Test.YtabffkfoafcmpabFra
namespace Go.Proofs.Ytabffkfoafcmpab.Flt
open Ieee
/-- n over 2 ^ d, to the nearest, of two the even one -/
def rne (n d : Nat) : Nat := n / 2 ^ d + (decide (2 ^ d < 2 * (n % 2 ^ d) ∨ 2 ^ d = 2 * (n % 2 ^ d) ∧ n / 2 ^ d % 2 = 1)).toNat
theorem bool_or_and (a b : Nat) (c : Nat) : (decide (a < b) || a == b && c % 2 == 1) = decide (a < b ∨ a = b ∧ c % 2 = 1) := by
  rw [Bool.eq_iff_iff]; simp
theorem rne_small (n d : Nat) (h : 2 * n < 2 ^ d) : rne n d = 0 := by
  unfold rne
  rw [Nat.div_eq_of_lt (by omega), Nat.mod_eq_of_lt (by omega)]
  have e2 : decide (2 ^ d < 2 * n ∨ 2 ^ d = 2 * n ∧ 0 % 2 = 1) = false := by simp; omega
  rw [e2]; rfl
theorem cut_even (s : Bool) (n d : Nat) : Toward.even.cut s n d = rne n d := by
  by_cases h : d ≤ n.log2 + 2
  · unfold Toward.cut rne
    simp only [Nat.shiftLeft_eq, Nat.one_mul]
    rw [Nat.min_eq_left h, bool_or_and]
  · have h1 : n < 2 ^ (n.log2 + 1) := Nat.lt_log2_self
    have h2 : 2 ^ (n.log2 + 2) = 2 * 2 ^ (n.log2 + 1) := by rw [Nat.pow_succ, Nat.mul_comm]
    have h3 : 2 ^ (n.log2 + 2) ≤ 2 ^ d := Nat.pow_le_pow_right (by omega) (by omega)
    rw [rne_small n d (by omega)]
    unfold Toward.cut
    simp only [Nat.shiftLeft_eq, Nat.one_mul]
    rw [Nat.min_eq_right (by omega)]
    have q1 : n / 2 ^ (n.log2 + 2) = 0 := Nat.div_eq_of_lt (by omega)
    have q2 : n % 2 ^ (n.log2 + 2) = n := Nat.mod_eq_of_lt (by omega)
    simp only [q1, q2, bool_or_and]
    have e1 : decide (2 ^ (n.log2 + 2) < 2 * n ∨ 2 ^ (n.log2 + 2) = 2 * n ∧ 0 % 2 = 1) = false := by simp; omega
    rw [e1]; rfl
theorem rne_zero (n : Nat) : rne n 0 = n := by unfold rne; simp [Nat.mod_one]
theorem rne_scale (n d z : Nat) : rne (n * 2 ^ z) (d + z) = rne n d := by
  unfold rne
  have hp := Nat.two_pow_pos z
  rw [Nat.pow_add, Nat.mul_div_mul_right _ _ hp, Nat.mul_mod_mul_right]
  have e : 2 * (n % 2 ^ d * 2 ^ z) = 2 * (n % 2 ^ d) * 2 ^ z := by rw [Nat.mul_assoc]
  rw [e]
  have e1 : (2 ^ d * 2 ^ z < 2 * (n % 2 ^ d) * 2 ^ z) ↔ (2 ^ d < 2 * (n % 2 ^ d)) := Nat.mul_lt_mul_right hp
  have e2 : (2 ^ d * 2 ^ z = 2 * (n % 2 ^ d) * 2 ^ z) ↔ (2 ^ d = 2 * (n % 2 ^ d)) := ⟨fun h => Nat.eq_of_mul_eq_mul_right hp h, fun h => congrArg (· * 2 ^ z) h⟩
  simp only [e1, e2]
theorem rne_le (n d : Nat) : rne n d ≤ n / 2 ^ d + 1 := by
  unfold rne
  have := Bool.toNat_le (decide (2 ^ d < 2 * (n % 2 ^ d) ∨ 2 ^ d = 2 * (n % 2 ^ d) ∧ n / 2 ^ d % 2 = 1))
  omega
theorem rne_ge (n d : Nat) : n / 2 ^ d ≤ rne n d := by unfold rne; omega
/-- the place of the last digit that is kept -/
def lastP (m : Nat) (e : Int) : Int := max (e + m.log2 - 52) (-1074)
def keptP (m : Nat) (e : Int) : Nat := rne (m * 2 ^ (e - lastP m e).toNat) (lastP m e - e).toNat
def nearW (m : Nat) (e : Int) : Nat := min ((lastP m e + 1074).toNat * 4503599627370496 + keptP m e) 9218868437227405312
theorem nearest_near (s : Bool) (m : Nat) (e : Int) (hm : m ≠ 0) : double.nearest s m e = double.word s (nearW m e) := by
  unfold Format.nearest
  rw [if_neg hm]
  have ef : double.fractionBits = 52 := rfl
  simp only [cut_even, Nat.shiftLeft_eq]
  rw [ef, c_lp, c_bn, c_ir]
  rfl
theorem near_scale (m : Nat) (e : Int) (z : Nat) (hm : m ≠ 0) : lastP (m * 2 ^ z) (e - z) = lastP m e ∧ keptP (m * 2 ^ z) (e - z) = keptP m e ∧ nearW (m * 2 ^ z) (e - z) = nearW m e := by
  have hl : lastP (m * 2 ^ z) (e - z) = lastP m e := by
    unfold lastP; rw [log2_mul_pow hm]; omega
  have hk : keptP (m * 2 ^ z) (e - z) = keptP m e := by
    unfold keptP
    rw [hl]
    generalize lastP m e = l
    by_cases h1 : l ≤ e - z
    · have a1 : (l - (e - (z : Int))).toNat = 0 := by omega
      have a2 : (l - e).toNat = 0 := by omega
      rw [a1, a2, rne_zero, rne_zero, Nat.mul_assoc, ← Nat.pow_add]
      congr 2; omega
    · by_cases h2 : l ≤ e
      · have a2 : (l - e).toNat = 0 := by omega
        have a3 : (e - (z : Int) - l).toNat = 0 := by omega
        rw [a2, rne_zero, a3, Nat.pow_zero, Nat.mul_one]
        have e1 : m * 2 ^ z = m * 2 ^ (e - l).toNat * 2 ^ (l - (e - (z : Int))).toNat := by
          rw [Nat.mul_assoc, ← Nat.pow_add]; congr 2; omega
        have := rne_scale (m * 2 ^ (e - l).toNat) 0 (l - (e - (z : Int))).toNat
        rw [Nat.zero_add] at this
        rw [e1, this, rne_zero]
      · have a3 : (e - (z : Int) - l).toNat = 0 := by omega
        have a4 : (e - l).toNat = 0 := by omega
        have a5 : (l - (e - (z : Int))).toNat = (l - e).toNat + z := by omega
        rw [a3, a4, a5, Nat.pow_zero, Nat.mul_one, Nat.mul_one, rne_scale]
  exact ⟨hl, hk, by unfold nearW; rw [hl, hk]⟩
theorem kept_norm (m : Nat) (e : Int) (hm : m ≠ 0) (h : lastP m e = e + m.log2 - 52) : 4503599627370496 ≤ keptP m e := by
  have h1 : 2 ^ m.log2 ≤ m := Nat.log2_self_le hm
  unfold keptP
  rw [h]
  by_cases hl : m.log2 ≤ 52
  · have a1 : (e - (e + m.log2 - 52)).toNat = 52 - m.log2 := by omega
    have a2 : (e + m.log2 - 52 - e).toNat = 0 := by omega
    rw [a1, a2, rne_zero]
    have h3 : 2 ^ m.log2 * 2 ^ (52 - m.log2) ≤ m * 2 ^ (52 - m.log2) := Nat.mul_le_mul_right _ h1
    rw [← Nat.pow_add] at h3
    have e1 : m.log2 + (52 - m.log2) = 52 := by omega
    rw [e1] at h3; exact h3
  · have a1 : (e - (e + m.log2 - 52)).toNat = 0 := by omega
    have a2 : (e + m.log2 - 52 - e).toNat = m.log2 - 52 := by omega
    rw [a1, a2, Nat.pow_zero, Nat.mul_one]
    refine Nat.le_trans ?_ (rne_ge _ _)
    rw [Nat.le_div_iff_mul_le (Nat.two_pow_pos _)]
    refine Nat.le_trans ?_ h1
    have : (4503599627370496 : Nat) = 2 ^ 52 := by decide
    rw [this, ← Nat.pow_add]
    exact Nat.pow_le_pow_right (by omega) (by omega)
theorem kept_le (m : Nat) (e : Int) : keptP m e ≤ 9007199254740992 := by
  have h2 : m < 2 ^ (m.log2 + 1) := Nat.lt_log2_self
  have hl : e + m.log2 - 52 ≤ lastP m e := by unfold lastP; omega
  unfold keptP
  generalize lastP m e = l at *
  by_cases h : l ≤ e
  · have a1 : (l - e).toNat = 0 := by omega
    rw [a1, rne_zero]
    have h3 : m * 2 ^ (e - l).toNat < 2 ^ (m.log2 + 1) * 2 ^ (e - l).toNat := Nat.mul_lt_mul_of_pos_right h2 (Nat.two_pow_pos _)
    rw [← Nat.pow_add] at h3
    have h4 : 2 ^ (m.log2 + 1 + (e - l).toNat) ≤ 2 ^ 53 := Nat.pow_le_pow_right (by omega) (by omega)
    omega
  · have a1 : (e - l).toNat = 0 := by omega
    rw [a1, Nat.pow_zero, Nat.mul_one]
    have h3 := rne_le m (l - e).toNat
    have h4 : m / 2 ^ (l - e).toNat < 2 ^ 53 := by
      rw [Nat.div_lt_iff_lt_mul (Nat.two_pow_pos _), ← Nat.pow_add]
      exact Nat.lt_of_lt_of_le h2 (Nat.pow_le_pow_right (by omega) (by omega))
    omega
theorem near_big (m : Nat) (e : Int) (hm : m ≠ 0) (h : 972 ≤ lastP m e) : nearW m e = 9218868437227405312 := by
  have h1 : lastP m e = e + m.log2 - 52 := by unfold lastP at *; omega
  have h2 := kept_norm m e hm h1
  unfold nearW
  have : 2046 ≤ (lastP m e + 1074).toNat := by omega
  omega
theorem near_zero (m : Nat) (e : Int) (hm : m < 18446744073709551616) (h : e < -1139) : nearW m e = 0 := by
  have hl : lastP m e = -1074 := by
    unfold lastP
    by_cases h0 : m = 0
    · subst h0; simp; omega
    · have : m.log2 < 64 := (Nat.log2_lt h0).2 (by omega)
      omega
  unfold nearW keptP
  rw [hl]
  have a1 : (e - -1074).toNat = 0 := by omega
  rw [a1, Nat.pow_zero, Nat.mul_one, rne_small]
  · rfl
  · have : 2 ^ 66 ≤ 2 ^ (-1074 - e).toNat := Nat.pow_le_pow_right (by omega) (by omega)
    omega
end Go.Proofs.Ytabffkfoafcmpab.Flt
