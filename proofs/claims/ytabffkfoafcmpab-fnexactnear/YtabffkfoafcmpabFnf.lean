import Derived.Test.YtabffkfoafcmpabFne
import Derived.WalkKit
namespace Go.Proofs.Ytabffkfoafcmpab.Flt
open Ieee
theorem norm_last {M : Nat} {E : Int} (h1 : 9223372036854775808 ≤ M) (h2 : M < 18446744073709551616) : lastP M E = max (E + 11) (-1074) := by
  have h0 : M ≠ 0 := by omega
  have a : M.log2 < 64 := (Nat.log2_lt h0).2 (by omega)
  have b : 63 ≤ M.log2 := (Nat.le_log2 h0).2 (by omega)
  unfold lastP; omega
theorem norm_kept {M : Nat} {E l : Int} (hl : lastP M E = l) (h : E ≤ l) : keptP M E = rne M (l - E).toNat := by
  unfold keptP
  rw [hl]
  have : (E - l).toNat = 0 := by omega
  rw [this, Nat.pow_zero, Nat.mul_one]
theorem fin_zero {M : Nat} {E : Int} (h1 : 9223372036854775808 ≤ M) (h2 : M < 18446744073709551616) (h3 : E < -1138) : nearW M E = 0 := by
  have hl := norm_last (E := E) h1 h2
  have e1 : max (E + 11) (-1074) = -1074 := by omega
  rw [e1] at hl
  unfold nearW
  rw [norm_kept hl (by omega), hl, rne_small]
  · rfl
  · have : 2 ^ 65 ≤ 2 ^ (-1074 - E).toNat := Nat.pow_le_pow_right (by omega) (by omega)
    omega
theorem fin_high {M : Nat} {E : Int} (h1 : 9223372036854775808 ≤ M) (h2 : M < 18446744073709551616) (h3 : 971 < E + 11) : nearW M E = 9218868437227405312 :=
  near_big M E (by omega) (by rw [norm_last h1 h2]; omega)
theorem fin_canon {M : Nat} {E l : Int} (h1 : 9223372036854775808 ≤ M) (h2 : M < 18446744073709551616) (hl : lastP M E = l) : 4503599627370496 ≤ keptP M E ∨ l = -1074 := by
  have h0 : M ≠ 0 := by omega
  by_cases h : l = -1074
  · exact Or.inr h
  · left
    refine kept_norm M E h0 ?_
    unfold lastP at *
    omega
theorem fin_carry {M : Nat} {E l : Int} (hl : lastP M E = l) (hK : keptP M E = 9007199254740992) :
    (971 < l + 1 → nearW M E = 9218868437227405312) ∧ (l + 1 ≤ 971 → nearW M E = F 4503599627370496 (l + 1 + 1074).toNat) := by
  have hb : -1074 ≤ l := by unfold lastP at hl; omega
  unfold nearW
  rw [hK, hl]
  refine ⟨fun h => by omega, fun h => ?_⟩
  rw [F_word ⟨by omega, Or.inl (by omega), by omega⟩]
  show _ = (l + 1 + 1074).toNat * 4503599627370496 + 4503599627370496
  omega
theorem fin_plain {M : Nat} {E l : Int} (h1 : 9223372036854775808 ≤ M) (h2 : M < 18446744073709551616) (hl : lastP M E = l) (hK : keptP M E ≠ 9007199254740992) :
    (971 < l → nearW M E = 9218868437227405312) ∧ (l ≤ 971 → nearW M E = F (keptP M E) (l + 1074).toNat) := by
  have hb : -1074 ≤ l := by unfold lastP at hl; omega
  have hc := fin_canon h1 h2 hl
  have hk := kept_le M E
  refine ⟨fun h => near_big M E (by omega) (by omega), fun h => ?_⟩
  unfold nearW
  rw [hl, F_word ⟨by omega, by omega, by omega⟩]
  show _ = (l + 1074).toNat * 4503599627370496 + keptP M E
  omega
/-- the cut of M at d bits, as the program reckons it -/
theorem cut_parts (M d : Nat) (h : M < 18446744073709551616) (hd0 : 0 < d) (hd : d ≤ 64) :
    ∃ L R H : Nat, (M : Int) / 2 ^ d = (L : Int) ∧ IntKind.u64.wrap ((M : Int) - IntKind.u64.wrap ((L : Int) * 2 ^ d)) = (R : Int) ∧ IntKind.u64.wrap (2 ^ (d - 1)) = (H : Int) ∧
      L * 2 ^ d ≤ M ∧ rne M d = L + (decide (H < R ∨ H = R ∧ L % 2 = 1)).toNat ∧ (d = 64 → L = 0 ∧ R = M ∧ H = 9223372036854775808) := by
  have hp := Nat.two_pow_pos d
  have hH : 2 ^ d = 2 * 2 ^ (d - 1) := by
    have : d = d - 1 + 1 := by omega
    rw [this, Nat.pow_succ, Nat.mul_comm]
    simp
  have hH2 : 2 ^ (d - 1) ≤ 2 ^ 63 := Nat.pow_le_pow_right (by omega) (by omega)
  have hdm := Nat.div_add_mod M (2 ^ d)
  have hmod := Nat.mod_lt M hp
  refine ⟨M / 2 ^ d, M % 2 ^ d, 2 ^ (d - 1), by simp, ?_, ?_, Nat.div_mul_le_self _ _, ?_, ?_⟩
  · have e1 : (((M / 2 ^ d : Nat) : Int) * 2 ^ d) = ((M / 2 ^ d * 2 ^ d : Nat) : Int) := by simp
    rw [e1, IntKind.wrap_u64, IntKind.wrap_u64]
    rw [Nat.mul_comm] at hdm
    generalize M / 2 ^ d * 2 ^ d = q at *
    generalize M % 2 ^ d = r at *
    omega
  · have e1 : (2 : Int) ^ (d - 1) = ((2 ^ (d - 1) : Nat) : Int) := by simp
    rw [e1, IntKind.wrap_u64]
    generalize 2 ^ (d - 1) = q at *
    omega
  · unfold rne
    generalize M / 2 ^ d = L at *
    generalize M % 2 ^ d = R at *
    rw [hH]
    generalize 2 ^ (d - 1) = H at *
    have : (2 * H < 2 * R ∨ 2 * H = 2 * R ∧ L % 2 = 1) ↔ (H < R ∨ H = R ∧ L % 2 = 1) := by omega
    simp only [this]
  · intro e
    subst e
    exact ⟨Nat.div_eq_of_lt (by omega), Nat.mod_eq_of_lt (by omega), by decide⟩
end Go.Proofs.Ytabffkfoafcmpab.Flt
