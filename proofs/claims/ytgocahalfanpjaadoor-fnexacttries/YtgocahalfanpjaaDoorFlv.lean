import Derived.Test.YtgocahalfanpjaaDoorFlu
namespace Go.Proofs.YtgocahalfanpjaaDoor.Flt
open Ieee
/-- one, in units of 2 ^ -1074; kept shut -/
def eU : Nat := 1074
def U : Nat := 2 ^ eU
theorem U_pos : 0 < U := Nat.two_pow_pos eU
theorem U_eq (a b : Nat) (h : a + b = 1074) : U = 2 ^ a * 2 ^ b := by
  have g : a + b = eU := h
  rw [← Nat.pow_add, g, U]
theorem pow_U (k : Nat) (h : 1074 ≤ k) : 2 ^ k = 2 ^ (k - 1074) * U := by
  have g : k - 1074 + eU = k := by unfold eU; omega
  rw [U, ← Nat.pow_add, g]
/-- a value with its sign -/
def vl (s : Bool) (v : Nat) : Int := if s then -(v : Int) else v
theorem cmp_mul (a b c : Int) (h : 0 < c) : compare (a * c) (b * c) = compare a b := by
  rcases Int.lt_trichotomy a b with g | g | g
  · rw [Int.compare_eq_lt.2 g, Int.compare_eq_lt.2 (Int.mul_lt_mul_of_pos_right g h)]
  · subst g; simp
  · rw [Int.compare_eq_gt.2 g, Int.compare_eq_gt.2 (Int.mul_lt_mul_of_pos_right g h)]
theorem signed_vl (s : Bool) (m u : Nat) : signed s m u = vl s (m * 2 ^ u) := by
  unfold signed vl; rw [Nat.shiftLeft_eq]
theorem vl_mul (s : Bool) (v c : Nat) : vl s (v * c) = vl s v * (c : Int) := by
  cases s <;> simp [vl, Int.neg_mul]
theorem order_num (s t : Bool) (m n k l : Nat) :
    (Datum.number s m ((k : Int) - 1074)).order (.number t n ((l : Int) - 1074)) = some (compare (vl s (m * 2 ^ k)) (vl t (n * 2 ^ l))) := by
  unfold Datum.order
  simp only [signed_vl]
  have e1 : ((k : Int) - 1074 - min ((k : Int) - 1074) ((l : Int) - 1074)).toNat = k - min k l := by omega
  have e2 : ((l : Int) - 1074 - min ((k : Int) - 1074) ((l : Int) - 1074)).toNat = l - min k l := by omega
  rw [e1, e2]
  have f1 : m * 2 ^ k = m * 2 ^ (k - min k l) * 2 ^ min k l := by rw [Nat.mul_assoc, ← Nat.pow_add]; congr 2; omega
  have f2 : n * 2 ^ l = n * 2 ^ (l - min k l) * 2 ^ min k l := by rw [Nat.mul_assoc, ← Nat.pow_add]; congr 2; omega
  rw [f1, f2, vl_mul s (m * 2 ^ (k - min k l)) (2 ^ min k l), vl_mul t (n * 2 ^ (l - min k l)) (2 ^ min k l), cmp_mul]
  have := Nat.two_pow_pos (min k l)
  omega
/-- what is written of a value in units of 2 ^ -1074 -/
theorem nearest_val (s : Bool) {m k : Nat} (h : Canon m k) (mag p : Nat) (hm : m ≠ 0) (he : mag * 2 ^ p = m * 2 ^ k) :
    double.nearest s mag ((p : Int) - 1074) = double.word s (k * 4503599627370496 + m) := by
  refine nearest_exact s h mag _ hm ?_
  by_cases hpk : k ≤ p
  · refine Or.inl ⟨p - k, by omega, ?_⟩
    have e : mag * 2 ^ p = mag * 2 ^ (p - k) * 2 ^ k := by rw [Nat.mul_assoc, ← Nat.pow_add]; congr 2; omega
    rw [e] at he
    exact (Nat.eq_of_mul_eq_mul_right (Nat.two_pow_pos k) he).symm
  · refine Or.inr ⟨k - p, by omega, ?_⟩
    have e : m * 2 ^ k = m * 2 ^ (k - p) * 2 ^ p := by rw [Nat.mul_assoc, ← Nat.pow_add]; congr 2; omega
    rw [e] at he
    exact Nat.eq_of_mul_eq_mul_right (Nat.two_pow_pos p) he
/-- the format has every whole number below 2 ^ 53 -/
theorem canon_int {t : Nat} (h0 : t ≠ 0) (h1 : t < 9007199254740992) : ∃ m k, Canon m k ∧ m ≠ 0 ∧ t * U = m * 2 ^ k := by
  have hl : t.log2 < 53 := (Nat.log2_lt h0).2 (by omega)
  refine ⟨t * 2 ^ (52 - t.log2), 1022 + t.log2, ⟨?_, Or.inl ?_, by omega⟩, ?_, ?_⟩
  · have h2 : t < 2 ^ (t.log2 + 1) := Nat.lt_log2_self
    have h3 : t * 2 ^ (52 - t.log2) < 2 ^ (t.log2 + 1) * 2 ^ (52 - t.log2) := Nat.mul_lt_mul_of_pos_right h2 (Nat.two_pow_pos _)
    rw [← Nat.pow_add] at h3
    have e : t.log2 + 1 + (52 - t.log2) = 53 := by omega
    rw [e] at h3
    exact h3
  · have h2 : 2 ^ t.log2 ≤ t := Nat.log2_self_le h0
    have h3 : 2 ^ t.log2 * 2 ^ (52 - t.log2) ≤ t * 2 ^ (52 - t.log2) := Nat.mul_le_mul_right _ h2
    rw [← Nat.pow_add] at h3
    have e : t.log2 + (52 - t.log2) = 52 := by omega
    rw [e] at h3
    exact h3
  · exact Nat.mul_ne_zero h0 (by have := Nat.two_pow_pos (52 - t.log2); omega)
  · rw [U_eq (52 - t.log2) (1022 + t.log2) (by omega), Nat.mul_assoc]
theorem cut_zero (neg : Bool) (n d : Nat) : Toward.zero.cut neg n d = n / 2 ^ d := by
  unfold Toward.cut
  simp only [Nat.shiftLeft_eq, Nat.one_mul, Bool.toNat_false, Nat.add_zero]
  by_cases h : d ≤ n.log2 + 2
  · rw [Nat.min_eq_left h]
  · rw [Nat.min_eq_right (by omega)]
    have h1 : n < 2 ^ (n.log2 + 1) := Nat.lt_log2_self
    have h2 : 2 ^ (n.log2 + 1) ≤ 2 ^ (n.log2 + 2) := Nat.pow_le_pow_right (by omega) (by omega)
    have h3 : 2 ^ (n.log2 + 2) ≤ 2 ^ d := Nat.pow_le_pow_right (by omega) (by omega)
    rw [Nat.div_eq_of_lt (by omega), Nat.div_eq_of_lt (by omega)]
theorem cut_down (neg : Bool) (n d : Nat) : Toward.down.cut neg n d = n / 2 ^ d + (neg && n % 2 ^ d != 0).toNat := by
  unfold Toward.cut
  simp only [Nat.shiftLeft_eq, Nat.one_mul]
  by_cases h : d ≤ n.log2 + 2
  · rw [Nat.min_eq_left h]
  · rw [Nat.min_eq_right (by omega)]
    have h1 : n < 2 ^ (n.log2 + 1) := Nat.lt_log2_self
    have h2 : 2 ^ (n.log2 + 1) ≤ 2 ^ (n.log2 + 2) := Nat.pow_le_pow_right (by omega) (by omega)
    have h3 : 2 ^ (n.log2 + 2) ≤ 2 ^ d := Nat.pow_le_pow_right (by omega) (by omega)
    rw [Nat.div_eq_of_lt (by omega), Nat.div_eq_of_lt (by omega), Nat.mod_eq_of_lt (by omega), Nat.mod_eq_of_lt (by omega)]
/-- the cut of m times 2 to the (k - 1074) at the point, in units -/
theorem units (m k : Nat) : (m <<< ((k : Int) - 1074).toNat) / 2 ^ (-((k : Int) - 1074)).toNat = m * 2 ^ k / U ∧
    ((m <<< ((k : Int) - 1074).toNat) % 2 ^ (-((k : Int) - 1074)).toNat = 0 ↔ m * 2 ^ k % U = 0) := by
  rw [Nat.shiftLeft_eq]
  by_cases h : 1074 ≤ k
  · have e1 : ((k : Int) - 1074).toNat = k - 1074 := by omega
    have e2 : (-((k : Int) - 1074)).toNat = 0 := by omega
    have e3 : m * 2 ^ k = m * 2 ^ (k - 1074) * U := by
      rw [pow_U k h, Nat.mul_assoc]
    rw [e1, e2, e3, Nat.mul_div_cancel _ U_pos, Nat.mul_mod_left]
    simp [Nat.mod_one]
  · have e1 : ((k : Int) - 1074).toNat = 0 := by omega
    have e2 : (-((k : Int) - 1074)).toNat = 1074 - k := by omega
    have e3 : U = 2 ^ (1074 - k) * 2 ^ k := U_eq _ _ (by omega)
    rw [e1, e2, e3, Nat.pow_zero, Nat.mul_one, Nat.mul_div_mul_right _ _ (Nat.two_pow_pos k), Nat.mul_mod_mul_right]
    refine ⟨rfl, ?_⟩
    constructor
    · intro g; rw [g]; simp
    · intro g
      rcases Nat.mul_eq_zero.1 g with g | g
      · exact g
      · have := Nat.two_pow_pos k; omega
end Go.Proofs.YtgocahalfanpjaaDoor.Flt
