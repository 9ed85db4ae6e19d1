import Derived.Test.YtladepgpandklaaDoorFlx
namespace Go.Proofs.YtladepgpandklaaDoor.Flt
open Ieee
/-- m times 2 to the (q - 1074) as a float -/
def F (m q : Nat) : Nat := double.nearest false m ((q : Int) - 1074)
theorem F_canon {m q : Nat} (hm : m ≠ 0) (h : m < 9007199254740992) (hq : q ≤ 2045) :
    ∃ m' k', Canon m' k' ∧ m' ≠ 0 ∧ m' * 2 ^ k' = m * 2 ^ q := by
  have hl : m.log2 < 53 := (Nat.log2_lt hm).2 (by omega)
  have h2 : m < 2 ^ (m.log2 + 1) := Nat.lt_log2_self
  have h1 : 2 ^ m.log2 ≤ m := Nat.log2_self_le hm
  have ev : ∀ d, d ≤ q → m * 2 ^ d * 2 ^ (q - d) = m * 2 ^ q := fun d hd => by
    rw [Nat.mul_assoc, ← Nat.pow_add]; congr 2; omega
  have nz : ∀ d, m * 2 ^ d ≠ 0 := fun d => Nat.mul_ne_zero hm (by have := Nat.two_pow_pos d; omega)
  by_cases hc : 52 - m.log2 ≤ q
  · refine ⟨m * 2 ^ (52 - m.log2), q - (52 - m.log2), ⟨?_, Or.inl ?_, by omega⟩, nz _, ev _ hc⟩
    · have h3 : m * 2 ^ (52 - m.log2) < 2 ^ (m.log2 + 1) * 2 ^ (52 - m.log2) := Nat.mul_lt_mul_of_pos_right h2 (Nat.two_pow_pos _)
      rw [← Nat.pow_add] at h3
      have e : m.log2 + 1 + (52 - m.log2) = 53 := by omega
      rw [e] at h3; exact h3
    · have h3 : 2 ^ m.log2 * 2 ^ (52 - m.log2) ≤ m * 2 ^ (52 - m.log2) := Nat.mul_le_mul_right _ h1
      rw [← Nat.pow_add] at h3
      have e : m.log2 + (52 - m.log2) = 52 := by omega
      rw [e] at h3; exact h3
  · refine ⟨m * 2 ^ q, 0, ⟨?_, Or.inr rfl, by omega⟩, nz _, by simp⟩
    have h3 : m * 2 ^ q < 2 ^ (m.log2 + 1) * 2 ^ q := Nat.mul_lt_mul_of_pos_right h2 (Nat.two_pow_pos _)
    rw [← Nat.pow_add] at h3
    have h4 : 2 ^ (m.log2 + 1 + q) ≤ 2 ^ 53 := Nat.pow_le_pow_right (by omega) (by omega)
    omega
theorem F_word {m k : Nat} (h : Canon m k) : F m k = double.word false (k * 4503599627370496 + m) := by
  unfold F
  by_cases hm : m = 0
  · subst hm
    have hk : k = 0 := by have := h.low; omega
    subst hk
    rw [nearest_zero]
  · exact nearest_val false h m k hm rfl
theorem F_eq {m q m' k' : Nat} (h : Canon m' k') (h0 : m' ≠ 0) (e : m' * 2 ^ k' = m * 2 ^ q) : F m q = double.word false (k' * 4503599627370496 + m') :=
  nearest_val false h m q h0 e.symm
theorem F_zero (q : Nat) : F 0 q = 0 := by unfold F; rw [nearest_zero]; rfl
theorem F_read {m q : Nat} (h : m < 9007199254740992) (hq : q ≤ 2045) :
    ∃ m' k' : Nat, double.read (F m q) = .number false m' ((k' : Int) - 1074) ∧ m' * 2 ^ k' = m * 2 ^ q := by
  by_cases hm : m = 0
  · subst hm
    rw [F_zero]
    exact ⟨0, 0, zero_read, by simp⟩
  · obtain ⟨m', k', hc, h0, e⟩ := F_canon hm h hq
    exact ⟨m', k', by rw [F_eq hc h0 e, read_word false hc], e⟩
theorem F_lt (m q : Nat) : F m q < 18446744073709551616 := double.nearest_lt _ _ _
theorem nearest_val2 (s : Bool) {m k : Nat} (h : Canon m k) (mag p c : Nat) (hm : m ≠ 0) (he : mag * 2 ^ p = m * 2 ^ (k + c)) :
    double.nearest s mag ((p : Int) - 1074 - c) = double.word s (k * 4503599627370496 + m) := by
  refine nearest_exact s h mag _ hm ?_
  by_cases hpk : k + c ≤ p
  · refine Or.inl ⟨p - (k + c), by omega, ?_⟩
    have e : mag * 2 ^ p = mag * 2 ^ (p - (k + c)) * 2 ^ (k + c) := by rw [Nat.mul_assoc, ← Nat.pow_add]; congr 2; omega
    rw [e] at he
    exact (Nat.eq_of_mul_eq_mul_right (Nat.two_pow_pos _) he).symm
  · refine Or.inr ⟨k + c - p, by omega, ?_⟩
    have e : m * 2 ^ (k + c) = m * 2 ^ (k + c - p) * 2 ^ p := by rw [Nat.mul_assoc, ← Nat.pow_add]; congr 2; omega
    rw [e] at he
    exact Nat.eq_of_mul_eq_mul_right (Nat.two_pow_pos p) he
theorem F_mul {m q l q' c : Nat} (hm : m < 9007199254740992) (hq : q ≤ 2045) (hq' : q' ≤ 2045)
    (hc : double.read c = .number false 4503599627370496 ((l : Int) - 1074)) (he : q' + eU = q + l + 52) : double.mul (F m q) c = some (F m q') := by
  obtain ⟨m', k', hr, hv⟩ := F_read hm hq
  unfold Format.mul
  rw [hr, hc]
  simp only [Datum.product, Bool.xor_false, Option.map_some, Format.write, Option.some.injEq]
  have ep : ((k' : Int) - 1074 + ((l : Int) - 1074)) = ((k' + l : Nat) : Int) - 1074 - (eU : Nat) := by
    have : ((eU : Nat) : Int) = 1074 := by decide
    omega
  rw [ep]
  by_cases h0 : m = 0
  · subst h0
    have : m' = 0 := by
      have := Nat.two_pow_pos k'
      rcases Nat.mul_eq_zero.1 (by rw [hv]; simp : m' * 2 ^ k' = 0) with g | g
      · exact g
      · omega
    subst this
    rw [Nat.zero_mul, nearest_zero, F_zero]
    rfl
  · obtain ⟨M, K, hC, hM, hV⟩ := F_canon h0 hm hq'
    rw [F_eq hC hM hV]
    refine nearest_val2 false hC _ _ _ hM ?_
    have e52 : (4503599627370496 : Nat) = 2 ^ 52 := by decide
    have e1 : m' * 4503599627370496 * 2 ^ (k' + l) = m' * 2 ^ k' * 2 ^ (l + 52) := by
      rw [e52, Nat.mul_assoc, ← Nat.pow_add, Nat.mul_assoc, ← Nat.pow_add]; congr 2; omega
    have e2 : M * 2 ^ (K + eU) = M * 2 ^ K * 2 ^ eU := by rw [Nat.pow_add, Nat.mul_assoc]
    rw [e1, hv, e2, hV, Nat.mul_assoc, Nat.mul_assoc, ← Nat.pow_add, ← Nat.pow_add]
    have e3 : q + (l + 52) = q' + eU := by omega
    rw [e3]
def eH : Nat := 1021
def eT : Nat := 1023
theorem half_read : double.read 4602678819172646912 = .number false 4503599627370496 (((eH : Nat) : Int) - 1074) := by decide
theorem two_read : double.read 4611686018427387904 = .number false 4503599627370496 (((eT : Nat) : Int) - 1074) := by decide
theorem p52_read : double.read 4841369599423283200 = .number false 4503599627370496 (((eU : Nat) : Int) - 1074) := by decide
theorem F_half {m q : Nat} (hm : m < 9007199254740992) (hq : q + 1 ≤ 2045) : floatBits .mul .f64 (F m (q + 1)) 4602678819172646912 = some (F m q) :=
  F_mul hm hq (by omega) half_read (by unfold eU eH; omega)
theorem F_two {m q : Nat} (hm : m < 9007199254740992) (hq : q + 1 ≤ 2045) : floatBits .mul .f64 (F m q) 4611686018427387904 = some (F m (q + 1)) :=
  F_mul hm (by omega) hq two_read (by unfold eU eT; omega)
theorem F_p52 {m q : Nat} (hm : m < 9007199254740992) (hq : q + 52 ≤ 2045) : floatBits .mul .f64 (F m q) 4841369599423283200 = some (F m (q + 52)) :=
  F_mul hm (by omega) hq p52_read (by unfold eU; omega)
theorem two_val : 4503599627370496 * 2 ^ eT = 2 * U := by
  have := U_eq 51 eT (by decide)
  rw [this]
  have e : (4503599627370496 : Nat) = 2 * 2 ^ 51 := by decide
  rw [e, Nat.mul_assoc]
theorem F_order_two {m q : Nat} (hm : m < 9007199254740992) (hq : q ≤ 2045) : FloatKind.f64.format.order (F m q) 4611686018427387904 = some (compare ((m * 2 ^ q : Nat) : Int) ((2 * U : Nat) : Int)) := by
  obtain ⟨m', k', hr, hv⟩ := F_read hm hq
  show double.order _ _ = _
  unfold Format.order
  rw [hr, two_read, order_num, two_val, hv]
  simp only [vl, Bool.false_eq_true, if_false]
theorem F_order_one {m q : Nat} (hm : m < 9007199254740992) (hq : q ≤ 2045) : FloatKind.f64.format.order (F m q) 4607182418800017408 = some (compare ((m * 2 ^ q : Nat) : Int) (U : Int)) := by
  obtain ⟨m', k', hr, hv⟩ := F_read hm hq
  show double.order _ _ = _
  unfold Format.order
  rw [hr, one_read, order_num, one_val, hv]
  simp only [vl, Bool.false_eq_true, if_false]
theorem F_conv {t : Nat} (h : t < 9007199254740992) : floatToIntVal .f64 (F t eU) .u64 = some (t : Int) := by
  obtain ⟨m', k', hr, hv⟩ := F_read h (q := eU) (by decide)
  have e : (FloatKind.f64.decode (F t eU)).toInt .zero = some (t : Int) := by
    unfold FloatKind.decode
    show (double.read _).toInt .zero = _
    rw [hr]
    unfold Datum.toInt Datum.integral
    simp only [cut_zero, (units m' k').1, signed_vl, Nat.pow_zero, Nat.mul_one, hv]
    show some (vl false (t * U / U)) = _
    rw [Nat.mul_div_cancel _ U_pos]
    rfl
  unfold floatToIntVal
  simp only [e]
  have bb : IntKind.u64.min ≤ (t : Int) ∧ (t : Int) ≤ IntKind.u64.max := by
    have h1 : IntKind.u64.min = 0 := by decide
    have h2 : IntKind.u64.max = 18446744073709551615 := by decide
    omega
  rw [if_pos bb]
theorem F_less_one {m : Nat} (hm : m < 9007199254740992) (h1 : 4503599627370496 ≤ m) : floatBits .sub .f64 (F m eO) 4607182418800017408 = some (F (m - 4503599627370496) eO) := by
  obtain ⟨m', k', hr, hv⟩ := F_read hm (q := eO) (by decide)
  show double.sub _ _ = _
  unfold Format.sub
  rw [hr, one_read]
  unfold Datum.opposite
  obtain ⟨tot, e1, e2⟩ := sum_num false true m' 4503599627370496 k' eO
  simp only [Bool.not_false]
  rw [e1]
  have hv2 : m * 2 ^ eO = (m - 4503599627370496) * 2 ^ eO + 4503599627370496 * 2 ^ eO := by
    rw [← Nat.add_mul]; congr 1; omega
  have e3 : tot * ((2 ^ min k' eO : Nat) : Int) = (((m - 4503599627370496) * 2 ^ eO : Nat) : Int) := by
    rw [e2, hv]
    simp only [vl, Bool.false_eq_true, if_false, if_true]
    omega
  have hp := Nat.two_pow_pos (min k' eO)
  have hn : 0 ≤ tot := by
    refine Int.le_of_not_gt fun g => ?_
    have := Int.mul_neg_of_neg_of_pos g (b := ((2 ^ min k' eO : Nat) : Int)) (by omega)
    omega
  obtain ⟨T, rfl⟩ := Int.eq_ofNat_of_zero_le hn
  have e4 : T * 2 ^ min k' eO = (m - 4503599627370496) * 2 ^ eO := by
    rw [← Int.natCast_mul] at e3
    exact Int.ofNat_inj.1 e3
  simp only [Option.map_some, Format.write, Option.some.injEq, Int.natAbs_natCast]
  have eneg : (if (T : Int) = 0 then false && true else decide ((T : Int) < 0)) = false := by
    split
    · rfl
    · simp
  rw [eneg]
  by_cases hz : m - 4503599627370496 = 0
  · rw [hz, F_zero]
    have : T = 0 := by
      rw [hz, Nat.zero_mul] at e4
      rcases Nat.mul_eq_zero.1 e4 with g | g
      · exact g
      · omega
    rw [this, nearest_zero]
    rfl
  · obtain ⟨M, K, hC, hM, hV⟩ := F_canon hz (by omega) (q := eO) (by decide)
    rw [F_eq hC hM hV]
    exact nearest_val false hC T _ hM (by rw [e4, hV])
end Go.Proofs.YtladepgpandklaaDoor.Flt
