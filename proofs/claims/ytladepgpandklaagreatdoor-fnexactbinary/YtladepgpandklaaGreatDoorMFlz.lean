import Derived.Test.YtladepgpandklaaGreatDoorMFlt
import Derived.Test.YtladepgpandklaaGreatDoorMVak
namespace Go.Proofs.YtladepgpandklaaGreatDoor.Flt
open Ieee
/-- m times 2 to the (q - 1074) as a float -/
def F (m q : Nat) : Nat := double.nearest false m ((q : Int) - 1074)
theorem F_canon {m q : Nat} (hm : m ≠ 0) (h : m < 9007199254740992) (hq : q ≤ 2045) :
    ∃ m' k', Canon m' k' ∧ m' ≠ 0 ∧ m' * 2 ^ k' = m * 2 ^ q := by
  have hl : m.log2 < 53 := (Nat.log2_lt hm).2 (by omega)
  have h2 : m < 2 ^ (m.log2 + 1) := Nat.lt_log2_self
  have h1 : 2 ^ m.log2 ≤ m := Nat.log2_self_le hm
  have ev : ∀ d, d ≤ q → m * 2 ^ d * 2 ^ (q - d) = m * 2 ^ q := fun d hd => by
    rw [Nat.mul_assoc, ← Nat.pow_add]; congr 2; omega
  have nz : ∀ d, m * 2 ^ d ≠ 0 := fun d => Nat.mul_ne_zero hm (by have := Nat.two_pow_pos d; omega)
  by_cases hc : 52 - m.log2 ≤ q
  · refine ⟨m * 2 ^ (52 - m.log2), q - (52 - m.log2), ⟨?_, Or.inl ?_, by omega⟩, nz _, ev _ hc⟩
    · have h3 : m * 2 ^ (52 - m.log2) < 2 ^ (m.log2 + 1) * 2 ^ (52 - m.log2) := Nat.mul_lt_mul_of_pos_right h2 (Nat.two_pow_pos _)
      rw [← Nat.pow_add] at h3
      have e : m.log2 + 1 + (52 - m.log2) = 53 := by omega
      rw [e] at h3; exact h3
    · have h3 : 2 ^ m.log2 * 2 ^ (52 - m.log2) ≤ m * 2 ^ (52 - m.log2) := Nat.mul_le_mul_right _ h1
      rw [← Nat.pow_add] at h3
      have e : m.log2 + (52 - m.log2) = 52 := by omega
      rw [e] at h3; exact h3
  · refine ⟨m * 2 ^ q, 0, ⟨?_, Or.inr rfl, by omega⟩, nz _, by simp⟩
    have h3 : m * 2 ^ q < 2 ^ (m.log2 + 1) * 2 ^ q := Nat.mul_lt_mul_of_pos_right h2 (Nat.two_pow_pos _)
    rw [← Nat.pow_add] at h3
    have h4 : 2 ^ (m.log2 + 1 + q) ≤ 2 ^ 53 := Nat.pow_le_pow_right (by omega) (by omega)
    omega
theorem F_word {m k : Nat} (h : Canon m k) : F m k = double.word false (k * 4503599627370496 + m) := by
  unfold F
  by_cases hm : m = 0
  · subst hm
    have hk : k = 0 := by have := h.low; omega
    subst hk
    rw [nearest_zero]
  · exact nearest_val false h m k hm rfl
theorem F_eq {m q m' k' : Nat} (h : Canon m' k') (h0 : m' ≠ 0) (e : m' * 2 ^ k' = m * 2 ^ q) : F m q = double.word false (k' * 4503599627370496 + m') :=
  nearest_val false h m q h0 e.symm
theorem F_zero (q : Nat) : F 0 q = 0 := by unfold F; rw [nearest_zero]; rfl
theorem F_read {m q : Nat} (h : m < 9007199254740992) (hq : q ≤ 2045) :
    ∃ m' k' : Nat, double.read (F m q) = .number false m' ((k' : Int) - 1074) ∧ m' * 2 ^ k' = m * 2 ^ q := by
  by_cases hm : m = 0
  · subst hm
    rw [F_zero]
    exact ⟨0, 0, zero_read, by simp⟩
  · obtain ⟨m', k', hc, h0, e⟩ := F_canon hm h hq
    exact ⟨m', k', by rw [F_eq hc h0 e, read_word false hc], e⟩
theorem F_lt (m q : Nat) : F m q < 18446744073709551616 := double.nearest_lt _ _ _
theorem nearest_val2 (s : Bool) {m k : Nat} (h : Canon m k) (mag p c : Nat) (hm : m ≠ 0) (he : mag * 2 ^ p = m * 2 ^ (k + c)) :
    double.nearest s mag ((p : Int) - 1074 - c) = double.word s (k * 4503599627370496 + m) := by
  refine nearest_exact s h mag _ hm ?_
  by_cases hpk : k + c ≤ p
  · refine Or.inl ⟨p - (k + c), by omega, ?_⟩
    have e : mag * 2 ^ p = mag * 2 ^ (p - (k + c)) * 2 ^ (k + c) := by rw [Nat.mul_assoc, ← Nat.pow_add]; congr 2; omega
    rw [e] at he
    exact (Nat.eq_of_mul_eq_mul_right (Nat.two_pow_pos _) he).symm
  · refine Or.inr ⟨k + c - p, by omega, ?_⟩
    have e : m * 2 ^ (k + c) = m * 2 ^ (k + c - p) * 2 ^ p := by rw [Nat.mul_assoc, ← Nat.pow_add]; congr 2; omega
    rw [e] at he
    exact Nat.eq_of_mul_eq_mul_right (Nat.two_pow_pos p) he
theorem F_mul {m q l q' c : Nat} (hm : m < 9007199254740992) (hq : q ≤ 2045) (hq' : q' ≤ 2045)
    (hc : double.read c = .number false 4503599627370496 ((l : Int) - 1074)) (he : q' + eU = q + l + 52) : double.mul (F m q) c = some (F m q') := by
  obtain ⟨m', k', hr, hv⟩ := F_read hm hq
  unfold Format.mul
  rw [hr, hc]
  simp only [Datum.product, Bool.xor_false, Option.map_some, Format.write, Option.some.injEq]
  have ep : ((k' : Int) - 1074 + ((l : Int) - 1074)) = ((k' + l : Nat) : Int) - 1074 - (eU : Nat) := by
    have : ((eU : Nat) : Int) = 1074 := by decide
    omega
  rw [ep]
  by_cases h0 : m = 0
  · subst h0
    have : m' = 0 := by
      have := Nat.two_pow_pos k'
      rcases Nat.mul_eq_zero.1 (by rw [hv]; simp : m' * 2 ^ k' = 0) with g | g
      · exact g
      · omega
    subst this
    rw [Nat.zero_mul, nearest_zero, F_zero]
    rfl
  · obtain ⟨M, K, hC, hM, hV⟩ := F_canon h0 hm hq'
    rw [F_eq hC hM hV]
    refine nearest_val2 false hC _ _ _ hM ?_
    have e52 : (4503599627370496 : Nat) = 2 ^ 52 := by decide
    have e1 : m' * 4503599627370496 * 2 ^ (k' + l) = m' * 2 ^ k' * 2 ^ (l + 52) := by
      rw [e52, Nat.mul_assoc, ← Nat.pow_add, Nat.mul_assoc, ← Nat.pow_add]; congr 2; omega
    have e2 : M * 2 ^ (K + eU) = M * 2 ^ K * 2 ^ eU := by rw [Nat.pow_add, Nat.mul_assoc]
    rw [e1, hv, e2, hV, Nat.mul_assoc, Nat.mul_assoc, ← Nat.pow_add, ← Nat.pow_add]
    have e3 : q + (l + 52) = q' + eU := by omega
    rw [e3]
def eH : Nat := 1021
def eT : Nat := 1023
theorem half_read : double.read 4602678819172646912 = .number false 4503599627370496 (((eH : Nat) : Int) - 1074) := by decide
theorem two_read : double.read 4611686018427387904 = .number false 4503599627370496 (((eT : Nat) : Int) - 1074) := by decide
theorem p52_read : double.read 4841369599423283200 = .number false 4503599627370496 (((eU : Nat) : Int) - 1074) := by decide
theorem F_half {m q : Nat} (hm : m < 9007199254740992) (hq : q + 1 ≤ 2045) : floatBits .mul .f64 (F m (q + 1)) 4602678819172646912 = some (F m q) :=
  F_mul hm hq (by omega) half_read (by unfold eU eH; omega)
theorem F_two {m q : Nat} (hm : m < 9007199254740992) (hq : q + 1 ≤ 2045) : floatBits .mul .f64 (F m q) 4611686018427387904 = some (F m (q + 1)) :=
  F_mul hm (by omega) hq two_read (by unfold eU eT; omega)
theorem F_p52 {m q : Nat} (hm : m < 9007199254740992) (hq : q + 52 ≤ 2045) : floatBits .mul .f64 (F m q) 4841369599423283200 = some (F m (q + 52)) :=
  F_mul hm (by omega) hq p52_read (by unfold eU; omega)
theorem two_val : 4503599627370496 * 2 ^ eT = 2 * U := by
  have := U_eq 51 eT (by decide)
  rw [this]
  have e : (4503599627370496 : Nat) = 2 * 2 ^ 51 := by decide
  rw [e, Nat.mul_assoc]
theorem F_order_two {m q : Nat} (hm : m < 9007199254740992) (hq : q ≤ 2045) : FloatKind.f64.format.order (F m q) 4611686018427387904 = some (compare ((m * 2 ^ q : Nat) : Int) ((2 * U : Nat) : Int)) := by
  obtain ⟨m', k', hr, hv⟩ := F_read hm hq
  show double.order _ _ = _
  unfold Format.order
  rw [hr, two_read, order_num, two_val, hv]
  simp only [vl, Bool.false_eq_true, if_false]
theorem F_order_one {m q : Nat} (hm : m < 9007199254740992) (hq : q ≤ 2045) : FloatKind.f64.format.order (F m q) 4607182418800017408 = some (compare ((m * 2 ^ q : Nat) : Int) (U : Int)) := by
  obtain ⟨m', k', hr, hv⟩ := F_read hm hq
  show double.order _ _ = _
  unfold Format.order
  rw [hr, one_read, order_num, one_val, hv]
  simp only [vl, Bool.false_eq_true, if_false]
theorem F_conv {t : Nat} (h : t < 9007199254740992) : floatToIntVal .f64 (F t eU) .u64 = some (t : Int) := by
  obtain ⟨m', k', hr, hv⟩ := F_read h (q := eU) (by decide)
  have e : (FloatKind.f64.decode (F t eU)).toInt .zero = some (t : Int) := by
    unfold FloatKind.decode
    show (double.read _).toInt .zero = _
    rw [hr]
    unfold Datum.toInt Datum.integral
    simp only [cut_zero, (units m' k').1, signed_vl, Nat.pow_zero, Nat.mul_one, hv]
    show some (vl false (t * U / U)) = _
    rw [Nat.mul_div_cancel _ U_pos]
    rfl
  unfold floatToIntVal
  simp only [e]
  have bb : IntKind.u64.min ≤ (t : Int) ∧ (t : Int) ≤ IntKind.u64.max := by
    have h1 : IntKind.u64.min = 0 := by decide
    have h2 : IntKind.u64.max = 18446744073709551615 := by decide
    omega
  rw [if_pos bb]
theorem F_less_one {m : Nat} (hm : m < 9007199254740992) (h1 : 4503599627370496 ≤ m) : floatBits .sub .f64 (F m eO) 4607182418800017408 = some (F (m - 4503599627370496) eO) := by
  obtain ⟨m', k', hr, hv⟩ := F_read hm (q := eO) (by decide)
  show double.sub _ _ = _
  unfold Format.sub
  rw [hr, one_read]
  unfold Datum.opposite
  obtain ⟨tot, e1, e2⟩ := sum_num false true m' 4503599627370496 k' eO
  simp only [Bool.not_false]
  rw [e1]
  have hv2 : m * 2 ^ eO = (m - 4503599627370496) * 2 ^ eO + 4503599627370496 * 2 ^ eO := by
    rw [← Nat.add_mul]; congr 1; omega
  have e3 : tot * ((2 ^ min k' eO : Nat) : Int) = (((m - 4503599627370496) * 2 ^ eO : Nat) : Int) := by
    rw [e2, hv]
    simp only [vl, Bool.false_eq_true, if_false, if_true]
    omega
  have hp := Nat.two_pow_pos (min k' eO)
  have hn : 0 ≤ tot := by
    refine Int.le_of_not_gt fun g => ?_
    have := Int.mul_neg_of_neg_of_pos g (b := ((2 ^ min k' eO : Nat) : Int)) (by omega)
    omega
  obtain ⟨T, rfl⟩ := Int.eq_ofNat_of_zero_le hn
  have e4 : T * 2 ^ min k' eO = (m - 4503599627370496) * 2 ^ eO := by
    rw [← Int.natCast_mul] at e3
    exact Int.ofNat_inj.1 e3
  simp only [Option.map_some, Format.write, Option.some.injEq, Int.natAbs_natCast]
  have eneg : (if (T : Int) = 0 then false && true else decide ((T : Int) < 0)) = false := by
    split
    · rfl
    · simp
  rw [eneg]
  by_cases hz : m - 4503599627370496 = 0
  · rw [hz, F_zero]
    have : T = 0 := by
      rw [hz, Nat.zero_mul] at e4
      rcases Nat.mul_eq_zero.1 e4 with g | g
      · exact g
      · omega
    rw [this, nearest_zero]
    rfl
  · obtain ⟨M, K, hC, hM, hV⟩ := F_canon hz (by omega) (q := eO) (by decide)
    rw [F_eq hC hM hV]
    exact nearest_val false hC T _ hM (by rw [e4, hV])
end Go.Proofs.YtladepgpandklaaGreatDoor.Flt
namespace Go.Proofs.YtladepgpandklaaGreatDoor.Flt
open Ieee
theorem U_O : U = 4503599627370496 * 2 ^ eO := one_val.symm
theorem pow_le {a b : Nat} (h : a ≤ b) (m : Nat) : m * 2 ^ a ≤ m * 2 ^ b := Nat.mul_le_mul_left _ (Nat.pow_le_pow_right (by omega) h)
theorem ord_two_lt {m q : Nat} (hm : m < 9007199254740992) (hq : q ≤ 1022) : FloatKind.f64.format.order (F m q) 4611686018427387904 = some .lt := by
  rw [F_order_two hm (by omega), cmp_lt]
  have h1 := pow_le (a := q) (b := eO) hq m
  have h2 : m * 2 ^ eO < 9007199254740992 * 2 ^ eO := Nat.mul_lt_mul_of_pos_right hm (Nat.two_pow_pos _)
  rw [U_O]
  omega
theorem ord_two_ge {m q : Nat} (hm : m < 9007199254740992) (h0 : 4503599627370496 ≤ m) (hq : 1023 ≤ q) (hq2 : q ≤ 2045) :
    FloatKind.f64.format.order (F m q) 4611686018427387904 = some .gt ∨ FloatKind.f64.format.order (F m q) 4611686018427387904 = some .eq := by
  rw [F_order_two hm hq2]
  have h1 := pow_le (a := eT) (b := q) hq m
  have h2 : 4503599627370496 * 2 ^ eT ≤ m * 2 ^ eT := Nat.mul_le_mul_right _ h0
  rw [← two_val]
  by_cases e : m * 2 ^ q = 4503599627370496 * 2 ^ eT
  · right; rw [cmp_eq (by rw [e])]
  · left; rw [cmp_gt (by omega)]
theorem ord_one_lt {m q : Nat} (hm : m < 9007199254740992) (hq : q ≤ 1021) : FloatKind.f64.format.order (F m q) 4607182418800017408 = some .lt := by
  rw [F_order_one hm (by omega), cmp_lt]
  have h1 := pow_le (a := q) (b := eH) hq m
  have h2 : m * 2 ^ eH < 9007199254740992 * 2 ^ eH := Nat.mul_lt_mul_of_pos_right hm (Nat.two_pow_pos _)
  have e : 2 ^ eO = 2 * 2 ^ eH := by
    have : eO = eH + 1 := by decide
    rw [this, Nat.pow_succ, Nat.mul_comm]
  rw [U_O, e]
  omega
theorem ord_one_sub {m : Nat} (hm : m < 4503599627370496) : FloatKind.f64.format.order (F m 1022) 4607182418800017408 = some .lt := by
  show FloatKind.f64.format.order (F m eO) 4607182418800017408 = some .lt
  rw [F_order_one (by omega) (by decide), cmp_lt]
  have h2 : m * 2 ^ eO < 4503599627370496 * 2 ^ eO := Nat.mul_lt_mul_of_pos_right hm (Nat.two_pow_pos _)
  rw [U_O]
  exact Int.ofNat_lt.2 h2
theorem ord_one_norm {m : Nat} (hm : m < 9007199254740992) (h0 : 4503599627370496 ≤ m) :
    FloatKind.f64.format.order (F m 1022) 4607182418800017408 = some .gt ∨ FloatKind.f64.format.order (F m 1022) 4607182418800017408 = some .eq := by
  show FloatKind.f64.format.order (F m eO) 4607182418800017408 = some .gt ∨ FloatKind.f64.format.order (F m eO) 4607182418800017408 = some .eq
  rw [F_order_one hm (by decide)]
  have h2 : 4503599627370496 * 2 ^ eO ≤ m * 2 ^ eO := Nat.mul_le_mul_right _ h0
  rw [U_O]
  by_cases e : m * 2 ^ eO = 4503599627370496 * 2 ^ eO
  · right; rw [cmp_eq (by rw [e])]
  · left; rw [cmp_gt (by omega)]
def eM : Nat := 2045
theorem max_read : double.read 9218868437227405311 = .number false 9007199254740991 (((eM : Nat) : Int) - 1074) := by decide
theorem ord_max {m k : Nat} (h : Canon m k) : FloatKind.f64.format.order (F m k) 9218868437227405311 = some .lt ∨ FloatKind.f64.format.order (F m k) 9218868437227405311 = some .eq := by
  show double.order _ _ = _ ∨ double.order _ _ = _
  unfold Format.order
  rw [F_word h, read_word false h, max_read, order_num]
  have h1 := pow_le (a := k) (b := eM) h.le m
  have h2 : m * 2 ^ eM ≤ 9007199254740991 * 2 ^ eM := Nat.mul_le_mul_right _ (by have := h.lt; omega)
  simp only [vl, Bool.false_eq_true, if_false]
  by_cases e : m * 2 ^ k = 9007199254740991 * 2 ^ eM
  · right; rw [cmp_eq (by rw [e])]
  · left; rw [cmp_lt (by omega)]
theorem ord_zero {m k : Nat} (s : Bool) (h : Canon m k) (hm : m ≠ 0) : FloatKind.f64.format.order (double.word s (k * 4503599627370496 + m)) 0 = some (if s then .lt else .gt) := by
  show double.order _ _ = _
  unfold Format.order
  rw [read_word s h, zero_read, order_num]
  have hV : 0 < m * 2 ^ k := Nat.mul_pos (by omega) (Nat.two_pow_pos k)
  cases s
  · simp only [vl, Bool.false_eq_true, if_false]
    rw [cmp_gt (by omega)]
  · simp only [vl, if_true, Bool.false_eq_true, if_false]
    rw [cmp_lt (by omega)]
theorem ord_self {m k : Nat} (s : Bool) (h : Canon m k) : FloatKind.f64.format.order (double.word s (k * 4503599627370496 + m)) (double.word s (k * 4503599627370496 + m)) = some .eq := by
  show double.order _ _ = _
  unfold Format.order
  rw [read_word s h, order_num, cmp_eq rfl]
theorem xor_top (r : Nat) (h : r < 2 ^ 63) : r ^^^ 2 ^ 63 = 2 ^ 63 + r := by
  apply Nat.eq_of_testBit_eq
  intro i
  rw [Nat.testBit_xor, Nat.testBit_two_pow]
  rcases Nat.lt_trichotomy i 63 with g | g | g
  · rw [Nat.testBit_two_pow_add_gt g]
    have : decide (63 = i) = false := by simp; omega
    rw [this]; simp
  · subst g
    rw [Nat.testBit_two_pow_add_eq, Nat.testBit_lt_two_pow h]; rfl
  · have h1 : r.testBit i = false := Nat.testBit_lt_two_pow (Nat.lt_of_lt_of_le h (Nat.pow_le_pow_right (by omega) (by omega)))
    have h2 : (2 ^ 63 + r).testBit i = false := Nat.testBit_lt_two_pow (by
      have : 2 ^ 64 ≤ 2 ^ i := Nat.pow_le_pow_right (by omega) (by omega)
      omega)
    have : decide (63 = i) = false := by simp; omega
    rw [h1, h2, this]; rfl
theorem neg_word (s : Bool) (r : Nat) (h : r < 9223372036854775808) : Op.negFloat .f64 (double.word s r) = double.word (!s) r := by
  have e := xor_top r h
  unfold Op.negFloat
  show double.word s r ^^^ 2 ^ 63 = _
  unfold Format.word
  rw [c_sw]
  cases s
  · simp only [Bool.false_eq_true, if_false, Bool.not_false, if_true]
    exact e
  · simp only [Bool.false_eq_true, if_false, Bool.not_true, if_true]
    have e2 : (9223372036854775808 + r) = r ^^^ 2 ^ 63 := e.symm
    rw [e2, Nat.xor_assoc, Nat.xor_self, Nat.xor_zero]
theorem nan_word (s : Bool) (q : Nat) (h0 : q ≠ 0) (h1 : q < 4503599627370496) : ∃ s' t, double.read (double.word s (9218868437227405312 + q)) = .nan s' t := by
  obtain ⟨e1, e2⟩ := word_parts s (9218868437227405312 + q) (by omega)
  refine ⟨s, q, ?_⟩
  unfold Format.read
  simp only [e1, e2, c_bn, c_ir]
  rw [if_neg (by omega), if_neg (by omega), if_neg (by omega)]
  have e3 : 9218868437227405312 + q - 9218868437227405312 = q := by omega
  rw [e3]
end Go.Proofs.YtladepgpandklaaGreatDoor.Flt
namespace Go.Proofs.YtladepgpandklaaGreatDoor
open Go.ChangeShapes Go.WideShapes Go.ChangeAt Go.RowKit
set_option linter.unusedVariables false
set_option maxRecDepth 100000
def fnan (g : Nat) : Prop := FloatKind.f64.format.order g g = none
theorem nan_read {g : Nat} (h : fnan g) : ∃ s t, Ieee.double.read g = .nan s t := by
  have h' : Ieee.Datum.order (Ieee.double.read g) (Ieee.double.read g) = none := h
  cases hd : Ieee.double.read g with
  | nan s t => exact ⟨s, t, rfl⟩
  | infinity s => rw [hd] at h'; simp [Ieee.Datum.order] at h'
  | number s m i => rw [hd] at h'; simp [Ieee.Datum.order] at h'
theorem cut_nan (x y t : Nat) : fnan ((Question.nanBits .f64 x y).cut t) ∧ (Question.nanBits .f64 x y).cut t < 18446744073709551616 := by
  have e : (Question.nanBits .f64 x y).cut t = t % 2 * 2 ^ 63 + 0x7ff0000000000000 + 1 + t / 2 % (2 ^ 52 - 1) := rfl
  have hq : t / 2 % (2 ^ 52 - 1) < 4503599627370495 := Nat.mod_lt _ (by decide)
  rw [e]
  generalize t / 2 % (2 ^ 52 - 1) = q at *
  have hw : t % 2 * 2 ^ 63 + 0x7ff0000000000000 + 1 + q = Ieee.double.word (t % 2 == 1) (9218868437227405312 + (q + 1)) := by
    unfold Ieee.Format.word
    rw [Flt.c_sw]
    rcases Nat.mod_two_eq_zero_or_one t with g | g
    · rw [g]; simp; omega
    · rw [g]; simp; omega
  refine ⟨?_, by omega⟩
  rw [hw]
  exact Flt.order_nan (Flt.nan_word _ (q + 1) (by omega) (by omega))
theorem arith_nan {op : BinOp} {x y : Nat} (ho : op = .add ∨ op = .sub ∨ op = .mul ∨ op = .quo) (h : floatBits op .f64 x y = none) : ∃ ng : World → Nat, ∀ w, (binOp op 22 (.float .f64 x) (.float .f64 y)).run Tryz.prog w = .ok (.float .f64 (ng w)) w.drew ∧ fnan (ng w) ∧ ng w < 18446744073709551616 := by
  refine ⟨fun w => (Question.nanBits .f64 x y).cut (w.tape w.drawn (.nanBits .f64 x y)), fun w => ⟨?_, cut_nan x y _⟩⟩
  have hf : (Question.nanBits .f64 x y).forced = false := rfl
  rcases ho with rfl | rfl | rfl | rfl
  all_goals
    unfold floatBits at h
    simp only at h
    simp [binOp, Op.floatArith, h, hf]
theorem word_num (s : Bool) (r : Nat) (h : r ≤ 9218868437227405312) : FloatKind.f64.format.order (Ieee.double.word s r) (Ieee.double.word s r) = some .eq := by
  have hx : Ieee.double.word s r < 18446744073709551616 := by
    unfold Ieee.Format.word
    rw [Flt.c_sw]
    cases s <;> simp <;> omega
  rcases Flt.read_cases (Ieee.double.word s r) hx with ⟨s', t, hr⟩ | ⟨s', hr, _⟩ | ⟨s', m, k, hc, hr, hw⟩
  · exfalso
    obtain ⟨e1, e2⟩ := Flt.word_parts s r (by omega)
    unfold Ieee.Format.read at hr
    simp only [e1, e2, Flt.c_bn, Flt.c_ir] at hr
    split at hr
    · cases hr
    · split at hr
      · cases hr
      · split at hr
        · cases hr
        · omega
  · show Ieee.double.order _ _ = _
    unfold Ieee.Format.order
    rw [hr]
    simp [Ieee.Datum.order]
  · show Ieee.double.order _ _ = _
    unfold Ieee.Format.order
    rw [hr, Flt.order_num, Flt.cmp_eq rfl]
theorem write_num (d : Ieee.Datum) (h : d.isNaN = false) : FloatKind.f64.format.order (Ieee.double.write d) (Ieee.double.write d) = some .eq := by
  cases d with
  | nan s t => cases h
  | infinity s =>
    unfold Ieee.Format.write
    rw [Flt.c_ir]
    exact word_num s _ (Nat.le_refl _)
  | number s m i =>
    show FloatKind.f64.format.order (Ieee.double.nearest s m i) (Ieee.double.nearest s m i) = some .eq
    obtain ⟨r, hr, he⟩ : ∃ r, r ≤ 9218868437227405312 ∧ Ieee.double.nearest s m i = Ieee.double.word s r := by
      unfold Ieee.Format.nearest
      split
      · exact ⟨0, by omega, rfl⟩
      · exact ⟨_, by rw [← Flt.c_ir]; exact Nat.min_le_right _ _, rfl⟩
    rw [he]
    exact word_num s r hr
theorem arith_num {op : BinOp} {x y r : Nat} (h : floatBits op .f64 x y = some r) : FloatKind.f64.format.order r r = some .eq ∧ r < 18446744073709551616 := by
  have hw := floatBits_wf h
  refine ⟨?_, by simpa [Lit.wf] using hw⟩
  unfold floatBits at h
  cases op <;> simp only at h <;> first | (cases h; done) | skip
  · change (((Ieee.double.read x).sum (Ieee.double.read y)).map Ieee.double.write) = some r at h
    obtain ⟨d, hd, rfl⟩ := Option.map_eq_some_iff.1 h
    refine write_num d ?_
    cases ha : Ieee.double.read x <;> cases hb : Ieee.double.read y <;> rw [ha, hb] at hd <;> simp [Ieee.Datum.sum] at hd <;> first | (subst hd; rfl) | (obtain ⟨_, rfl⟩ := hd; rfl)
  · change (((Ieee.double.read x).sum (Ieee.double.read y).opposite).map Ieee.double.write) = some r at h
    obtain ⟨d, hd, rfl⟩ := Option.map_eq_some_iff.1 h
    refine write_num d ?_
    cases ha : Ieee.double.read x <;> cases hb : (Ieee.double.read y).opposite <;> rw [ha, hb] at hd <;> simp [Ieee.Datum.sum] at hd <;> first | (subst hd; rfl) | (obtain ⟨_, rfl⟩ := hd; rfl)
  · change (((Ieee.double.read x).product (Ieee.double.read y)).map Ieee.double.write) = some r at h
    obtain ⟨d, hd, rfl⟩ := Option.map_eq_some_iff.1 h
    refine write_num d ?_
    cases ha : Ieee.double.read x <;> cases hb : Ieee.double.read y <;> rw [ha, hb] at hd <;> simp [Ieee.Datum.product] at hd <;> first | (subst hd; rfl) | (obtain ⟨_, rfl⟩ := hd; rfl)
  · change (((Ieee.double.read x).quotient _ (Ieee.double.read y)).map Ieee.double.write) = some r at h
    obtain ⟨d, hd, rfl⟩ := Option.map_eq_some_iff.1 h
    refine write_num d ?_
    cases ha : Ieee.double.read x <;> cases hb : Ieee.double.read y <;> rw [ha, hb] at hd <;> simp only [Ieee.Datum.quotient] at hd
    all_goals first
      | (cases hd; done)
      | (cases hd; rfl)
      | (split at hd <;> first | (split at hd <;> first | (cases hd; done) | (cases hd; rfl)) | (cases hd; rfl))
theorem nan_mul {g y : Nat} (h : fnan g) : floatBits .mul .f64 g y = none := by
  obtain ⟨s, t, hr⟩ := nan_read h
  show Ieee.double.mul g y = none
  unfold Ieee.Format.mul
  rw [hr]
  simp [Ieee.Datum.product]
theorem nan_sub {x g : Nat} (h : fnan g) : floatBits .sub .f64 x g = none := by
  obtain ⟨s, t, hr⟩ := nan_read h
  show Ieee.double.sub x g = none
  unfold Ieee.Format.sub
  rw [hr]
  cases Ieee.double.read x <;> simp [Ieee.Datum.sum, Ieee.Datum.opposite]
end Go.Proofs.YtladepgpandklaaGreatDoor
