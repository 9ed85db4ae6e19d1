import Derived.Test.YtladepgpandklaaDoorFlz
namespace Go.Proofs.YtladepgpandklaaDoor.Flt
open Ieee
theorem U_O : U = 4503599627370496 * 2 ^ eO := one_val.symm
theorem pow_le {a b : Nat} (h : a ≤ b) (m : Nat) : m * 2 ^ a ≤ m * 2 ^ b := Nat.mul_le_mul_left _ (Nat.pow_le_pow_right (by omega) h)
theorem ord_two_lt {m q : Nat} (hm : m < 9007199254740992) (hq : q ≤ 1022) : FloatKind.f64.format.order (F m q) 4611686018427387904 = some .lt := by
  rw [F_order_two hm (by omega), cmp_lt]
  have h1 := pow_le (a := q) (b := eO) hq m
  have h2 : m * 2 ^ eO < 9007199254740992 * 2 ^ eO := Nat.mul_lt_mul_of_pos_right hm (Nat.two_pow_pos _)
  rw [U_O]
  omega
theorem ord_two_ge {m q : Nat} (hm : m < 9007199254740992) (h0 : 4503599627370496 ≤ m) (hq : 1023 ≤ q) (hq2 : q ≤ 2045) :
    FloatKind.f64.format.order (F m q) 4611686018427387904 = some .gt ∨ FloatKind.f64.format.order (F m q) 4611686018427387904 = some .eq := by
  rw [F_order_two hm hq2]
  have h1 := pow_le (a := eT) (b := q) hq m
  have h2 : 4503599627370496 * 2 ^ eT ≤ m * 2 ^ eT := Nat.mul_le_mul_right _ h0
  rw [← two_val]
  by_cases e : m * 2 ^ q = 4503599627370496 * 2 ^ eT
  · right; rw [cmp_eq (by rw [e])]
  · left; rw [cmp_gt (by omega)]
theorem ord_one_lt {m q : Nat} (hm : m < 9007199254740992) (hq : q ≤ 1021) : FloatKind.f64.format.order (F m q) 4607182418800017408 = some .lt := by
  rw [F_order_one hm (by omega), cmp_lt]
  have h1 := pow_le (a := q) (b := eH) hq m
  have h2 : m * 2 ^ eH < 9007199254740992 * 2 ^ eH := Nat.mul_lt_mul_of_pos_right hm (Nat.two_pow_pos _)
  have e : 2 ^ eO = 2 * 2 ^ eH := by
    have : eO = eH + 1 := by decide
    rw [this, Nat.pow_succ, Nat.mul_comm]
  rw [U_O, e]
  omega
theorem ord_one_sub {m : Nat} (hm : m < 4503599627370496) : FloatKind.f64.format.order (F m 1022) 4607182418800017408 = some .lt := by
  show FloatKind.f64.format.order (F m eO) 4607182418800017408 = some .lt
  rw [F_order_one (by omega) (by decide), cmp_lt]
  have h2 : m * 2 ^ eO < 4503599627370496 * 2 ^ eO := Nat.mul_lt_mul_of_pos_right hm (Nat.two_pow_pos _)
  rw [U_O]
  exact Int.ofNat_lt.2 h2
theorem ord_one_norm {m : Nat} (hm : m < 9007199254740992) (h0 : 4503599627370496 ≤ m) :
    FloatKind.f64.format.order (F m 1022) 4607182418800017408 = some .gt ∨ FloatKind.f64.format.order (F m 1022) 4607182418800017408 = some .eq := by
  show FloatKind.f64.format.order (F m eO) 4607182418800017408 = some .gt ∨ FloatKind.f64.format.order (F m eO) 4607182418800017408 = some .eq
  rw [F_order_one hm (by decide)]
  have h2 : 4503599627370496 * 2 ^ eO ≤ m * 2 ^ eO := Nat.mul_le_mul_right _ h0
  rw [U_O]
  by_cases e : m * 2 ^ eO = 4503599627370496 * 2 ^ eO
  · right; rw [cmp_eq (by rw [e])]
  · left; rw [cmp_gt (by omega)]
def eM : Nat := 2045
theorem max_read : double.read 9218868437227405311 = .number false 9007199254740991 (((eM : Nat) : Int) - 1074) := by decide
theorem ord_max {m k : Nat} (h : Canon m k) : FloatKind.f64.format.order (F m k) 9218868437227405311 = some .lt ∨ FloatKind.f64.format.order (F m k) 9218868437227405311 = some .eq := by
  show double.order _ _ = _ ∨ double.order _ _ = _
  unfold Format.order
  rw [F_word h, read_word false h, max_read, order_num]
  have h1 := pow_le (a := k) (b := eM) h.le m
  have h2 : m * 2 ^ eM ≤ 9007199254740991 * 2 ^ eM := Nat.mul_le_mul_right _ (by have := h.lt; omega)
  simp only [vl, Bool.false_eq_true, if_false]
  by_cases e : m * 2 ^ k = 9007199254740991 * 2 ^ eM
  · right; rw [cmp_eq (by rw [e])]
  · left; rw [cmp_lt (by omega)]
theorem ord_zero {m k : Nat} (s : Bool) (h : Canon m k) (hm : m ≠ 0) : FloatKind.f64.format.order (double.word s (k * 4503599627370496 + m)) 0 = some (if s then .lt else .gt) := by
  show double.order _ _ = _
  unfold Format.order
  rw [read_word s h, zero_read, order_num]
  have hV : 0 < m * 2 ^ k := Nat.mul_pos (by omega) (Nat.two_pow_pos k)
  cases s
  · simp only [vl, Bool.false_eq_true, if_false]
    rw [cmp_gt (by omega)]
  · simp only [vl, if_true, Bool.false_eq_true, if_false]
    rw [cmp_lt (by omega)]
theorem ord_self {m k : Nat} (s : Bool) (h : Canon m k) : FloatKind.f64.format.order (double.word s (k * 4503599627370496 + m)) (double.word s (k * 4503599627370496 + m)) = some .eq := by
  show double.order _ _ = _
  unfold Format.order
  rw [read_word s h, order_num, cmp_eq rfl]
theorem xor_top (r : Nat) (h : r < 2 ^ 63) : r ^^^ 2 ^ 63 = 2 ^ 63 + r := by
  apply Nat.eq_of_testBit_eq
  intro i
  rw [Nat.testBit_xor, Nat.testBit_two_pow]
  rcases Nat.lt_trichotomy i 63 with g | g | g
  · rw [Nat.testBit_two_pow_add_gt g]
    have : decide (63 = i) = false := by simp; omega
    rw [this]; simp
  · subst g
    rw [Nat.testBit_two_pow_add_eq, Nat.testBit_lt_two_pow h]; rfl
  · have h1 : r.testBit i = false := Nat.testBit_lt_two_pow (Nat.lt_of_lt_of_le h (Nat.pow_le_pow_right (by omega) (by omega)))
    have h2 : (2 ^ 63 + r).testBit i = false := Nat.testBit_lt_two_pow (by
      have : 2 ^ 64 ≤ 2 ^ i := Nat.pow_le_pow_right (by omega) (by omega)
      omega)
    have : decide (63 = i) = false := by simp; omega
    rw [h1, h2, this]; rfl
theorem neg_word (s : Bool) (r : Nat) (h : r < 9223372036854775808) : Op.negFloat .f64 (double.word s r) = double.word (!s) r := by
  have e := xor_top r h
  unfold Op.negFloat
  show double.word s r ^^^ 2 ^ 63 = _
  unfold Format.word
  rw [c_sw]
  cases s
  · simp only [Bool.false_eq_true, if_false, Bool.not_false, if_true]
    exact e
  · simp only [Bool.false_eq_true, if_false, Bool.not_true, if_true]
    have e2 : (9223372036854775808 + r) = r ^^^ 2 ^ 63 := e.symm
    rw [e2, Nat.xor_assoc, Nat.xor_self, Nat.xor_zero]
theorem nan_word (s : Bool) (q : Nat) (h0 : q ≠ 0) (h1 : q < 4503599627370496) : ∃ s' t, double.read (double.word s (9218868437227405312 + q)) = .nan s' t := by
  obtain ⟨e1, e2⟩ := word_parts s (9218868437227405312 + q) (by omega)
  refine ⟨s, q, ?_⟩
  unfold Format.read
  simp only [e1, e2, c_bn, c_ir]
  rw [if_neg (by omega), if_neg (by omega), if_neg (by omega)]
  have e3 : 9218868437227405312 + q - 9218868437227405312 = q := by omega
  rw [e3]
end Go.Proofs.YtladepgpandklaaDoor.Flt
