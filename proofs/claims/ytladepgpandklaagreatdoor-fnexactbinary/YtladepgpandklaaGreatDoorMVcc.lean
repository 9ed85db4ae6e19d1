import Derived.Test.YtladepgpandklaaGreatDoorMFrb
import Derived.Laws.BitsAllLaws
import Derived.Lib.ItoaMem
namespace Go.Proofs.YtladepgpandklaaGreatDoor
open Go.ChangeShapes Go.WideShapes Go.ChangeAt Go.RowKit
set_option linter.unusedVariables false
set_option maxRecDepth 100000
/-- the exponent and the fraction of a size -/
theorem size_parts {m k : Nat} (hc : Flt.Canon m k) (hm : m ≠ 0) : ∃ E M : Nat, E ≤ 2046 ∧ M < 4503599627370496 ∧ k * 4503599627370496 + m = E * 4503599627370496 + M ∧
    (E = 0 → m = M ∧ k = 0) ∧ (E ≠ 0 → m = M + 4503599627370496 ∧ (E : Int) - 1075 = (k : Int) - 1074) := by
  have h1 := hc.lt; have h2 := hc.low; have h3 := hc.le
  by_cases h : m < 4503599627370496
  · have hk : k = 0 := by omega
    exact ⟨0, m, by omega, h, by omega, fun _ => ⟨rfl, hk⟩, fun g => absurd rfl g⟩
  · exact ⟨k + 1, m - 4503599627370496, by omega, by omega, by omega, fun g => by omega, fun _ => ⟨by omega, by omega⟩⟩
theorem ctz_spec (m : Nat) (h0 : m ≠ 0) (h : m < 18446744073709551616) : ∃ t o : Nat, Lib.ctz 64 m = t ∧ m = o * 2 ^ t ∧ o % 2 = 1 ∧ t < 64 := by
  obtain ⟨x, hx, ht⟩ := Lib.ctzFrom_spec 64 m (by omega) (by omega)
  refine ⟨Lib.ctzFrom 64 m, 2 * x + 1, by unfold Lib.ctz; rw [if_neg h0], by rw [Nat.mul_comm]; exact hx, by omega, ht⟩
theorem odd_unique {a b t j : Nat} (h : a * 2 ^ t = b * 2 ^ j) (ha : a % 2 = 1) (hb : b % 2 = 1) : a = b ∧ t = j := by
  rcases Nat.lt_trichotomy t j with g | g | g
  · exfalso
    have e : b * 2 ^ j = b * 2 ^ (j - t) * 2 ^ t := by rw [Nat.mul_assoc, ← Nat.pow_add]; congr 2; omega
    rw [e] at h
    have h1 := Nat.eq_of_mul_eq_mul_right (Nat.two_pow_pos t) h
    have h2 : 2 ^ (j - t) = 2 * 2 ^ (j - t - 1) := by rw [← Nat.pow_succ']; congr 1; omega
    rw [h2] at h1
    have h3 : b * (2 * 2 ^ (j - t - 1)) = 2 * (b * 2 ^ (j - t - 1)) := by rw [Nat.mul_left_comm]
    omega
  · subst g
    exact ⟨Nat.eq_of_mul_eq_mul_right (Nat.two_pow_pos t) h, rfl⟩
  · exfalso
    have e : a * 2 ^ t = a * 2 ^ (t - j) * 2 ^ j := by rw [Nat.mul_assoc, ← Nat.pow_add]; congr 2; omega
    rw [e] at h
    have h1 := Nat.eq_of_mul_eq_mul_right (Nat.two_pow_pos j) h
    have h2 : 2 ^ (t - j) = 2 * 2 ^ (t - j - 1) := by rw [← Nat.pow_succ']; congr 1; omega
    rw [h2] at h1
    have h3 : a * (2 * 2 ^ (t - j - 1)) = 2 * (a * 2 ^ (t - j - 1)) := by rw [Nat.mul_left_comm]
    omega
theorem or52b (M : Nat) (h : M < 4503599627370496) : bits .or .u64 (M : Int) 4503599627370496 = ((M + 4503599627370496 : Nat) : Int) := by
  have e := Go.u64_or_nat M 4503599627370496 (by omega) (by omega)
  have e2 : ((4503599627370496 : Nat) : Int) = 4503599627370496 := rfl
  rw [e2] at e
  have h2 := Nat.two_pow_add_eq_or_of_lt (i := 52) (b := M) (by omega) 1
  have e3 : (2 ^ 52 * 1 : Nat) = 4503599627370496 := by decide
  rw [e3] at h2
  rw [e, Nat.or_comm, ← h2, Nat.add_comm]
theorem lt_of_cell {w : World} {b off : Nat} {v : Value} (h : w.cell? ⟨b, off, none⟩ = some v) : b < w.heap.size := by
  refine Nat.lt_of_not_le fun g => ?_
  have e : w.heap[b]? = none := Array.getElem?_eq_none_iff.2 g
  simp [World.cell?, e] at h
/-- the table lies there -/
structure Tab (w : World) : Prop where
  lt : 2 < w.heap.size
  at_ : TabAt 2 Lib.deBruijn64tab w
theorem Tab.grown {a b : World} (h : Tab a) (g : Grown a b) : Tab b := by
  refine ⟨Nat.lt_of_lt_of_le h.lt g.2.2, fun j hj => ?_⟩
  rw [World.keptBut.cell g.1 h.lt (fun f => f)]
  exact h.at_ j hj
theorem tz (m o t : Nat) (h0 : m ≠ 0) (h : m < 18446744073709551616) (HO : m = o * 2 ^ t) (ho : o % 2 = 1) (w : World) (hT : Tab w) :
    Calls Tryz.prog 85 #[.int .u64 (m : Int)] w fun e w' => e = .returned (.int .i64 (t : Int)) ∧ w' = w := by
  have := Any7.bits_TrailingZeros64 laysT m h w (fun _ => hT.at_)
  obtain ⟨t', o', e1, e2, e3, _⟩ := ctz_spec m h0 h
  have e4 := odd_unique (HO.symm.trans e2) ho e3
  rw [e1, ← e4.2] at this
  exact this
theorem bits_ext (x : Nat) (w : World) : (callFunc 92 #[.float .f64 x]).run Tryz.prog w = .ok (.value (.int .u64 x)) w := by
  rw [run_callFunc_extern (e := Extern.MathFloatBits.float64bits) Tryz.func92 (by kernel_rfl) (by kernel_rfl) (by kernel_rfl) (by kernel_rfl)]
  rfl
theorem from_ext (n : Int) (w : World) : (callFunc 101 #[.int .u64 n]).run Tryz.prog w = .ok (.value (.float .f64 n.toNat)) w := by
  rw [run_callFunc_extern (e := Extern.MathFloatBits.float64frombits) Tryz.func101 (by kernel_rfl) (by kernel_rfl) (by kernel_rfl) (by kernel_rfl)]
  rfl
/-- the bits of a word, taken apart -/
theorem word_bits (s : Bool) (E M : Nat) (hE : E ≤ 2047) (hM : M < 4503599627370496) (x : Nat) (hx : x = Ieee.double.word s (E * 4503599627370496 + M)) :
    bits .andNot .u64 (x : Int) 9223372036854775808 = ((E * 4503599627370496 + M : Nat) : Int) ∧ bits .and .u64 ((x : Int) / 4503599627370496) 2047 = (E : Int) ∧ bits .and .u64 (x : Int) 4503599627370495 = (M : Int) ∧
      decide (wrap64 (x : Int) < 0) = s := by
  have hx2 : x < 18446744073709551616 ∧ x % 9223372036854775808 = E * 4503599627370496 + M ∧ decide (9223372036854775808 ≤ x) = s := by
    have hr : E * 4503599627370496 + M < 9223372036854775808 := by omega
    unfold Ieee.Format.word at hx
    rw [Flt.c_sw] at hx
    cases s
    · simp at hx; refine ⟨by omega, by omega, by simp; omega⟩
    · simp at hx; refine ⟨by omega, by omega, by simp; omega⟩
  obtain ⟨h1, h2, h3⟩ := hx2
  clear hx
  refine ⟨?_, ?_, ?_, ?_⟩
  · have e := Go.u64_andNot_nat x 9223372036854775808 h1 (by omega)
    have e2 : ((9223372036854775808 : Nat) : Int) = 9223372036854775808 := rfl
    rw [e2] at e
    have h4 := Nat.and_two_pow_sub_one_eq_mod x 63
    have e3 : (18446744073709551615 - 9223372036854775808 : Nat) = 2 ^ 63 - 1 := by decide
    rw [e, e3, h4]
    have e5 : (2 ^ 63 : Nat) = 9223372036854775808 := by decide
    rw [e5, h2]
  · have e : ((x : Int) / 4503599627370496) = ((x / 4503599627370496 : Nat) : Int) := by omega
    have e2 : (2047 : Int) = ((2047 : Nat) : Int) := rfl
    rw [e, e2, Go.u64_and_nat _ _ (by omega) (by omega)]
    have := Nat.and_two_pow_sub_one_eq_mod (x / 4503599627370496) 11
    rw [show (2 ^ 11 - 1 : Nat) = 2047 from rfl] at this
    rw [this]
    congr 1
    omega
  · have e2 : (4503599627370495 : Int) = ((4503599627370495 : Nat) : Int) := rfl
    rw [e2, Go.u64_and_nat _ _ (by omega) (by omega)]
    have := Nat.and_two_pow_sub_one_eq_mod x 52
    rw [show (2 ^ 52 - 1 : Nat) = 4503599627370495 from rfl] at this
    rw [this]
    congr 1
    omega
  · rw [← h3]
    rw [Bool.eq_iff_iff]
    simp only [decide_eq_true_eq]
    unfold wrap64
    omega
theorem signbit (x : Nat) (s : Bool) (q4 : decide (wrap64 (x : Int) < 0) = s) (w : World) : Calls Tryz.prog 82 #[.float .f64 x] w fun e w' => e = .returned (.bool s) ∧ w' = w := by
  have hb := bits_ext
  go_enter Tryz.func82, Tryz.ntmps82
  go_wp2
  go_ret
  exact ⟨rfl, rfl⟩
theorem is_inf (x r : Nat) (b : Bool) (q1 : bits .andNot .u64 (x : Int) 9223372036854775808 = (r : Int)) (hmax : (FloatKind.f64.format.order r 9218868437227405311 == some .gt) = b) (w : World) :
    Calls Tryz.prog 83 #[.float .f64 x, .int .i64 0] w fun e w' => e = .returned (.bool b) ∧ w' = w := by
  have hb := bits_ext
  have hx := from_ext
  go_enter Tryz.func83, Tryz.ntmps83
  go_wp2
  go_ret
  exact ⟨rfl, rfl⟩
theorem stored_sub (x M : Nat) (q2 : bits .and .u64 ((x : Int) / 4503599627370496) 2047 = 0) (q3 : bits .and .u64 (x : Int) 4503599627370495 = (M : Int)) (w : World) :
    Calls Tryz.prog 84 #[.float .f64 x] w fun e w' => e = .returned (.tuple #[.int .u64 (M : Int), .int .i64 (-1074)]) ∧ w' = w := by
  have hb := bits_ext
  go_enter Tryz.func84, Tryz.ntmps84
  go_wp2
  go_ret2
  exact ⟨rfl, rfl⟩
theorem stored_norm (x M E m : Nat) (q2 : bits .and .u64 ((x : Int) / 4503599627370496) 2047 = (E : Int)) (q3 : bits .and .u64 (x : Int) 4503599627370495 = (M : Int)) (hE1 : E ≤ 2046) (hE0 : ((E : Int) == 0) = false) (ho5 : bits .or .u64 (M : Int) 4503599627370496 = (m : Int)) (w : World) :
    Calls Tryz.prog 84 #[.float .f64 x] w fun e w' => e = .returned (.tuple #[.int .u64 (m : Int), .int .i64 ((E : Int) - 1 + -1074)]) ∧ w' = w := by
  have hb := bits_ext
  go_enter Tryz.func84, Tryz.ntmps84
  go_wp2
  go_ret2
  exact ⟨rfl, rfl⟩
theorem impl_parts (x m o t : Nat) (X0 : Int) (s : Bool) (hself : FloatKind.f64.format.order x x = some .eq) (hzero : FloatKind.f64.format.order x 0 = some .lt ∨ FloatKind.f64.format.order x 0 = some .gt)
    (h11 : ∀ w, Calls Tryz.prog 82 #[.float .f64 x] w fun e w' => e = .returned (.bool s) ∧ w' = w)
    (h13 : ∀ w, Calls Tryz.prog 83 #[.float .f64 x, .int .i64 0] w fun e w' => e = .returned (.bool false) ∧ w' = w)
    (h14 : ∀ w, Calls Tryz.prog 84 #[.float .f64 x] w fun e w' => e = .returned (.tuple #[.int .u64 (m : Int), .int .i64 X0]) ∧ w' = w)
    (h15 : ∀ w, Tab w → Calls Tryz.prog 85 #[.int .u64 (m : Int)] w fun e w' => e = .returned (.int .i64 (t : Int)) ∧ w' = w)
    (hsh : (m : Int) / 2 ^ t = (o : Int)) (ho2 : (o : Int) ≤ 9007199254740991) (ht : t < 64) (hX1 : -2000 ≤ X0) (hX2 : X0 ≤ 2000) (w : World) (hT : Tab w) :
    Calls Tryz.prog 71 #[.float .f64 x] w fun e w' => e = .returned (.agg #[.int .i64 1, .bool s, .int .i64 o, .int .i64 (X0 + (t : Int))]) ∧ Grown w w' := by
  have H11 := h11
  rcases hzero with hzero | hzero
  all_goals
    go_enter Tryz.func71, Tryz.ntmps71
    go_wp2_with fail
    refine (h11 _).mono ?_
    rintro e w1 ⟨rfl, rfl⟩
    go_wp2_with fail
    go_in
    go_wp2_with fail
    refine (h13 _).mono ?_
    rintro e w2 ⟨rfl, rfl⟩
    go_wp2_with fail
    refine (h14 _).mono ?_
    rintro e w3 ⟨rfl, rfl⟩
    go_wp2_with fail
    refine (h15 _ (hT.grown (by go_grown))).mono ?_
    rintro e w4 ⟨rfl, rfl⟩
    clear h11 h13 h14 h15 H11
    go_wp2_with fail
    go_returns
    exact ⟨rfl, by go_grown⟩
theorem impl_nan (x : Nat) (hn : FloatKind.f64.format.order x x = none) (w : World) : Calls Tryz.prog 71 #[.float .f64 x] w fun e w' => e = .returned (.agg #[.int .i64 3, .bool false, .int .i64 0, .int .i64 0]) ∧ Grown w w' := by
  have hb := bits_ext
  go_enter Tryz.func71, Tryz.ntmps71
  go_wp2
  go_returns
  exact ⟨rfl, by go_grown⟩
theorem impl_kind (x : Nat) (s b : Bool) (k : Int) (hself : FloatKind.f64.format.order x x = some .eq)
    (h11 : ∀ w, Calls Tryz.prog 82 #[.float .f64 x] w fun e w' => e = .returned (.bool s) ∧ w' = w)
    (h13 : ∀ w, Calls Tryz.prog 83 #[.float .f64 x, .int .i64 0] w fun e w' => e = .returned (.bool b) ∧ w' = w)
    (hk : b = true ∧ k = 2 ∨ b = false ∧ k = 0 ∧ FloatKind.f64.format.order x 0 = some .eq) (w : World) :
    Calls Tryz.prog 71 #[.float .f64 x] w fun e w' => e = .returned (.agg #[.int .i64 k, .bool s, .int .i64 0, .int .i64 0]) ∧ Grown w w' := by
  rcases hk with ⟨rfl, rfl⟩ | ⟨rfl, rfl, hz⟩
  all_goals
    go_enter Tryz.func71, Tryz.ntmps71
    go_wp2_with fail
    refine (h11 _).mono ?_
    rintro e w1 ⟨rfl, rfl⟩
    go_wp2_with fail
    go_in
    go_wp2_with fail
    refine (h13 _).mono ?_
    rintro e w2 ⟨rfl, rfl⟩
    clear h11 h13
    go_wp2_with fail
    go_returns
    exact ⟨rfl, by go_grown⟩
/-- PartsOf at a number that is not 0 -/
theorem im_parts (s : Bool) (m k : Nat) (hc : Flt.Canon m k) (hm : m ≠ 0) : ∃ o t : Nat, m = o * 2 ^ t ∧ o % 2 = 1 ∧ t ≤ 52 ∧ (o : Int) ≤ 9007199254740991 ∧ ∀ w, Tab w → Calls Tryz.prog 71 #[.float .f64 (Ieee.double.word s (k * 4503599627370496 + m))] w fun e w' => e = .returned (.agg #[.int .i64 1, .bool s, .int .i64 o, .int .i64 ((k : Int) + t - 1074)]) ∧ Grown w w' := by
  obtain ⟨x, hw⟩ : ∃ x, x = Ieee.double.word s (k * 4503599627370496 + m) := ⟨_, rfl⟩
  rw [← hw]
  have hself := Flt.ord_self s hc
  rw [← hw] at hself
  have hzero := Flt.ord_zero s hc hm
  rw [← hw] at hzero
  have hzero2 : FloatKind.f64.format.order x 0 = some .lt ∨ FloatKind.f64.format.order x 0 = some .gt := by
    rw [hzero]; cases s <;> simp
  have hmax := Flt.ord_max hc
  rw [Flt.F_word hc] at hmax
  have hmlt := hc.lt
  obtain ⟨t, o, _, HO, ho, ht⟩ := ctz_spec m hm (by omega)
  have hsh : (m : Int) / 2 ^ t = (o : Int) := by
    have : ((m : Nat) : Int) / 2 ^ t = ((m / 2 ^ t : Nat) : Int) := by simp
    rw [this, HO, Nat.mul_div_cancel _ (Nat.two_pow_pos t)]
  have ho2 : (o : Int) ≤ 9007199254740991 := by
    have : o * 1 ≤ o * 2 ^ t := Nat.mul_le_mul_left _ Nat.one_le_two_pow
    omega
  have ht2 : t ≤ 52 := by
    refine Nat.le_of_not_lt fun g => ?_
    have h1 : 2 ^ 53 ≤ 2 ^ t := Nat.pow_le_pow_right (by omega) g
    have h2 : 1 * 2 ^ t ≤ o * 2 ^ t := Nat.mul_le_mul_right _ (by omega)
    have h3 : (2 : Nat) ^ 53 = 9007199254740992 := by decide
    omega
  obtain ⟨E, M, hE, hM, hR, hE0, hE1⟩ := size_parts hc hm
  rw [hR] at hw
  have hmax2 : (FloatKind.f64.format.order (E * 4503599627370496 + M) 9218868437227405311 == some .gt) = false := by
    rw [hR] at hmax
    have hmax3 : FloatKind.f64.format.order (E * 4503599627370496 + M) 9218868437227405311 = some .lt ∨ FloatKind.f64.format.order (E * 4503599627370496 + M) 9218868437227405311 = some .eq := hmax
    rcases hmax3 with g | g <;> rw [g] <;> decide
  obtain ⟨q1, q2, q3, q4⟩ := word_bits s E M (by omega) hM x hw
  refine ⟨o, t, HO, ho, ht2, ho2, fun w hT => ?_⟩
  by_cases h0 : E = 0
  · obtain ⟨g1, g2⟩ := hE0 h0
    subst h0
    have h14 := stored_sub x M q2 q3
    rw [← g1] at h14
    have := impl_parts x m o t (-1074) s hself hzero2 (signbit x s q4) (is_inf x _ false q1 hmax2) h14 (fun w hw => tz m o t hm (by omega) HO ho w hw) hsh ho2 ht (by omega) (by omega) w hT
    rw [show (-1074 : Int) + (t : Int) = (k : Int) + t - 1074 by omega] at this
    exact this
  · obtain ⟨g1, g2⟩ := hE1 h0
    have ho5 := or52b M hM
    rw [← g1] at ho5
    have h14 := stored_norm x M E m q2 q3 hE (by simp; omega) ho5
    have := impl_parts x m o t _ s hself hzero2 (signbit x s q4) (is_inf x _ false q1 hmax2) h14 (fun w hw => tz m o t hm (by omega) HO ho w hw) hsh ho2 ht (by omega) (by omega) w hT
    rw [show (E : Int) - 1 + -1074 + (t : Int) = (k : Int) + t - 1074 by omega] at this
    exact this
theorem im_parts_inf (s : Bool) (w : World) : Calls Tryz.prog 71 #[.float .f64 (Ieee.double.word s 9218868437227405312)] w fun e w' => e = .returned (.agg #[.int .i64 2, .bool s, .int .i64 0, .int .i64 0]) ∧ Grown w w' := by
  obtain ⟨x, hw⟩ : ∃ x, x = Ieee.double.word s (2047 * 4503599627370496 + 0) := ⟨_, rfl⟩
  have hw2 : x = Ieee.double.word s 9218868437227405312 := hw
  rw [← hw2]
  have hself : FloatKind.f64.format.order x x = some .eq := by subst hw2; cases s <;> decide
  obtain ⟨q1, _, _, q4⟩ := word_bits s 2047 0 (by omega) (by omega) x hw
  exact impl_kind x s true 2 hself (signbit x s q4) (is_inf x _ true q1 (by decide)) (Or.inl ⟨rfl, rfl⟩) w
theorem im_parts_zero (s : Bool) (w : World) : Calls Tryz.prog 71 #[.float .f64 (Ieee.double.word s 0)] w fun e w' => e = .returned (.agg #[.int .i64 0, .bool s, .int .i64 0, .int .i64 0]) ∧ Grown w w' := by
  obtain ⟨x, hw⟩ : ∃ x, x = Ieee.double.word s (0 * 4503599627370496 + 0) := ⟨_, rfl⟩
  have hw2 : x = Ieee.double.word s 0 := hw
  rw [← hw2]
  have hself : FloatKind.f64.format.order x x = some .eq := by subst hw2; cases s <;> decide
  have hz : FloatKind.f64.format.order x 0 = some .eq := by subst hw2; cases s <;> decide
  obtain ⟨q1, _, _, q4⟩ := word_bits s 0 0 (by omega) (by omega) x hw
  exact impl_kind x s false 0 hself (signbit x s q4) (is_inf x _ false q1 (by decide)) (Or.inr ⟨rfl, rfl, hz⟩) w
end Go.Proofs.YtladepgpandklaaGreatDoor
