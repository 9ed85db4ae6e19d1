import Derived.Test.YtabffkfoafcmpabNea
namespace Go.Proofs.Ytabffkfoafcmpab
open Go.ChangeShapes Go.WideShapes Go.ChangeAt Go.RowKit
set_option linter.unusedVariables false
theorem and_one (L : Nat) (h : L < 18446744073709551616) : (bits .and .u64 (L : Int) 1 == 0) = decide (L % 2 = 0) := by
  have e := Go.u64_and_nat L 1 h (by omega)
  have e2 : ((1 : Nat) : Int) = 1 := rfl
  rw [e2] at e
  rw [e, Nat.and_one_is_mod]
  rw [Bool.eq_iff_iff]; simp; omega
theorem drop_any (m : Nat) (e D : Int) (hm0 : m ≠ 0) (hm : m < 18446744073709551616) (hD : D = Flt.lastP m e - e) :
    ∃ (lo hi : Int) (ev : Bool) (side : Int), (∀ w, Calls Try.prog 31 #[.int .u64 m, .int .i64 D, .bool false] w fun e' w' => e' = .returned (.agg #[.int .u64 lo, .int .u64 hi, .bool ev, .int .i64 side]) ∧ Grown w w') ∧
      (∀ w, Calls Try.prog 32 #[.agg #[.int .u64 lo, .int .u64 hi, .bool ev, .int .i64 side]] w fun e' w' => e' = .returned (.int .u64 (Flt.keptP m e : Nat)) ∧ Grown w w') := by
  have hlog : m.log2 < 64 := (Nat.log2_lt hm0).2 (by omega)
  have hlast : e + m.log2 - 52 ≤ Flt.lastP m e := by unfold Flt.lastP; omega
  by_cases h1 : D ≤ 0
  · have ek : Flt.keptP m e = m * 2 ^ (-D).toNat := by
      unfold Flt.keptP
      have a1 : (Flt.lastP m e - e).toNat = 0 := by omega
      have a2 : (e - Flt.lastP m e).toNat = (-D).toNat := by omega
      rw [a1, a2, Flt.rne_zero]
    have hlt : m * 2 ^ (-D).toNat < 18014398509481984 := by
      have h2 : m < 2 ^ (m.log2 + 1) := Nat.lt_log2_self
      have h3 : m * 2 ^ (-D).toNat < 2 ^ (m.log2 + 1) * 2 ^ (-D).toNat := Nat.mul_lt_mul_of_pos_right h2 (Nat.two_pow_pos _)
      rw [← Nat.pow_add] at h3
      have h4 : 2 ^ (m.log2 + 1 + (-D).toNat) ≤ 2 ^ 54 := Nat.pow_le_pow_right (by omega) (by omega)
      omega
    rw [ek]
    exact ⟨_, _, _, _, fun w => drop_a m D h1 (by omega) _ rfl hlt w, fun w => nearer_lo _ _ _ _ (Or.inl rfl) w⟩
  · have ek : Flt.keptP m e = Flt.rne m D.toNat := by
      unfold Flt.keptP
      have a1 : (Flt.lastP m e - e).toNat = D.toNat := by omega
      have a2 : (e - Flt.lastP m e).toNat = 0 := by omega
      rw [a1, a2, Nat.pow_zero, Nat.mul_one]
    rw [ek]
    by_cases h2 : 64 < D
    · have : Flt.rne m D.toNat = 0 := Flt.rne_small _ _ (by
        have : 2 ^ 65 ≤ 2 ^ D.toNat := Nat.pow_le_pow_right (by omega) (by omega)
        omega)
      rw [this]
      exact ⟨_, _, _, _, fun w => drop_b m D h2 w, fun w => nearer_lo _ _ _ _ (Or.inl rfl) w⟩
    · obtain ⟨d, rfl⟩ : ∃ d : Nat, D = (d : Int) := ⟨D.toNat, by omega⟩
      rw [Int.toNat_natCast]
      clear ek hD hlast
      have hd0 : 0 < d := by omega
      have hd : d ≤ 64 := by omega
      have hp := Nat.two_pow_pos d
      have hH : 2 ^ d = 2 * 2 ^ (d - 1) := by
        have : d = d - 1 + 1 := by omega
        rw [this, Nat.pow_succ, Nat.mul_comm]
        simp
      have hH2 : 2 ^ (d - 1) ≤ 2 ^ 63 := Nat.pow_le_pow_right (by omega) (by omega)
      have hdm := Nat.div_add_mod m (2 ^ d)
      have hL1 : m / 2 ^ d ≤ m := Nat.div_le_self _ _
      have hL2 : m / 2 ^ d ≤ m / 2 := Nat.div_le_div_left (by
        have : 2 ^ 1 ≤ 2 ^ d := Nat.pow_le_pow_right (by omega) (by omega)
        omega) (by omega)
      have hmod := Nat.mod_lt m hp
      unfold Flt.rne
      have cL : (m : Int) / 2 ^ d = ((m / 2 ^ d : Nat) : Int) := by simp
      have cR : IntKind.u64.wrap ((m : Int) - IntKind.u64.wrap (((m / 2 ^ d : Nat) : Int) * 2 ^ d)) = ((m % 2 ^ d : Nat) : Int) := by
        have e1 : (((m / 2 ^ d : Nat) : Int) * 2 ^ d) = ((m / 2 ^ d * 2 ^ d : Nat) : Int) := by simp
        rw [e1, IntKind.wrap_u64, IntKind.wrap_u64]
        rw [Nat.mul_comm] at hdm
        generalize m / 2 ^ d * 2 ^ d = q at *
        generalize m % 2 ^ d = r at *
        omega
      have cH : IntKind.u64.wrap (2 ^ (d - 1)) = ((2 ^ (d - 1) : Nat) : Int) := by
        have e1 : (2 : Int) ^ (d - 1) = ((2 ^ (d - 1) : Nat) : Int) := by simp
        rw [e1, IntKind.wrap_u64]
        generalize 2 ^ (d - 1) = q at *
        omega
      have hc := fun w => drop_c m d (m / 2 ^ d) (m % 2 ^ d) (2 ^ (d - 1)) _ hd0 hd cL cR cH (by omega) (and_one _ (by omega)) w
      refine ⟨_, _, _, _, hc, fun w => ?_⟩
      clear hc cL cR cH hdm hL1 hL2
      generalize m / 2 ^ d = L at *
      generalize m % 2 ^ d = R at *
      rw [hH]
      generalize 2 ^ (d - 1) = H at *
      by_cases hup : (2 * H < 2 * R ∨ 2 * H = 2 * R ∧ L % 2 = 1)
      · have : decide (2 * H < 2 * R ∨ 2 * H = 2 * R ∧ L % 2 = 1) = true := by simpa using hup
        rw [this]
        have := nearer_hi (L : Int) ((L : Int) + 1) (decide (L % 2 = 0)) (if (R : Int) < H then -1 else if (H : Int) < R then 1 else 0) (by
          rcases hup with g | ⟨g1, g2⟩
          · left; rw [if_neg (by omega), if_pos (by omega)]
          · right; exact ⟨by rw [if_neg (by omega), if_neg (by omega)], by simp; omega⟩) w
        simpa using this
      · have : decide (2 * H < 2 * R ∨ 2 * H = 2 * R ∧ L % 2 = 1) = false := by simpa using hup
        rw [this]
        have := nearer_lo (L : Int) ((L : Int) + 1) (decide (L % 2 = 0)) (if (R : Int) < H then -1 else if (H : Int) < R then 1 else 0) (by
          by_cases g : R < H
          · left; rw [if_pos (by omega)]
          · right
            have : R = H := by omega
            subst this
            exact ⟨by rw [if_neg (by omega), if_neg (by omega)], by simp; omega⟩) w
        simpa using this
theorem len_aux (f : Nat) : ∀ x : Nat, x ≠ 0 → x < 2 ^ f → Lib.bitLenAux f x = x.log2 + 1 := by
  induction f with
  | zero => intro x h0 h; simp at h; omega
  | succ f ih =>
    intro x h0 h
    unfold Lib.bitLenAux
    rw [if_neg h0, Nat.log2_def]
    by_cases h2 : 2 ≤ x
    · rw [if_pos h2, ih (x / 2) (by omega) (by rw [Nat.pow_succ] at h; omega)]
      omega
    · rw [if_neg h2]
      have : x / 2 = 0 := by omega
      rw [this]
      cases f with
      | zero => rfl
      | succ g => simp [Lib.bitLenAux]
theorem len_eq (m : Nat) (h0 : m ≠ 0) (h : m < 18446744073709551616) : Lib.bitLen m = m.log2 + 1 :=
  len_aux 64 m h0 (by omega)
theorem len_run (m : Nat) (h0 : m ≠ 0) (h : m < 18446744073709551616) (w : World) : Calls Try.prog 30 #[.int .u64 (m : Int)] w fun e w' => e = .returned (.int .i64 ((m.log2 : Int) + 1)) ∧ w' = w := by
  have := Try.bits_Len64 (m : Int) w (by omega) (by omega)
  rw [Int.toNat_natCast, len_eq m h0 h] at this
  exact this
set_option maxHeartbeats 1000000 in
theorem near_to (m : Nat) (e c : Int) (hm0 : m ≠ 0) (hm : m < 18446744073709551616) (hc : max (-2000) (min e 2000) = c) (h1 : -2000 ≤ c) (h2 : c ≤ 2000) (w : World) :
    Calls Try.prog 27 #[.int .u64 m, .int .i64 e, .bool false] w fun e' w' => e' = .returned (.float .f64 (Flt.nearW m c)) ∧ Grown w w' := by
  have hz : ((m : Int) == 0) = false := by simp; omega
  have hlog : m.log2 < 64 := (Nat.log2_lt hm0).2 (by omega)
  obtain ⟨lo, hi, ev, side, H31, H32⟩ := drop_any m c (Flt.lastP m c - c) hm0 hm rfl
  have hl : max (c + ((m.log2 : Int) + 1) - 52 - 1) (-1074) = Flt.lastP m c := by unfold Flt.lastP; omega
  have hb : -1074 ≤ Flt.lastP m c ∧ Flt.lastP m c ≤ 2011 := by unfold Flt.lastP; omega
  have hK := Flt.kept_le m c
  have HF : Hid (Flt.nearW m c = (min ((Flt.lastP m c + 1074) * 4503599627370496 + (Flt.keptP m c : Int)) 9218868437227405312).toNat) := by
    show Flt.nearW m c = _
    unfold Flt.nearW
    generalize Flt.keptP m c = K at *
    generalize Flt.lastP m c = l at *
    omega
  generalize Flt.keptP m c = K at *
  generalize Flt.nearW m c = N at *
  go_enter Try.func27, Try.ntmps27
  go_wp2_with fail
  refine (len_run m hm0 hm _).mono ?_
  rintro e w' ⟨rfl, rfl⟩
  go_wp2_with fail
  refine (H31 _).mono ?_
  rintro e w1 ⟨rfl, hg1⟩
  go_wp2_with fail
  refine (H32 _).mono ?_
  rintro e w2 ⟨rfl, hg2⟩
  clear H31 H32
  have hx := from_ext
  go_wp2
  go_ret
  refine ⟨?_, Grown.trans hg1 hg2⟩
  rw [show N = _ from HF]
  rfl
theorem near_to_zero (e : Int) (w : World) :
    Calls Try.prog 27 #[.int .u64 0, .int .i64 e, .bool false] w fun e' w' => e' = .returned (.float .f64 0) ∧ w' = w := by
  go_enter Try.func27, Try.ntmps27
  go_wp2
  go_ret
  exact ⟨rfl, rfl⟩
/-- what Near is, without its sign -/
def nearV (m : Nat) (e : Int) : Nat := if m = 0 then 0 else Flt.nearW m e
theorem nearV_le (m : Nat) (e : Int) : nearV m e ≤ 9218868437227405312 := by
  unfold nearV Flt.nearW; split <;> omega
theorem near_clamp (m : Nat) (e : Int) (hm0 : m ≠ 0) (hm : m < 18446744073709551616) : Flt.nearW m (max (-2000) (min e 2000)) = Flt.nearW m e := by
  by_cases h1 : 2000 < e
  · have e1 : max (-2000) (min e 2000) = 2000 := by omega
    rw [e1, Flt.near_big m 2000 hm0 (by unfold Flt.lastP; omega), Flt.near_big m e hm0 (by unfold Flt.lastP; omega)]
  · by_cases h2 : e < -2000
    · have e1 : max (-2000) (min e 2000) = -2000 := by omega
      rw [e1, Flt.near_zero m (-2000) hm (by omega), Flt.near_zero m e hm (by omega)]
    · have e1 : max (-2000) (min e 2000) = e := by omega
      rw [e1]
theorem near_to_any (m : Nat) (e : Int) (hm : m < 18446744073709551616) (w : World) :
    Calls Try.prog 27 #[.int .u64 m, .int .i64 e, .bool false] w fun e' w' => e' = .returned (.float .f64 (nearV m e)) ∧ Grown w w' := by
  by_cases hm0 : m = 0
  · subst hm0
    refine (near_to_zero e w).mono ?_
    rintro e w' ⟨rfl, rfl⟩
    exact ⟨rfl, Grown.refl _⟩
  · have := near_to m e _ hm0 hm rfl (by omega) (by omega) w
    rw [near_clamp m e hm0 hm] at this
    have e1 : nearV m e = Flt.nearW m e := by unfold nearV; rw [if_neg hm0]
    rw [e1]
    exact this
theorem andNot_top (N : Nat) (h : N < 9223372036854775808) : bits .andNot .u64 (N : Int) 9223372036854775808 = (N : Int) := by
  have e := Go.u64_andNot_nat N 9223372036854775808 (by omega) (by omega)
  have e2 : ((9223372036854775808 : Nat) : Int) = 9223372036854775808 := rfl
  rw [e2] at e
  rw [e]
  have h2 := Nat.and_two_pow_sub_one_eq_mod N 63
  have e3 : (18446744073709551615 - 9223372036854775808 : Nat) = 2 ^ 63 - 1 := by decide
  rw [e3, h2, Nat.mod_eq_of_lt (by omega)]
set_option maxHeartbeats 1000000 in
theorem with_sign (s : Bool) (N : Nat) (h : N ≤ 9218868437227405312) (w : World) :
    Calls Try.prog 26 #[.bool s, .float .f64 N] w fun e' w' => e' = .returned (.float .f64 (Ieee.double.word s N)) ∧ w' = w := by
  cases s
  · go_enter Try.func26, Try.ntmps26
    go_wp2
    go_ret
    exact ⟨rfl, rfl⟩
  · have h1 := andNot_top N (by omega)
    have h2 := or63 N (by omega)
    have hb := bits_ext
    have hx := from_ext
    go_enter Try.func26, Try.ntmps26
    have HA : Hid (bits .and .u64 13830554455654793216 9223372036854775808 = 9223372036854775808) := by
      show bits .and .u64 13830554455654793216 9223372036854775808 = 9223372036854775808
      decide
    go_wp2
    go_ret
    refine ⟨?_, rfl⟩
    show Ending.returned (.float .f64 (bits .or .u64 (N : Int) (bits .and .u64 13830554455654793216 9223372036854775808)).toNat) = _
    rw [show bits .and .u64 13830554455654793216 9223372036854775808 = _ from HA, h2, Int.toNat_natCast]
    rfl
theorem impl_near (s : Bool) (n e : Int) (w : World) :
    Calls Try.prog 15 #[.bool s, .int .i64 n, .int .i64 e] w fun e' w' => e' = .returned (.float .f64 (Ieee.double.word s (nearV (IntKind.u64.wrap n).toNat e))) ∧ Grown w w' := by
  have hm := wrap_toNat_lt n
  have hu : IntKind.u64.wrap n = ((IntKind.u64.wrap n).toNat : Int) := by
    have h0 : 0 ≤ IntKind.u64.wrap n ∧ IntKind.u64.wrap n < 18446744073709551616 := by rw [IntKind.wrap_u64]; omega
    omega
  generalize (IntKind.u64.wrap n).toNat = m at *
  go_enter Try.func15, Try.ntmps15
  go_wp2_with fail
  refine (near_to_any m e hm _).mono ?_
  rintro e w1 ⟨rfl, hg⟩
  go_wp2_with fail
  refine (with_sign s _ (nearV_le _ _) _).mono ?_
  rintro e w2 ⟨rfl, rfl⟩
  go_wp2_with fail
  go_ret
  exact ⟨rfl, hg⟩
end Go.Proofs.Ytabffkfoafcmpab
