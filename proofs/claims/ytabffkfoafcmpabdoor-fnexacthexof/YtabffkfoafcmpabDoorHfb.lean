import Derived.Test.YtabffkfoafcmpabDoorHfa
namespace Go.Proofs.YtabffkfoafcmpabDoor
open Go.ChangeShapes Go.WideShapes Go.ChangeAt Go.RowKit
set_option linter.unusedVariables false
theorem nan_all (x : Nat) (h : FloatKind.f64.format.order x x = none) (y : Nat) : FloatKind.f64.format.order x y = none := by
  rcases Flt.d_self (FloatKind.f64.format.read x) with ⟨_, g⟩ | ⟨_, g⟩
  · exact (g _).1
  · have : FloatKind.f64.format.order x x = some .eq := g
    rw [this] at h
    cases h
/-- both write the same text -/
theorem hex_any (x : Nat) (hx : x < 18446744073709551616) : ∃ T : ByteArray,
    (∀ w, Calls Tryd.prog 8 #[.float .f64 x] w fun e w' => e = .returned (.string T) ∧ Kept w w') ∧
    (∀ w, Tab w → Lib.TabIs Tryd.prog w "internal/strconv.uint64pow10" .u64 Lib.pow10Tab → Calls Tryd.prog 9 #[.float .f64 x] w fun e w' => e = .returned (.string T) ∧ Kept w w') := by
  rcases Flt.read_cases x hx with ⟨s, t, hr⟩ | ⟨s, hr, hw⟩ | ⟨s, m, k, hc, hr, hw⟩
  · have hn : FloatKind.f64.format.order x x = none := Flt.order_nan ⟨s, t, hr⟩
    exact ⟨_, spec_hex_nan x (nan_all x hn), fun w _ _ => impl_hex_nan x hn w⟩
  · have hself : FloatKind.f64.format.order x x = some .eq := by subst hw; cases s <;> decide
    obtain ⟨q1, _, _, q4⟩ := word_bits s 2047 0 (by omega) (by omega) x hw
    have H6 := fun w => impl_kind x s true 2 hself (signbit x s q4) (is_inf x _ true q1 (by decide)) (Or.inl ⟨rfl, rfl⟩) w
    have H16 : ∀ w, Calls Tryd.prog 16 #[.float .f64 x] w fun e w' => e = .returned (.tuple #[.float .f64 9218868437227405312, .string ⟨(sgn s).toArray⟩]) ∧ w' = w := by
      subst hw
      cases s
      · exact size_pos 9218868437227405312 (by decide)
      · exact size_neg 18442240474082181120 9218868437227405312 (by decide) (neg_run _)
    exact ⟨_, spec_hex_inf s x x H16, fun w _ _ => impl_hex_inf x s H6 w⟩
  · obtain ⟨a, c, d, b1, b2, b3, b4, ha, hp⟩ := parts_fin m k hc
    have hmax := Flt.ord_max hc
    rw [Flt.F_word hc] at hmax
    have h5 := (hp false _ rfl).1
    have h6 := (hp s x hw).2
    have hself := Flt.ord_self false hc
    by_cases hm : m = 0
    · subst hm
      have hk : k = 0 := by have := hc.low; omega
      subst hk
      have H16 : ∀ w, Calls Tryd.prog 16 #[.float .f64 x] w fun e w' => e = .returned (.tuple #[.float .f64 0, .string ⟨(sgn s).toArray⟩]) ∧ w' = w := by
        subst hw
        cases s
        · exact size_zero
        · exact size_negzero
      refine ⟨_, fun w => spec_hex_num s true a c d x 0 b1 b2 b3 b4 H16 (odd_num 0 true (by decide) (Or.inl (by decide)) (Or.inl ⟨rfl, by decide⟩)) h5 w, fun w hT ht => impl_hex_num s a c d x b1 b2 b3 b4 ha h6 w hT ht⟩
    · have H16 : ∀ w, Calls Tryd.prog 16 #[.float .f64 x] w fun e w' => e = .returned (.tuple #[.float .f64 (Ieee.double.word false (k * 4503599627370496 + m)), .string ⟨(sgn s).toArray⟩]) ∧ w' = w := by
        have hz := Flt.ord_zero s hc hm
        rw [← hw] at hz
        cases s
        · rw [← hw]
          exact size_pos x hz
        · refine size_neg x _ hz (fun w => ?_)
          rw [neg_run, hw, Flt.neg_word true _ (by have := hc.rung; omega)]
          rfl
      have hz := Flt.ord_zero false hc hm
      exact ⟨_, fun w => spec_hex_num s false a c d x _ b1 b2 b3 b4 H16 (odd_num _ false hself hmax (Or.inr ⟨rfl, hz⟩)) h5 w, fun w hT ht => impl_hex_num s a c d x b1 b2 b3 b4 ha h6 w hT ht⟩
theorem law_hex (x : Nat) (hx : x < 18446744073709551616) (w : World) (hT : Tab w) (htab : Lib.TabIs Tryd.prog w "internal/strconv.uint64pow10" .u64 Lib.pow10Tab) :
    Calls Tryd.prog 4 #[.float .f64 x] w fun e w' => e = .returned (.bool true) ∧ Kept w w' := by
  obtain ⟨T, h8, h9⟩ := hex_any x hx
  go_enter Tryd.func4, Tryd.ntmps4
  go_wp2_with fail
  refine (h8 _).mono ?_
  rintro e w1 ⟨rfl, g1⟩
  go_wp2_with fail
  refine (h9 _ (hT.kept g1) (tabIs_kept htab g1)).mono ?_
  rintro e w2 ⟨rfl, g2⟩
  clear h8 h9 hT htab
  go_wp2_with fail
  go_ret
  exact ⟨rfl, g1.trans g2⟩
end Go.Proofs.YtabffkfoafcmpabDoor
