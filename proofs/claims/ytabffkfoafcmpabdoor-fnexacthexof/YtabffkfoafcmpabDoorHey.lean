import Derived.Test.YtabffkfoafcmpabDoorHex
namespace Go.Proofs.YtabffkfoafcmpabDoor
open Go.ChangeShapes Go.WideShapes Go.ChangeAt Go.RowKit
set_option linter.unusedVariables false
/-- the parts of a float that is a number: the sign goes through, the rest hangs on the size alone -/
theorem parts_fin (m k : Nat) (hc : Flt.Canon m k) : ∃ (a c d : Int), 0 ≤ c ∧ c ≤ 9007199254740992 ∧ -3000 ≤ d ∧ d ≤ 3000 ∧ (a = 0 ∨ a = 1) ∧ ∀ (s : Bool) (x : Nat), x = Ieee.double.word s (k * 4503599627370496 + m) →
    (∀ w, Calls Tryd.prog 5 #[.float .f64 x] w fun e w' => e = .returned (.agg #[.int .i64 a, .bool s, .int .i64 c, .int .i64 d]) ∧ Grown w w') ∧
    (∀ w, Tab w → Calls Tryd.prog 6 #[.float .f64 x] w fun e w' => e = .returned (.agg #[.int .i64 a, .bool s, .int .i64 c, .int .i64 d]) ∧ Grown w w') := by
  by_cases hm : m = 0
  · subst hm
    have hk : k = 0 := by have := hc.low; omega
    subst hk
    refine ⟨0, 0, 0, by omega, by omega, by omega, by omega, Or.inl rfl, fun s x hw => ?_⟩
    have hself := Flt.ord_self s hc
    rw [← hw] at hself
    obtain ⟨q1, _, _, q4⟩ := word_bits s 0 0 (by omega) (by omega) x hw
    have hz : FloatKind.f64.format.order x 0 = some .eq := by subst hw; cases s <;> decide
    have hraw : ∀ w, Calls Tryd.prog 10 #[.float .f64 x] w fun e w' => e = .returned (.tuple #[.bool s, .int .u64 0]) ∧ w' = w := by
      subst hw
      cases s
      · exact raw_zero
      · exact raw_negzero
    exact ⟨spec_zero x s hself hraw, fun w _ => impl_kind x s false 0 hself (signbit x s q4) (is_inf x _ false q1 (by decide)) (Or.inr ⟨rfl, rfl, hz⟩) w⟩
  · have hmax := Flt.ord_max hc
    rw [Flt.F_word hc] at hmax
    have hmlt := hc.lt
    obtain ⟨t, o, _, HO, ho, ht⟩ := ctz_spec m hm (by omega)
    have hsh : (m : Int) / 2 ^ t = (o : Int) := by
      have : ((m : Nat) : Int) / 2 ^ t = ((m / 2 ^ t : Nat) : Int) := by simp
      rw [this, HO, Nat.mul_div_cancel _ (Nat.two_pow_pos t)]
    have ho2 : (o : Int) ≤ 9007199254740991 := by
      have : o * 1 ≤ o * 2 ^ t := Nat.mul_le_mul_left _ Nat.one_le_two_pow
      omega
    obtain ⟨E, M, hE, hM, hR, hE0, hE1⟩ := size_parts hc hm
    have hmax2 : (FloatKind.f64.format.order (E * 4503599627370496 + M) 9218868437227405311 == some .gt) = false := by
      rw [hR] at hmax
      have hmax3 : FloatKind.f64.format.order (E * 4503599627370496 + M) 9218868437227405311 = some .lt ∨ FloatKind.f64.format.order (E * 4503599627370496 + M) 9218868437227405311 = some .eq := hmax
      rcases hmax3 with g | g <;> rw [g] <;> decide
    have hRz : (((E * 4503599627370496 + M : Nat) : Int) == 0) = false := by simp; omega
    have hRE : ((E * 4503599627370496 + M : Nat) : Int) / 4503599627370496 = (E : Int) := by omega
    have hRM := and52 E M (by omega) hM
    have key : ∀ (s : Bool) (x : Nat), x = Ieee.double.word s (k * 4503599627370496 + m) → FloatKind.f64.format.order x x = some .eq ∧ (FloatKind.f64.format.order x 0 = some .lt ∨ FloatKind.f64.format.order x 0 = some .gt) ∧
        (∀ w, Calls Tryd.prog 10 #[.float .f64 x] w fun e w' => e = .returned (.tuple #[.bool s, .int .u64 ((E * 4503599627370496 + M : Nat) : Int)]) ∧ w' = w) ∧ x = Ieee.double.word s (E * 4503599627370496 + M) := by
      intro s x hw
      have hself := Flt.ord_self s hc
      rw [← hw] at hself
      have hzero := Flt.ord_zero s hc hm
      rw [← hw] at hzero
      have hraw := fun w => raw_num s m k hc hm w
      rw [← hw] at hraw
      rw [hR] at hraw hw
      exact ⟨hself, by rw [hzero]; cases s <;> simp, hraw, hw⟩
    by_cases h0 : E = 0
    · obtain ⟨g1, g2⟩ := hE0 h0
      subst h0
      refine ⟨1, o, -1074 + t, by omega, by omega, by omega, by omega, Or.inr rfl, fun s x hx => ?_⟩
      obtain ⟨hself, hzero2, hraw, hw⟩ := key s x hx
      obtain ⟨q1, q2, q3, q4⟩ := word_bits s 0 M (by omega) hM x hw
      refine ⟨fun w => parts_sub x s _ 0 M m o t hself hraw hRz hRE hRM hM g1 (by omega) hmlt HO ho w, fun w hT => ?_⟩
      have h14 := stored_sub x M q2 q3
      rw [← g1] at h14
      exact impl_parts x m o t (-1074) s hself hzero2 (signbit x s q4) (is_inf x _ false q1 hmax2) h14 (fun w hw => tz m o t hm (by omega) HO ho w hw) hsh ho2 ht (by omega) (by omega) w hT
    · obtain ⟨g1, g2⟩ := hE1 h0
      have ho5 := or52b M hM
      refine ⟨1, o, (E : Int) - 1075 + t, by omega, by omega, by omega, by omega, Or.inr rfl, fun s x hx => ?_⟩
      obtain ⟨hself, hzero2, hraw, hw⟩ := key s x hx
      obtain ⟨q1, q2, q3, q4⟩ := word_bits s E M (by omega) hM x hw
      refine ⟨fun w => parts_norm x s _ E M m o t hself hraw hRz hRE hRM hM hE (by omega) ho5 g1 (by omega) hmlt HO ho w, fun w hT => ?_⟩
      rw [← g1] at ho5
      have h14 := stored_norm x M E m q2 q3 hE (by simp; omega) ho5
      have e : (E : Int) - 1075 = (E : Int) - 1 + -1074 := by omega
      rw [e]
      exact impl_parts x m o t _ s hself hzero2 (signbit x s q4) (is_inf x _ false q1 hmax2) h14 (fun w hw => tz m o t hm (by omega) HO ho w hw) hsh ho2 ht (by omega) (by omega) w hT
/-- the size of a float, and its sign -/
theorem size_nan (x : Nat) (hn : ∀ y, FloatKind.f64.format.order x y = none) (w : World) :
    Calls Tryd.prog 16 #[.float .f64 x] w fun e w' => e = .returned (.tuple #[.float .f64 x, .string ⟨#[]⟩]) ∧ w' = w := by
  have h0 := hn 0
  clear hn
  go_enter Tryd.func16, Tryd.ntmps16
  go_wp2
  go_ret2
  exact ⟨rfl, rfl⟩
theorem size_pos (x : Nat) (h : FloatKind.f64.format.order x 0 = some .gt) (w : World) :
    Calls Tryd.prog 16 #[.float .f64 x] w fun e w' => e = .returned (.tuple #[.float .f64 x, .string ⟨#[]⟩]) ∧ w' = w := by
  go_enter Tryd.func16, Tryd.ntmps16
  go_wp2
  go_ret2
  exact ⟨rfl, rfl⟩
theorem size_neg (x y : Nat) (h : FloatKind.f64.format.order x 0 = some .lt) (hy : ∀ w, (Op.unary .neg (.float .f64 x)).run Tryd.prog w = .ok (.float .f64 y) w) (w : World) :
    Calls Tryd.prog 16 #[.float .f64 x] w fun e w' => e = .returned (.tuple #[.float .f64 y, .string ⟨#[45]⟩]) ∧ w' = w := by
  go_enter Tryd.func16, Tryd.ntmps16
  go_wp2
  go_ret2
  exact ⟨rfl, rfl⟩
theorem size_zero (w : World) : Calls Tryd.prog 16 #[.float .f64 0] w fun e w' => e = .returned (.tuple #[.float .f64 0, .string ⟨#[]⟩]) ∧ w' = w := by
  have h1 : FloatKind.f64.format.order 0 0 = some .eq := by decide
  have hq := quo_run (x := 0) (r := 9218868437227405312) (by decide)
  have hg : FloatKind.f64.format.order 9218868437227405312 0 = some .gt := by decide
  go_enter Tryd.func16, Tryd.ntmps16
  go_wp2
  go_ret2
  exact ⟨rfl, rfl⟩
theorem size_negzero (w : World) : Calls Tryd.prog 16 #[.float .f64 9223372036854775808] w fun e w' => e = .returned (.tuple #[.float .f64 0, .string ⟨#[45]⟩]) ∧ w' = w := by
  have h2 : FloatKind.f64.format.order 9223372036854775808 0 = some .eq := by decide
  have hq := quo_run (x := 9223372036854775808) (r := 18442240474082181120) (by decide)
  have hg : FloatKind.f64.format.order 18442240474082181120 0 = some .lt := by decide
  have hn : ∀ w, (Op.unary .neg (.float .f64 9223372036854775808)).run Tryd.prog w = .ok (.float .f64 0) w := neg_run _
  go_enter Tryd.func16, Tryd.ntmps16
  go_wp2
  go_ret2
  exact ⟨rfl, rfl⟩
theorem odd_nan (x : Nat) (hn : FloatKind.f64.format.order x x = none) (w : World) :
    Calls Tryd.prog 17 #[.float .f64 x] w fun e w' => e = .returned (.tuple #[.string ⟨#[110, 97, 110]⟩, .bool true]) ∧ w' = w := by
  go_enter Tryd.func17, Tryd.ntmps17
  go_wp2
  go_ret2
  exact ⟨rfl, rfl⟩
theorem odd_inf (w : World) : Calls Tryd.prog 17 #[.float .f64 9218868437227405312] w fun e w' => e = .returned (.tuple #[.string ⟨#[105, 110, 102]⟩, .bool true]) ∧ w' = w := by
  have h1 : FloatKind.f64.format.order 9218868437227405312 9218868437227405312 = some .eq := by decide
  have h3 : FloatKind.f64.format.order 9218868437227405312 9218868437227405311 = some .gt := by decide
  go_enter Tryd.func17, Tryd.ntmps17
  go_wp2
  go_ret2
  exact ⟨rfl, rfl⟩
theorem odd_num (x : Nat) (z : Bool) (h1 : FloatKind.f64.format.order x x = some .eq) (hm : FloatKind.f64.format.order x 9218868437227405311 = some .lt ∨ FloatKind.f64.format.order x 9218868437227405311 = some .eq)
    (h0 : z = true ∧ FloatKind.f64.format.order x 0 = some .eq ∨ z = false ∧ FloatKind.f64.format.order x 0 = some .gt) (w : World) :
    Calls Tryd.prog 17 #[.float .f64 x] w fun e w' => e = .returned (.tuple #[.string ⟨#[48]⟩, .bool z]) ∧ w' = w := by
  rcases hm with hm | hm <;> rcases h0 with ⟨rfl, h0⟩ | ⟨rfl, h0⟩
  all_goals
    go_enter Tryd.func17, Tryd.ntmps17
    go_wp2
    go_ret2
    exact ⟨rfl, rfl⟩
end Go.Proofs.YtabffkfoafcmpabDoor
