import Derived.Test.YtabffkfoafcmpabRaw
namespace Go.Proofs.Ytabffkfoafcmpab
open Go.ChangeShapes Go.WideShapes Go.ChangeAt Go.RowKit
set_option linter.unusedVariables false
theorem lt_of_wf {x : Nat} (h : (Lit.float .f64 x).wf = true) : x < 18446744073709551616 := by
  simpa [Lit.wf] using h
theorem Grown.trans {a b c : World} (h : Grown a b) (g : Grown b c) : Grown a c :=
  ⟨World.keptBut_trans h.1 g.1, fun x => (g.2.1 x).trans (h.2.1 x), Nat.le_trans h.2.2 g.2.2⟩
theorem raw_any (x : Nat) (hx : x < 18446744073709551616) (hn : FloatKind.f64.format.order x x = some .eq) :
    ∃ s r, r ≤ 9218868437227405312 ∧ x = Ieee.double.word s r ∧ ∀ w, Calls Try.prog 16 #[.float .f64 x] w fun e w' => e = .returned (.tuple #[.bool s, .int .u64 ((r : Nat) : Int)]) ∧ w' = w := by
  rcases Flt.read_cases x hx with ⟨s, t, hr⟩ | ⟨s, hr, hw⟩ | ⟨s, m, k, hc, hr, hw⟩
  · exfalso
    have := Flt.order_nan ⟨s, t, hr⟩
    rw [Flt.f64_double] at hn
    rw [hn] at this
    cases this
  · subst hw
    cases s
    · exact ⟨false, 9218868437227405312, Nat.le_refl _, rfl, raw_inf⟩
    · exact ⟨true, 9218868437227405312, Nat.le_refl _, rfl, raw_neginf⟩
  · by_cases hm : m = 0
    · subst hm
      have hk : k = 0 := by have := hc.low; omega
      subst hk
      subst hw
      cases s
      · exact ⟨false, 0, by omega, rfl, raw_zero⟩
      · exact ⟨true, 0, by omega, rfl, raw_negzero⟩
    · subst hw
      exact ⟨s, _, by have := hc.rung; omega, rfl, fun w => raw_num s m k hc hm w⟩
theorem bits_ext (x : Nat) (w : World) : (callFunc 18 #[.float .f64 x]).run Try.prog w = .ok (.value (.int .u64 x)) w := by
  rw [run_callFunc_extern (e := Extern.MathFloatBits.float64bits) Try.func18 (by kernel_rfl) (by kernel_rfl) (by kernel_rfl) (by kernel_rfl)]
  rfl
theorem spec_bits (x : Nat) (hx : x < 18446744073709551616) (hn : FloatKind.f64.format.order x x = some .eq) (w : World) :
    Calls Try.prog 7 #[.float .f64 x] w fun e w' => e = .returned (.int .i64 (wrap64 x)) ∧ w' = w := by
  obtain ⟨s, r, hr, hw, hc⟩ := raw_any x hx hn
  have HC := hc
  clear hc
  cases s
  · have e : x = r := hw
    subst e
    clear hw
    have HW : Hid (wrap64 (x : Int) = x) := by show wrap64 (x : Int) = x; unfold wrap64; omega
    go_enter Try.func7, Try.ntmps7
    go_wp2_with (go_at_call 16; refine (HC _).mono ?_; rintro e w' ⟨rfl, rfl⟩)
    go_ret
    refine ⟨?_, rfl⟩
    rw [show wrap64 (x : Int) = x from HW]
    rfl
  · have e : ((9223372036854775808 + r : Nat) : Int) = x := by
      have : x = 9223372036854775808 + r := hw
      rw [this]
    have ho := or63 r (by omega)
    rw [e] at ho
    clear hw e
    go_enter Try.func7, Try.ntmps7
    go_wp2_with (go_at_call 16; refine (HC _).mono ?_; rintro e w' ⟨rfl, rfl⟩)
    go_ret
    exact ⟨rfl, rfl⟩
theorem spec_bits_nan (x : Nat) (hn : FloatKind.f64.format.order x x = none) (w : World) :
    Calls Try.prog 7 #[.float .f64 x] w fun e w' => e = .returned (.int .i64 9221120237041090560) ∧ w' = w := by
  go_enter Try.func7, Try.ntmps7
  go_wp2_with (go_at_call 16; refine (raw_nan x _ hn).mono ?_; rintro e w' ⟨rfl, rfl⟩)
  go_ret
  exact ⟨rfl, rfl⟩
theorem impl_bits (x : Nat) (hn : FloatKind.f64.format.order x x = some .eq) (w : World) :
    Calls Try.prog 8 #[.float .f64 x] w fun e w' => e = .returned (.int .i64 (wrap64 x)) ∧ w' = w := by
  have hb := bits_ext x
  go_enter Try.func8, Try.ntmps8
  go_wp2
  go_ret
  exact ⟨rfl, rfl⟩
theorem impl_bits_nan (x : Nat) (hn : FloatKind.f64.format.order x x = none) (w : World) :
    Calls Try.prog 8 #[.float .f64 x] w fun e w' => e = .returned (.int .i64 9221120237041090560) ∧ w' = w := by
  go_enter Try.func8, Try.ntmps8
  go_wp2
  go_ret
  exact ⟨rfl, rfl⟩
end Go.Proofs.Ytabffkfoafcmpab
