import Derived.Test.YtabffkfoafcmpabDoorRaw
namespace Go.Proofs.YtabffkfoafcmpabDoor
open Go.ChangeShapes Go.WideShapes Go.ChangeAt Go.RowKit
set_option linter.unusedVariables false
theorem lt_of_wf {x : Nat} (h : (Lit.float .f64 x).wf = true) : x < 18446744073709551616 := by
  simpa [Lit.wf] using h
theorem Grown.trans {a b c : World} (h : Grown a b) (g : Grown b c) : Grown a c :=
  ⟨World.keptBut_trans h.1 g.1, fun x => (g.2.1 x).trans (h.2.1 x), Nat.le_trans h.2.2 g.2.2⟩
theorem raw_any (x : Nat) (hx : x < 18446744073709551616) (hn : FloatKind.f64.format.order x x = some .eq) :
    ∃ s r, r ≤ 9218868437227405312 ∧ x = Ieee.double.word s r ∧ ∀ w, Calls Tryd.prog 10 #[.float .f64 x] w fun e w' => e = .returned (.tuple #[.bool s, .int .u64 ((r : Nat) : Int)]) ∧ w' = w := by
  rcases Flt.read_cases x hx with ⟨s, t, hr⟩ | ⟨s, hr, hw⟩ | ⟨s, m, k, hc, hr, hw⟩
  · exfalso
    have := Flt.order_nan ⟨s, t, hr⟩
    rw [Flt.f64_double] at hn
    rw [hn] at this
    cases this
  · subst hw
    cases s
    · exact ⟨false, 9218868437227405312, Nat.le_refl _, rfl, raw_inf⟩
    · exact ⟨true, 9218868437227405312, Nat.le_refl _, rfl, raw_neginf⟩
  · by_cases hm : m = 0
    · subst hm
      have hk : k = 0 := by have := hc.low; omega
      subst hk
      subst hw
      cases s
      · exact ⟨false, 0, by omega, rfl, raw_zero⟩
      · exact ⟨true, 0, by omega, rfl, raw_negzero⟩
    · subst hw
      exact ⟨s, _, by have := hc.rung; omega, rfl, fun w => raw_num s m k hc hm w⟩
theorem bits_ext (x : Nat) (w : World) : (callFunc 23 #[.float .f64 x]).run Tryd.prog w = .ok (.value (.int .u64 x)) w := by
  rw [run_callFunc_extern (e := Extern.MathFloatBits.float64bits) Tryd.func23 (by kernel_rfl) (by kernel_rfl) (by kernel_rfl) (by kernel_rfl)]
  rfl
end Go.Proofs.YtabffkfoafcmpabDoor
