import Derived.Test.YtabffkfoafcmpabNec
namespace Go.Proofs.Ytabffkfoafcmpab
open Go.ChangeShapes Go.WideShapes Go.ChangeAt Go.RowKit
set_option linter.unusedVariables false
theorem spec_near_any (m : Nat) (e : Int) (hm : m < 18446744073709551616) (w : World) :
    Calls Try.prog 25 #[.int .u64 m, .int .i64 e, .bool false] w fun e' w' => e' = .returned (.float .f64 (nearV m e)) ∧ w' = w := by
  by_cases hm0 : m = 0
  · subst hm0
    have e1 : nearV 0 e = 0 := rfl
    rw [e1]
    show Calls Try.prog 25 #[.int .u64 0, .int .i64 e, .bool false] w _
    go_enter Try.func25, Try.ntmps25
    go_wp2
    go_ret
    exact ⟨rfl, rfl⟩
  · have e1 : nearV m e = Flt.nearW m e := by unfold nearV; rw [if_neg hm0]
    rw [e1]
    by_cases h1 : e < -2000
    · rw [Flt.near_zero m e hm (by omega)]
      have hz : ((m : Int) == 0) = false := by simp; omega
      clear hm
      go_enter Try.func25, Try.ntmps25
      go_wp2
      go_ret
      exact ⟨rfl, rfl⟩
    · by_cases h2 : 2000 < e
      · rw [Flt.near_big m e hm0 (by unfold Flt.lastP; omega)]
        have hz : ((m : Int) == 0) = false := by simp; omega
        clear hm
        go_enter Try.func25, Try.ntmps25
        go_wp2_with (go_at_call 21; refine (inf_run _).mono ?_; rintro e w' ⟨rfl, rfl⟩)
        go_ret
        exact ⟨rfl, rfl⟩
      · exact spec_near_num m e hm0 hm (by omega) (by omega) w
theorem spec_near (s : Bool) (n e : Int) (w : World) :
    Calls Try.prog 14 #[.bool s, .int .i64 n, .int .i64 e] w fun e' w' => e' = .returned (.float .f64 (Ieee.double.word s (nearV (IntKind.u64.wrap n).toNat e))) ∧ w' = w := by
  have hm := wrap_toNat_lt n
  have hu : IntKind.u64.wrap n = ((IntKind.u64.wrap n).toNat : Int) := by
    have h0 : 0 ≤ IntKind.u64.wrap n ∧ IntKind.u64.wrap n < 18446744073709551616 := by rw [IntKind.wrap_u64]; omega
    omega
  generalize (IntKind.u64.wrap n).toNat = m at *
  go_enter Try.func14, Try.ntmps14
  go_wp2_with fail
  refine (spec_near_any m e hm _).mono ?_
  rintro e w1 ⟨rfl, rfl⟩
  go_wp2_with fail
  refine (signed_run s _ (Nat.lt_of_le_of_lt (nearV_le _ _) (by omega)) _).mono ?_
  rintro e w2 ⟨rfl, rfl⟩
  go_wp2_with fail
  go_ret
  exact ⟨rfl, rfl⟩
end Go.Proofs.Ytabffkfoafcmpab
