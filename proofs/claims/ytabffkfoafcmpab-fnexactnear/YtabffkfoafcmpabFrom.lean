import Derived.Test.YtabffkfoafcmpabBits
namespace Go.Proofs.Ytabffkfoafcmpab
open Go.ChangeShapes Go.WideShapes Go.ChangeAt Go.RowKit
set_option linter.unusedVariables false
theorem of_int (m : Nat) : floatOfInt .f64 (m : Int) = Flt.F m 1074 := by
  show Ieee.double.nearest (decide ((m : Int) < 0)) (m : Int).natAbs 0 = Ieee.double.nearest false m (((1074 : Nat) : Int) - 1074)
  have : decide ((m : Int) < 0) = false := by simp
  rw [this]
  rfl
set_option maxRecDepth 100000 in
set_option maxHeartbeats 1000000 in
theorem scaled (m : Nat) (e0 : Int) (hm : m < 9007199254740992) (h0 : -1074 ≤ e0) (h1 : e0 ≤ 971) (w : World) :
    Calls Try.prog 22 #[.int .u64 m, .int .i64 e0] w fun e w' => e = .returned (.float .f64 (Flt.F m (e0 + 1074).toNat)) ∧ w' = w := by
  have hi := of_int m
  go_enter Try.func22, Try.ntmps22
  go_wp2
  go_loop [1, 5] (fun e f => ∃ q : Nat, 1074 ≤ q ∧ (q = 1074 ∨ (q : Int) ≤ e0 + 1074) ∧ f = .float .f64 (Flt.F m q) ∧ e = .int .i64 (e0 + 1074 - (q : Int))) (fun e _ => (intOf e).toNat)
  case atStart => exact ⟨1074, by omega, by omega, rfl, by go_num⟩
  case round =>
    clear hi
    obtain ⟨q, hq1, hq2, rfl, rfl⟩ := hrel
    by_cases hq : (q : Int) < e0 + 1074
    · have hmul := mul_run (Flt.F_two (q := q) hm (by omega))
      go_wp2
      go_round
      case rel => exact ⟨q + 1, by omega, by omega, rfl, by go_num⟩
      case measure => simp [intOf]; omega
    · go_wp2
      go_loop [1, 5] (fun e f => ∃ q : Nat, q ≤ 2045 ∧ e0 + 1074 ≤ (q : Int) ∧ f = .float .f64 (Flt.F m q) ∧ e = .int .i64 (e0 + 1074 - (q : Int))) (fun e _ => (-(intOf e)).toNat)
      case atStart => exact ⟨q, by omega, by omega, rfl, rfl⟩
      case round =>
        obtain ⟨p, hp1, hp2, rfl, rfl⟩ := hrel
        by_cases hp : e0 + 1074 < (p : Int)
        · obtain ⟨r, rfl⟩ : ∃ r, p = r + 1 := ⟨p - 1, by omega⟩
          have hmul := mul_run (Flt.F_half (q := r) hm (by omega))
          go_wp2
          go_round
          case rel => exact ⟨r, by omega, by omega, rfl, by go_num⟩
          case measure => simp [intOf]; omega
        · have e : (e0 + 1074).toNat = p := by omega
          have HE : Hid ((e0 + 1074).toNat = p) := e
          clear e
          go_wp2
          go_ret
          refine ⟨?_, rfl⟩
          rw [show (e0 + 1074).toNat = p from HE]
          rfl
theorem inf_run (w : World) : Calls Try.prog 21 #[] w fun e w' => e = .returned (.float .f64 9218868437227405312) ∧ w' = w := by
  have hq := quo_run (x := 0) (r := 9218868437227405312) (by decide)
  go_enter Try.func21, Try.ntmps21
  go_wp2
  go_ret
  exact ⟨rfl, rfl⟩
theorem nan_draw (w : World) : ∃ y, (binOp .quo 22 (.float .f64 0) (.float .f64 0)).run Try.prog w = .ok (.float .f64 y) w.drew ∧ FloatKind.f64.format.order y y = none := by
  have hd : FloatKind.f64.format.div 0 0 = none := by decide
  have e : ∃ t : Nat, (binOp .quo 22 (.float .f64 0) (.float .f64 0)).run Try.prog w = .ok (.float .f64 ((t % 2) * 2 ^ 63 + 0x7ff0000000000000 + 1 + (t / 2) % (2 ^ 52 - 1))) w.drew := by
    refine ⟨w.tape w.drawn (.nanBits .f64 0 0), ?_⟩
    simp [binOp, Op.floatArith, hd, Question.forced, Question.cut]
  obtain ⟨t, ht⟩ := e
  refine ⟨_, ht, ?_⟩
  rw [Flt.f64_double]
  refine Flt.order_nan ?_
  have h1 : (t / 2) % (2 ^ 52 - 1) < 2 ^ 52 - 1 := Nat.mod_lt _ (by decide)
  have h2 : t % 2 < 2 := Nat.mod_lt _ (by decide)
  generalize (t / 2) % (2 ^ 52 - 1) = b at *
  generalize t % 2 = a at *
  have e : a * 2 ^ 63 + 0x7ff0000000000000 + 1 + b = Ieee.double.word (a == 1) (9218868437227405312 + (1 + b)) := by
    unfold Ieee.Format.word
    rw [Flt.c_sw]
    have : a = 0 ∨ a = 1 := by omega
    rcases this with rfl | rfl
    · simp; omega
    · simp; omega
  rw [e]
  exact Flt.nan_word _ _ (by omega) (by omega)
theorem nan_run (w : World) : Calls Try.prog 19 #[] w fun e w' => ∃ y, e = .returned (.float .f64 y) ∧ FloatKind.f64.format.order y y = none ∧ Grown w w' := by
  obtain ⟨y, h1, h2⟩ := nan_draw w
  go_enter Try.func19, Try.ntmps19
  go_wp2
  go_ret
  exact ⟨_, rfl, h2, by go_grown⟩
theorem signed_run (s : Bool) (r : Nat) (hr : r < 9223372036854775808) (w : World) :
    Calls Try.prog 20 #[.bool s, .float .f64 r] w fun e w' => e = .returned (.float .f64 (Ieee.double.word s r)) ∧ w' = w := by
  have hn : ∀ w, (Op.unary .neg (.float .f64 r)).run Try.prog w = .ok (.float .f64 (Ieee.double.word true r)) w := fun w => by
    rw [neg_run]
    have := Flt.neg_word false r hr
    have e : Ieee.double.word false r = r := rfl
    rw [e] at this
    rw [this]
    rfl
  cases s
  · go_enter Try.func20, Try.ntmps20
    go_wp2
    go_ret
    exact ⟨rfl, rfl⟩
  · go_enter Try.func20, Try.ntmps20
    go_wp2
    go_ret
    exact ⟨rfl, rfl⟩
theorem from_ext (n : Int) (w : World) : (callFunc 23 #[.int .u64 n]).run Try.prog w = .ok (.value (.float .f64 n.toNat)) w := by
  rw [run_callFunc_extern (e := Extern.MathFloatBits.float64frombits) Try.func23 (by kernel_rfl) (by kernel_rfl) (by kernel_rfl) (by kernel_rfl)]
  rfl
/-- the 64 bits of n, taken apart -/
theorem parts (n : Int) : ∃ (s : Bool) (E M : Nat), E ≤ 2047 ∧ M < 4503599627370496 ∧ (IntKind.u64.wrap n).toNat = Ieee.double.word s (E * 4503599627370496 + M) ∧
    (IntKind.u64.wrap n / 9223372036854775808 == 1) = s ∧ bits .and .u64 (IntKind.u64.wrap n / 4503599627370496) 2047 = (E : Int) ∧ bits .and .u64 (IntKind.u64.wrap n) 4503599627370495 = (M : Int) := by
  have h0 : 0 ≤ IntKind.u64.wrap n ∧ IntKind.u64.wrap n < 18446744073709551616 := by rw [IntKind.wrap_u64]; omega
  generalize IntKind.u64.wrap n = u at h0
  obtain ⟨x, rfl⟩ := Int.eq_ofNat_of_zero_le h0.1
  have hx : x < 18446744073709551616 := by omega
  refine ⟨(x / 9223372036854775808 == 1), x / 4503599627370496 % 2048, x % 4503599627370496, by omega, by omega, ?_, ?_, ?_, ?_⟩
  · rw [Int.toNat_natCast]
    unfold Ieee.Format.word
    rw [Flt.c_sw]
    by_cases h : 9223372036854775808 ≤ x
    · have : x / 9223372036854775808 = 1 := by omega
      simp [this]; omega
    · have : x / 9223372036854775808 = 0 := by omega
      simp [this]; omega
  · rw [Bool.eq_iff_iff]; simp; omega
  · have e : ((x : Int) / 4503599627370496) = ((x / 4503599627370496 : Nat) : Int) := by omega
    have e2 : (2047 : Int) = ((2047 : Nat) : Int) := rfl
    rw [e, e2, Go.u64_and_nat _ _ (by omega) (by omega)]
    have := Nat.and_two_pow_sub_one_eq_mod (x / 4503599627370496) 11
    rw [show (2 ^ 11 - 1 : Nat) = 2047 from rfl] at this
    rw [this]
  · have e2 : (4503599627370495 : Int) = ((4503599627370495 : Nat) : Int) := rfl
    rw [e2, Go.u64_and_nat _ _ (by omega) (by omega)]
    have := Nat.and_two_pow_sub_one_eq_mod x 52
    rw [show (2 ^ 52 - 1 : Nat) = 4503599627370495 from rfl] at this
    rw [this]
end Go.Proofs.Ytabffkfoafcmpab
