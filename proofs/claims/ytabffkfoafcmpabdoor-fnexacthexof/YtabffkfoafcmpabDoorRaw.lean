import Derived.Test.YtabffkfoafcmpabDoorRows
import Derived.WalkKit
import Derived.ProofKit
import Derived.OpenShut
import Derived.Handy
import Derived.Laws.Externs
import Derived.Laws.FloatArith
import Derived.Laws.BitsAllLaws
import Derived.Test.YtabffkfoafcmpabDoorFra
namespace Go.Proofs.YtabffkfoafcmpabDoor
open Go.ChangeShapes Go.WideShapes Go.ChangeAt Go.RowKit
set_option linter.unusedVariables false
theorem or52 (a t : Nat) (ha : a < 4096) (ht : t < 4503599627370496) : bits .or .u64 ((a * 4503599627370496 : Nat) : Int) (t : Int) = ((a * 4503599627370496 + t : Nat) : Int) := by
  rw [Go.u64_or_nat _ _ (by omega) (by omega)]
  have h := Nat.two_pow_add_eq_or_of_lt (i := 52) (b := t) (by omega) a
  have e : 2 ^ 52 * a = a * 4503599627370496 := by rw [Nat.mul_comm]
  rw [e] at h
  rw [← h]
theorem or63 (r : Nat) (hr : r < 9223372036854775808) : bits .or .u64 (r : Int) 9223372036854775808 = ((9223372036854775808 + r : Nat) : Int) := by
  have h := Nat.two_pow_add_eq_or_of_lt (i := 63) (b := r) (by omega) 1
  have e := Go.u64_or_nat r 9223372036854775808 (by omega) (by omega)
  have e2 : ((9223372036854775808 : Nat) : Int) = 9223372036854775808 := rfl
  rw [e2] at e
  rw [e, Nat.or_comm]
  have e3 : (2 ^ 63 * 1 : Nat) = 9223372036854775808 := by decide
  rw [e3] at h
  rw [← h]
theorem mul_run {x y r : Nat} (h : floatBits .mul .f64 x y = some r) (w : World) : (binOp .mul 22 (.float .f64 x) (.float .f64 y)).run Tryd.prog w = .ok (.float .f64 r) w :=
  run_float_arith w .mul 22 .f64 _ _ _ h
theorem sub_run {x y r : Nat} (h : floatBits .sub .f64 x y = some r) (w : World) : (binOp .sub 22 (.float .f64 x) (.float .f64 y)).run Tryd.prog w = .ok (.float .f64 r) w :=
  run_float_arith w .sub 22 .f64 _ _ _ h
theorem neg_run (x : Nat) (w : World) : (Op.unary .neg (.float .f64 x)).run Tryd.prog w = .ok (.float .f64 (Op.negFloat .f64 x)) w := by
  simp [Op.unary]
theorem conv_run {x : Nat} {z : Int} (h : floatToIntVal .f64 x .u64 = some z) (w : World) : (convert 22 29 (.float .f64 x)).run Tryd.prog w = .ok (.int .u64 z) w :=
  run_convert_float_int w 22 29 .f64 .u64 x z (by kernel_rfl) Tryd.underlying29 h
set_option maxRecDepth 100000 in
set_option maxHeartbeats 1000000 in
theorem raw_num (s : Bool) (m k : Nat) (hc : Flt.Canon m k) (hm : m ≠ 0) (w : World) :
    Calls Tryd.prog 10 #[.float .f64 (Ieee.double.word s (k * 4503599627370496 + m))] w fun e w' => e = .returned (.tuple #[.bool s, .int .u64 ((k * 4503599627370496 + m : Nat) : Int)]) ∧ w' = w := by
  have h0 := Flt.ord_zero false hc hm
  have h1 := Flt.ord_self false hc
  rw [← Flt.F_word hc] at h0 h1
  have hmax := Flt.ord_max hc
  simp only [Bool.false_eq_true, if_false] at h0
  have c1 := hc.lt
  have c2 := hc.low
  have c3 := hc.le
  have hx : ∃ x, x = Ieee.double.word s (k * 4503599627370496 + m) ∧ FloatKind.f64.format.order x x = some .eq ∧ (s = true → FloatKind.f64.format.order x 0 = some .lt ∧ ∀ w, (Op.unary .neg (.float .f64 x)).run Tryd.prog w = .ok (.float .f64 (Flt.F m k)) w) ∧ (s = false → x = Flt.F m k) := by
    refine ⟨_, rfl, Flt.ord_self s hc, ?_, ?_⟩
    · intro hs
      subst hs
      refine ⟨Flt.ord_zero true hc hm, fun w => ?_⟩
      rw [neg_run, Flt.neg_word true _ (by have := hc.rung; omega), Flt.F_word hc]
      rfl
    · intro hs
      subst hs
      exact (Flt.F_word hc).symm
  obtain ⟨x, hx1, hx2, hx3, hx4⟩ := hx
  rw [← hx1]
  clear hx1
  cases s
  · rw [hx4 rfl]
    clear hx2 hx3 hx4
    rcases hmax with hmax | hmax
    all_goals
      go_enter Tryd.func10, Tryd.ntmps10
      go_wp2
      go_loop [0, 5] (fun f e => ∃ q : Nat, q ≤ k ∧ (q = k ∨ 1022 ≤ q) ∧ f = .float .f64 (Flt.F m q) ∧ e = .int .i64 (1023 + ((k - q : Nat) : Int))) (fun _ e => (2046 - intOf e).toNat)
      case atStart => exact ⟨k, Nat.le_refl _, Or.inl rfl, rfl, by go_num⟩
      case round =>
        obtain ⟨q, hq1, hq2, rfl, rfl⟩ := hrel
        by_cases hq : 1023 ≤ q
        · obtain ⟨p, rfl⟩ : ∃ p, q = p + 1 := ⟨q - 1, by omega⟩
          have ho := Flt.ord_two_ge c1 (by omega) hq (by omega)
          have hmul := mul_run (Flt.F_half (q := p) c1 (by omega))
          rcases ho with ho | ho
          all_goals
            go_wp2
            go_round
            case rel => exact ⟨p, by omega, by omega, rfl, by go_num⟩
            case measure => simp [intOf]; omega
        · have ho := Flt.ord_two_lt (q := q) c1 (by omega)
          go_wp2
          go_loop [0, 5] (fun f e => ∃ q : Nat, q ≤ 1022 ∧ (q = 1022 ∨ k ≤ q) ∧ f = .float .f64 (Flt.F m q) ∧ e = .int .i64 (1023 + (k : Int) - (q : Int))) (fun _ e => (intOf e).toNat)
          case atStart => exact ⟨q, by omega, by omega, rfl, by go_num⟩
          case round =>
            clear ho
            obtain ⟨p, hp1, hp2, rfl, rfl⟩ := hrel
            by_cases hp : p < 1022
            · have ho := Flt.ord_one_lt (q := p) c1 (by omega)
              have hmul := mul_run (Flt.F_two (q := p) c1 (by omega))
              go_wp2
              go_round
              case rel => exact ⟨p + 1, by omega, by omega, rfl, by go_num⟩
              case measure => simp [intOf]; omega
            · obtain rfl : p = 1022 := by omega
              by_cases hn : 4503599627370496 ≤ m
              · have ho := Flt.ord_one_norm c1 hn
                obtain ⟨t, HT⟩ : ∃ t, Hid (t + 4503599627370496 = m) := ⟨m - 4503599627370496, (by omega : m - 4503599627370496 + 4503599627370496 = m)⟩
                have ht : t < 4503599627370496 := by have := (show t + 4503599627370496 = m from HT); omega
                have hs : ∀ w, (binOp .sub 22 (.float .f64 (Flt.F m 1022)) (.float .f64 4607182418800017408)).run Tryd.prog w = .ok (.float .f64 (Flt.F t 1022)) w := by
                  have := sub_run (Flt.F_less_one c1 hn)
                  have e : m - 4503599627370496 = t := by have := (show t + 4503599627370496 = m from HT); omega
                  rw [e] at this
                  exact this
                have hmul : ∀ w, (binOp .mul 22 (.float .f64 (Flt.F t 1022)) (.float .f64 4841369599423283200)).run Tryd.prog w = .ok (.float .f64 (Flt.F t 1074)) w :=
                  mul_run (Flt.F_p52 (m := t) (q := 1022) (by omega) (by omega))
                have hcv : ∀ w, (convert 22 29 (.float .f64 (Flt.F t 1074))).run Tryd.prog w = .ok (.int .u64 t) w := conv_run (Flt.F_conv (t := t) (by omega))
                have HF : Hid (bits .or .u64 ((1023 + (k : Int) - 1022) * 4503599627370496) (t : Int) = ((k * 4503599627370496 + m : Nat) : Int)) := by
                  have e := or52 (k + 1) t (by omega) ht
                  have e1 : ((1023 + (k : Int) - 1022) * 4503599627370496) = (((k + 1) * 4503599627370496 : Nat) : Int) := by omega
                  show bits .or .u64 ((1023 + (k : Int) - 1022) * 4503599627370496) (t : Int) = _
                  rw [e1, e]
                  have := (show t + 4503599627370496 = m from HT)
                  omega
                rcases ho with ho | ho
                all_goals
                  go_wp2
                  go_ret2
                  refine ⟨?_, rfl⟩
                  rw [show bits .or .u64 ((1023 + (k : Int) - 1022) * 4503599627370496) (t : Int) = _ from HF]
                  rfl
              · have ho := Flt.ord_one_sub (m := m) (by omega)
                have hk : k = 0 := by omega
                subst hk
                have hmul : ∀ w, (binOp .mul 22 (.float .f64 (Flt.F m 1022)) (.float .f64 4841369599423283200)).run Tryd.prog w = .ok (.float .f64 (Flt.F m 1074)) w :=
                  mul_run (Flt.F_p52 (m := m) (q := 1022) (by omega) (by omega))
                have hcv : ∀ w, (convert 22 29 (.float .f64 (Flt.F m 1074))).run Tryd.prog w = .ok (.int .u64 m) w := conv_run (Flt.F_conv (t := m) (by omega))
                go_wp2
                go_ret2
                exact ⟨by simp, rfl⟩
  · obtain ⟨hx5, hx6⟩ := hx3 rfl
    clear hx3 hx4
    rcases hmax with hmax | hmax
    all_goals
      go_enter Tryd.func10, Tryd.ntmps10
      go_wp2
      go_loop [0, 5] (fun f e => ∃ q : Nat, q ≤ k ∧ (q = k ∨ 1022 ≤ q) ∧ f = .float .f64 (Flt.F m q) ∧ e = .int .i64 (1023 + ((k - q : Nat) : Int))) (fun _ e => (2046 - intOf e).toNat)
      case atStart => exact ⟨k, Nat.le_refl _, Or.inl rfl, rfl, by go_num⟩
      case round =>
        obtain ⟨q, hq1, hq2, rfl, rfl⟩ := hrel
        by_cases hq : 1023 ≤ q
        · obtain ⟨p, rfl⟩ : ∃ p, q = p + 1 := ⟨q - 1, by omega⟩
          have ho := Flt.ord_two_ge c1 (by omega) hq (by omega)
          have hmul := mul_run (Flt.F_half (q := p) c1 (by omega))
          rcases ho with ho | ho
          all_goals
            go_wp2
            go_round
            case rel => exact ⟨p, by omega, by omega, rfl, by go_num⟩
            case measure => simp [intOf]; omega
        · have ho := Flt.ord_two_lt (q := q) c1 (by omega)
          go_wp2
          go_loop [0, 5] (fun f e => ∃ q : Nat, q ≤ 1022 ∧ (q = 1022 ∨ k ≤ q) ∧ f = .float .f64 (Flt.F m q) ∧ e = .int .i64 (1023 + (k : Int) - (q : Int))) (fun _ e => (intOf e).toNat)
          case atStart => exact ⟨q, by omega, by omega, rfl, by go_num⟩
          case round =>
            clear ho
            obtain ⟨p, hp1, hp2, rfl, rfl⟩ := hrel
            by_cases hp : p < 1022
            · have ho := Flt.ord_one_lt (q := p) c1 (by omega)
              have hmul := mul_run (Flt.F_two (q := p) c1 (by omega))
              go_wp2
              go_round
              case rel => exact ⟨p + 1, by omega, by omega, rfl, by go_num⟩
              case measure => simp [intOf]; omega
            · obtain rfl : p = 1022 := by omega
              by_cases hn : 4503599627370496 ≤ m
              · have ho := Flt.ord_one_norm c1 hn
                obtain ⟨t, HT⟩ : ∃ t, Hid (t + 4503599627370496 = m) := ⟨m - 4503599627370496, (by omega : m - 4503599627370496 + 4503599627370496 = m)⟩
                have ht : t < 4503599627370496 := by have := (show t + 4503599627370496 = m from HT); omega
                have hs : ∀ w, (binOp .sub 22 (.float .f64 (Flt.F m 1022)) (.float .f64 4607182418800017408)).run Tryd.prog w = .ok (.float .f64 (Flt.F t 1022)) w := by
                  have := sub_run (Flt.F_less_one c1 hn)
                  have e : m - 4503599627370496 = t := by have := (show t + 4503599627370496 = m from HT); omega
                  rw [e] at this
                  exact this
                have hmul : ∀ w, (binOp .mul 22 (.float .f64 (Flt.F t 1022)) (.float .f64 4841369599423283200)).run Tryd.prog w = .ok (.float .f64 (Flt.F t 1074)) w :=
                  mul_run (Flt.F_p52 (m := t) (q := 1022) (by omega) (by omega))
                have hcv : ∀ w, (convert 22 29 (.float .f64 (Flt.F t 1074))).run Tryd.prog w = .ok (.int .u64 t) w := conv_run (Flt.F_conv (t := t) (by omega))
                have HF : Hid (bits .or .u64 ((1023 + (k : Int) - 1022) * 4503599627370496) (t : Int) = ((k * 4503599627370496 + m : Nat) : Int)) := by
                  have e := or52 (k + 1) t (by omega) ht
                  have e1 : ((1023 + (k : Int) - 1022) * 4503599627370496) = (((k + 1) * 4503599627370496 : Nat) : Int) := by omega
                  show bits .or .u64 ((1023 + (k : Int) - 1022) * 4503599627370496) (t : Int) = _
                  rw [e1, e]
                  have := (show t + 4503599627370496 = m from HT)
                  omega
                rcases ho with ho | ho
                all_goals
                  go_wp2
                  go_ret2
                  refine ⟨?_, rfl⟩
                  rw [show bits .or .u64 ((1023 + (k : Int) - 1022) * 4503599627370496) (t : Int) = _ from HF]
                  rfl
              · have ho := Flt.ord_one_sub (m := m) (by omega)
                have hk : k = 0 := by omega
                subst hk
                have hmul : ∀ w, (binOp .mul 22 (.float .f64 (Flt.F m 1022)) (.float .f64 4841369599423283200)).run Tryd.prog w = .ok (.float .f64 (Flt.F m 1074)) w :=
                  mul_run (Flt.F_p52 (m := m) (q := 1022) (by omega) (by omega))
                have hcv : ∀ w, (convert 22 29 (.float .f64 (Flt.F m 1074))).run Tryd.prog w = .ok (.int .u64 m) w := conv_run (Flt.F_conv (t := m) (by omega))
                go_wp2
                go_ret2
                exact ⟨by simp, rfl⟩
theorem quo_run {x r : Nat} (h : floatBits .quo .f64 4607182418800017408 x = some r) (w : World) : (binOp .quo 22 (.float .f64 4607182418800017408) (.float .f64 x)).run Tryd.prog w = .ok (.float .f64 r) w :=
  run_float_arith w .quo 22 .f64 _ _ _ h
theorem raw_zero (w : World) : Calls Tryd.prog 10 #[.float .f64 0] w fun e w' => e = .returned (.tuple #[.bool false, .int .u64 0]) ∧ w' = w := by
  have h1 : FloatKind.f64.format.order 0 0 = some .eq := by decide
  have hq := quo_run (x := 0) (r := 9218868437227405312) (by decide)
  have hg : FloatKind.f64.format.order 9218868437227405312 0 = some .gt := by decide
  go_enter Tryd.func10, Tryd.ntmps10
  go_wp2
  go_ret2
  exact ⟨rfl, rfl⟩
theorem raw_negzero (w : World) : Calls Tryd.prog 10 #[.float .f64 9223372036854775808] w fun e w' => e = .returned (.tuple #[.bool true, .int .u64 0]) ∧ w' = w := by
  have h1 : FloatKind.f64.format.order 9223372036854775808 9223372036854775808 = some .eq := by decide
  have h2 : FloatKind.f64.format.order 9223372036854775808 0 = some .eq := by decide
  have h3 : FloatKind.f64.format.order 0 0 = some .eq := by decide
  have hq := quo_run (x := 9223372036854775808) (r := 18442240474082181120) (by decide)
  have hg : FloatKind.f64.format.order 18442240474082181120 0 = some .lt := by decide
  have hn : ∀ w, (Op.unary .neg (.float .f64 9223372036854775808)).run Tryd.prog w = .ok (.float .f64 0) w := neg_run _
  go_enter Tryd.func10, Tryd.ntmps10
  go_wp2
  go_ret2
  exact ⟨rfl, rfl⟩
theorem raw_inf (w : World) : Calls Tryd.prog 10 #[.float .f64 9218868437227405312] w fun e w' => e = .returned (.tuple #[.bool false, .int .u64 9218868437227405312]) ∧ w' = w := by
  have h1 : FloatKind.f64.format.order 9218868437227405312 9218868437227405312 = some .eq := by decide
  have h2 : FloatKind.f64.format.order 9218868437227405312 0 = some .gt := by decide
  have h3 : FloatKind.f64.format.order 9218868437227405312 9218868437227405311 = some .gt := by decide
  go_enter Tryd.func10, Tryd.ntmps10
  go_wp2
  go_ret2
  exact ⟨rfl, rfl⟩
theorem raw_neginf (w : World) : Calls Tryd.prog 10 #[.float .f64 18442240474082181120] w fun e w' => e = .returned (.tuple #[.bool true, .int .u64 9218868437227405312]) ∧ w' = w := by
  have h1 : FloatKind.f64.format.order 18442240474082181120 18442240474082181120 = some .eq := by decide
  have h2 : FloatKind.f64.format.order 18442240474082181120 0 = some .lt := by decide
  have h4 : FloatKind.f64.format.order 9218868437227405312 0 = some .gt := by decide
  have h3 : FloatKind.f64.format.order 9218868437227405312 9218868437227405311 = some .gt := by decide
  have hn : ∀ w, (Op.unary .neg (.float .f64 18442240474082181120)).run Tryd.prog w = .ok (.float .f64 9218868437227405312) w := neg_run _
  go_enter Tryd.func10, Tryd.ntmps10
  go_wp2
  go_ret2
  exact ⟨rfl, rfl⟩
theorem raw_nan (x : Nat) (w : World) (h : FloatKind.f64.format.order x x = none) : Calls Tryd.prog 10 #[.float .f64 x] w fun e w' => e = .returned (.tuple #[.bool false, .int .u64 9221120237041090560]) ∧ w' = w := by
  go_enter Tryd.func10, Tryd.ntmps10
  go_wp2
  go_ret2
  exact ⟨rfl, rfl⟩
end Go.Proofs.YtabffkfoafcmpabDoor
