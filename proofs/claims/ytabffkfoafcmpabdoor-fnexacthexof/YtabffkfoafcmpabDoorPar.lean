import Derived.Test.YtabffkfoafcmpabDoorBits
import Derived.Test.YtabffkfoafcmpabDoorShelfT
namespace Go.Proofs.YtabffkfoafcmpabDoor
open Go.ChangeShapes Go.WideShapes Go.ChangeAt Go.RowKit
set_option linter.unusedVariables false
/-- the exponent and the fraction of a size -/
theorem size_parts {m k : Nat} (hc : Flt.Canon m k) (hm : m ≠ 0) : ∃ E M : Nat, E ≤ 2046 ∧ M < 4503599627370496 ∧ k * 4503599627370496 + m = E * 4503599627370496 + M ∧
    (E = 0 → m = M ∧ k = 0) ∧ (E ≠ 0 → m = M + 4503599627370496 ∧ (E : Int) - 1075 = (k : Int) - 1074) := by
  have h1 := hc.lt; have h2 := hc.low; have h3 := hc.le
  by_cases h : m < 4503599627370496
  · have hk : k = 0 := by omega
    exact ⟨0, m, by omega, h, by omega, fun _ => ⟨rfl, hk⟩, fun g => absurd rfl g⟩
  · exact ⟨k + 1, m - 4503599627370496, by omega, by omega, by omega, fun g => by omega, fun _ => ⟨by omega, by omega⟩⟩
theorem ctz_spec (m : Nat) (h0 : m ≠ 0) (h : m < 18446744073709551616) : ∃ t o : Nat, Lib.ctz 64 m = t ∧ m = o * 2 ^ t ∧ o % 2 = 1 ∧ t < 64 := by
  obtain ⟨x, hx, ht⟩ := Lib.ctzFrom_spec 64 m (by omega) (by omega)
  refine ⟨Lib.ctzFrom 64 m, 2 * x + 1, by unfold Lib.ctz; rw [if_neg h0], by rw [Nat.mul_comm]; exact hx, by omega, ht⟩
theorem odd_unique {a b t j : Nat} (h : a * 2 ^ t = b * 2 ^ j) (ha : a % 2 = 1) (hb : b % 2 = 1) : a = b ∧ t = j := by
  rcases Nat.lt_trichotomy t j with g | g | g
  · exfalso
    have e : b * 2 ^ j = b * 2 ^ (j - t) * 2 ^ t := by rw [Nat.mul_assoc, ← Nat.pow_add]; congr 2; omega
    rw [e] at h
    have h1 := Nat.eq_of_mul_eq_mul_right (Nat.two_pow_pos t) h
    have h2 : 2 ^ (j - t) = 2 * 2 ^ (j - t - 1) := by rw [← Nat.pow_succ']; congr 1; omega
    rw [h2] at h1
    have h3 : b * (2 * 2 ^ (j - t - 1)) = 2 * (b * 2 ^ (j - t - 1)) := by rw [Nat.mul_left_comm]
    omega
  · subst g
    exact ⟨Nat.eq_of_mul_eq_mul_right (Nat.two_pow_pos t) h, rfl⟩
  · exfalso
    have e : a * 2 ^ t = a * 2 ^ (t - j) * 2 ^ j := by rw [Nat.mul_assoc, ← Nat.pow_add]; congr 2; omega
    rw [e] at h
    have h1 := Nat.eq_of_mul_eq_mul_right (Nat.two_pow_pos j) h
    have h2 : 2 ^ (t - j) = 2 * 2 ^ (t - j - 1) := by rw [← Nat.pow_succ']; congr 1; omega
    rw [h2] at h1
    have h3 : a * (2 * 2 ^ (t - j - 1)) = 2 * (a * 2 ^ (t - j - 1)) := by rw [Nat.mul_left_comm]
    omega
theorem or52b (M : Nat) (h : M < 4503599627370496) : bits .or .u64 (M : Int) 4503599627370496 = ((M + 4503599627370496 : Nat) : Int) := by
  have e := Go.u64_or_nat M 4503599627370496 (by omega) (by omega)
  have e2 : ((4503599627370496 : Nat) : Int) = 4503599627370496 := rfl
  rw [e2] at e
  have h2 := Nat.two_pow_add_eq_or_of_lt (i := 52) (b := M) (by omega) 1
  have e3 : (2 ^ 52 * 1 : Nat) = 4503599627370496 := by decide
  rw [e3] at h2
  rw [e, Nat.or_comm, ← h2, Nat.add_comm]
theorem and52 (E M : Nat) (hE : E ≤ 4095) (hM : M < 4503599627370496) : bits .and .u64 ((E * 4503599627370496 + M : Nat) : Int) 4503599627370495 = (M : Int) := by
  have e2 : (4503599627370495 : Int) = ((4503599627370495 : Nat) : Int) := rfl
  rw [e2, Go.u64_and_nat _ _ (by omega) (by omega)]
  have := Nat.and_two_pow_sub_one_eq_mod (E * 4503599627370496 + M) 52
  rw [show (2 ^ 52 - 1 : Nat) = 4503599627370495 from rfl] at this
  rw [this]
  congr 1
  omega
set_option maxRecDepth 100000 in
set_option maxHeartbeats 2000000 in
theorem parts_sub (x : Nat) (s : Bool) (R E M m o t : Nat) (hn : FloatKind.f64.format.order x x = some .eq) (hraw : ∀ w, Calls Tryd.prog 10 #[.float .f64 x] w fun e w' => e = .returned (.tuple #[.bool s, .int .u64 (R : Int)]) ∧ w' = w)
    (hz : ((R : Int) == 0) = false) (hE : (R : Int) / 4503599627370496 = 0) (hM : bits .and .u64 (R : Int) 4503599627370495 = (M : Int)) (h2 : M < 4503599627370496) (hmM : m = M) (hm0 : 0 < m) (hm1 : m < 9007199254740992) (HO : m = o * 2 ^ t) (ho : o % 2 = 1) (w : World) :
    Calls Tryd.prog 5 #[.float .f64 x] w fun e w' => e = .returned (.agg #[.int .i64 1, .bool s, .int .i64 o, .int .i64 (-1074 + (t : Int))]) ∧ Grown w w' := by
  have HM2 : Hid (m = M) := hmM
  clear hmM
  have HO2 : Hid (m = o * 2 ^ t) := HO
  clear HO
  go_enter Tryd.func5, Tryd.ntmps5
  go_wp2_with fail
  refine (hraw _).mono ?_
  rintro e w ⟨rfl, rfl⟩
  clear hraw
  go_wp2_with fail
  go_loopw [7] (fun v wr => ∃ (q j : Nat), Hid (m = q * 2 ^ j) ∧ 0 < q ∧ q < 9007199254740992 ∧ j ≤ 60 ∧ v = .int .u64 q ∧ wr = (w.alloc (Obj.cells #[.int .i64 0, .bool false, .int .i64 0, .int .i64 0] 24)).alloc (Obj.cells #[.int .i64 1, .bool s, .int .i64 0, .int .i64 (-1074 + (j : Int))] 24)) (fun v _ => (intOf v).toNat)
  case atStart => exact ⟨m, 0, (by simp : m = m * 2 ^ 0), hm0, hm1, by omega, by rw [show m = M from HM2], by simp⟩
  case round =>
    obtain ⟨q, j, HQ, hq0, hq1, hj, rfl, rfl⟩ := hrel
    by_cases hodd : q % 2 = 1
    · have hb : ((q : Int) % 2 == 0) = false := by simp; omega
      have hqo : q = o ∧ j = t := odd_unique (by rw [← (show m = q * 2 ^ j from HQ), (show m = o * 2 ^ t from HO2)]) hodd ho
      obtain ⟨rfl, rfl⟩ := hqo
      clear HQ
      go_wp2
      go_returns
      exact ⟨rfl, by go_grown⟩
    · have hb : ((q : Int) % 2 == 0) = true := by simp; omega
      have HQ2 : Hid (m = q / 2 * 2 ^ (j + 1)) := by
        show m = _
        have e2 : q = q / 2 * 2 := by omega
        rw [(show m = q * 2 ^ j from HQ), Nat.pow_succ, Nat.mul_comm (2 ^ j), ← Nat.mul_assoc, ← e2]
      have hj2 : j + 1 ≤ 60 := by
        refine Nat.le_of_not_lt fun g => ?_
        have g1 : 2 ^ 61 ≤ 2 ^ (j + 1) := Nat.pow_le_pow_right (by omega) (by omega)
        have g2 : 1 * 2 ^ (j + 1) ≤ q / 2 * 2 ^ (j + 1) := Nat.mul_le_mul_right _ (by omega)
        have g3 := (show m = q / 2 * 2 ^ (j + 1) from HQ2)
        omega
      go_wp2
      go_roundw
      case rel => exact ⟨q / 2, j + 1, HQ2, by omega, by omega, hj2, by go_num, by rw [show (-1074 + ((j + 1 : Nat) : Int)) = -1074 + (j : Int) + 1 from by omega]⟩
      case measure => simp [intOf]; omega
set_option maxRecDepth 100000 in
set_option maxHeartbeats 2000000 in
theorem parts_norm (x : Nat) (s : Bool) (R E M m o t : Nat) (hn : FloatKind.f64.format.order x x = some .eq) (hraw : ∀ w, Calls Tryd.prog 10 #[.float .f64 x] w fun e w' => e = .returned (.tuple #[.bool s, .int .u64 (R : Int)]) ∧ w' = w)
    (hz : ((R : Int) == 0) = false) (hE : (R : Int) / 4503599627370496 = (E : Int)) (hM : bits .and .u64 (R : Int) 4503599627370495 = (M : Int)) (h2 : M < 4503599627370496) (h1 : E ≤ 2046) (hE0 : 0 < E) (ho5 : bits .or .u64 (M : Int) 4503599627370496 = ((M + 4503599627370496 : Nat) : Int)) (hmM : m = M + 4503599627370496) (hm0 : 0 < m) (hm1 : m < 9007199254740992) (HO : m = o * 2 ^ t) (ho : o % 2 = 1) (w : World) :
    Calls Tryd.prog 5 #[.float .f64 x] w fun e w' => e = .returned (.agg #[.int .i64 1, .bool s, .int .i64 o, .int .i64 ((E : Int) - 1075 + (t : Int))]) ∧ Grown w w' := by
  have HM2 : Hid (m = M + 4503599627370496) := hmM
  clear hmM
  have HO2 : Hid (m = o * 2 ^ t) := HO
  clear HO
  go_enter Tryd.func5, Tryd.ntmps5
  go_wp2_with fail
  refine (hraw _).mono ?_
  rintro e w ⟨rfl, rfl⟩
  clear hraw
  go_wp2_with fail
  go_loopw [7] (fun v wr => ∃ (q j : Nat), Hid (m = q * 2 ^ j) ∧ 0 < q ∧ q < 9007199254740992 ∧ j ≤ 60 ∧ v = .int .u64 q ∧ wr = (w.alloc (Obj.cells #[.int .i64 0, .bool false, .int .i64 0, .int .i64 0] 24)).alloc (Obj.cells #[.int .i64 1, .bool s, .int .i64 0, .int .i64 ((E : Int) - 1075 + (j : Int))] 24)) (fun v _ => (intOf v).toNat)
  case atStart => exact ⟨m, 0, (by simp : m = m * 2 ^ 0), hm0, hm1, by omega, by rw [show m = M + 4503599627370496 from HM2]; go_num, by simp⟩
  case round =>
    obtain ⟨q, j, HQ, hq0, hq1, hj, rfl, rfl⟩ := hrel
    by_cases hodd : q % 2 = 1
    · have hb : ((q : Int) % 2 == 0) = false := by simp; omega
      have hqo : q = o ∧ j = t := odd_unique (by rw [← (show m = q * 2 ^ j from HQ), (show m = o * 2 ^ t from HO2)]) hodd ho
      obtain ⟨rfl, rfl⟩ := hqo
      clear HQ
      go_wp2
      go_returns
      exact ⟨rfl, by go_grown⟩
    · have hb : ((q : Int) % 2 == 0) = true := by simp; omega
      have HQ2 : Hid (m = q / 2 * 2 ^ (j + 1)) := by
        show m = _
        have e2 : q = q / 2 * 2 := by omega
        rw [(show m = q * 2 ^ j from HQ), Nat.pow_succ, Nat.mul_comm (2 ^ j), ← Nat.mul_assoc, ← e2]
      have hj2 : j + 1 ≤ 60 := by
        refine Nat.le_of_not_lt fun g => ?_
        have g1 : 2 ^ 61 ≤ 2 ^ (j + 1) := Nat.pow_le_pow_right (by omega) (by omega)
        have g2 : 1 * 2 ^ (j + 1) ≤ q / 2 * 2 ^ (j + 1) := Nat.mul_le_mul_right _ (by omega)
        have g3 := (show m = q / 2 * 2 ^ (j + 1) from HQ2)
        omega
      go_wp2
      go_roundw
      case rel => exact ⟨q / 2, j + 1, HQ2, by omega, by omega, hj2, by go_num, by rw [show ((E : Int) - 1075 + ((j + 1 : Nat) : Int)) = (E : Int) - 1075 + (j : Int) + 1 from by omega]⟩
      case measure => simp [intOf]; omega
end Go.Proofs.YtabffkfoafcmpabDoor
