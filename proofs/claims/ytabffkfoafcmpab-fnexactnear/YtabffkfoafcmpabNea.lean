import Derived.Test.YtabffkfoafcmpabFrob
import Derived.Test.YtabffkfoafcmpabFne
import Derived.Test.YtabffkfoafcmpabShelf
import Derived.Deep.QuietTactic
import Derived.BigQuiet
namespace Go.Proofs.Ytabffkfoafcmpab
open Go.ChangeShapes Go.WideShapes Go.ChangeAt Go.RowKit
set_option linter.unusedVariables false
theorem Grown.drewN {a b : World} (h : Grown a b) (n : Nat) : Grown a (b.drewN n) := h
theorem cmpU (a b : Int) (w : World) :
    Calls Try.prog 33 #[.int .u64 a, .int .u64 b] w fun e w' => e = .returned (.int .i64 (if a < b then -1 else if b < a then 1 else 0)) ∧ w' = w := by
  rcases Int.lt_trichotomy a b with h | h | h
  · have e : (if a < b then (-1 : Int) else if b < a then 1 else 0) = -1 := by rw [if_pos h]
    rw [e]
    clear e
    go_enter Try.func33, Try.ntmps33
    go_wp2
    go_ret
    exact ⟨rfl, rfl⟩
  · subst h
    have e : (if a < a then (-1 : Int) else if a < a then 1 else 0) = 0 := by simp
    rw [e]
    clear e
    go_enter Try.func33, Try.ntmps33
    go_wp2
    go_ret
    exact ⟨rfl, rfl⟩
  · have e : (if a < b then (-1 : Int) else if b < a then 1 else 0) = 1 := by rw [if_neg (by omega), if_pos h]
    rw [e]
    clear e
    go_enter Try.func33, Try.ntmps33
    go_wp2
    go_ret
    exact ⟨rfl, rfl⟩
set_option maxHeartbeats 1000000 in
theorem drop_a (m : Nat) (D : Int) (hD : D ≤ 0) (hd : -60 ≤ D) (L : Nat) (hL : m * 2 ^ (-D).toNat = L) (hl : L < 18014398509481984) (w : World) :
    Calls Try.prog 31 #[.int .u64 m, .int .i64 D, .bool false] w fun e w' => e = .returned (.agg #[.int .u64 L, .int .u64 ((L : Int) + 1), .bool false, .int .i64 (-1)]) ∧ Grown w w' := by
  obtain ⟨d, rfl⟩ : ∃ d : Nat, D = -(d : Int) := ⟨(-D).toNat, by omega⟩
  have hw : IntKind.u64.wrap ((m : Int) * 2 ^ d) = (L : Int) := by
    have e2 : (- -(d : Int)).toNat = d := by omega
    rw [e2] at hL
    rw [IntKind.wrap_u64]
    have : ((m : Int) * 2 ^ d) = ((m * 2 ^ d : Nat) : Int) := by simp
    rw [this, hL]
    omega
  clear hL
  go_enter Try.func31, Try.ntmps31
  go_wp2
  go_region
  go_wp2
  go_returns
  exact ⟨rfl, by go_grown⟩
theorem drop_b (m : Nat) (D : Int) (hD : 64 < D) (w : World) :
    Calls Try.prog 31 #[.int .u64 m, .int .i64 D, .bool false] w fun e w' => e = .returned (.agg #[.int .u64 0, .int .u64 1, .bool false, .int .i64 (-1)]) ∧ Grown w w' := by
  go_enter Try.func31, Try.ntmps31
  go_wp2
  go_returns
  exact ⟨rfl, by go_grown⟩
set_option maxHeartbeats 1000000 in
theorem drop_c (m d L R H : Nat) (ev : Bool) (hd0 : 0 < d) (hd : d ≤ 64) (hL : (m : Int) / 2 ^ d = (L : Int)) (hR : IntKind.u64.wrap ((m : Int) - IntKind.u64.wrap ((L : Int) * 2 ^ d)) = (R : Int))
    (hH : IntKind.u64.wrap (2 ^ (d - 1)) = (H : Int)) (hl : L < 9223372036854775809) (hE : (bits .and .u64 (L : Int) 1 == 0) = ev) (w : World) :
    Calls Try.prog 31 #[.int .u64 m, .int .i64 (d : Int), .bool false] w fun e w' => e = .returned (.agg #[.int .u64 L, .int .u64 ((L : Int) + 1), .bool ev, .int .i64 (if (R : Int) < H then -1 else if (H : Int) < R then 1 else 0)]) ∧ Grown w w' := by
  rcases Int.lt_trichotomy (R : Int) (H : Int) with h | h | h
  · have e : (if (R : Int) < H then (-1 : Int) else if (H : Int) < R then 1 else 0) = -1 := by rw [if_pos h]
    rw [e]
    clear e
    go_enter Try.func31, Try.ntmps31
    go_wp2
    go_quiet ((go_at_call 33; exact Calls.quiet_of_same (cmpU _ _ _)))
    go_wp2
    go_returns
    refine ⟨rfl, ?_⟩
    refine Grown.setCell (Grown.setCell (Grown.setCell (Grown.setCell (Grown.drewN ?_ _) ?_ _) ?_ _) ?_ _) ?_ _ <;> first | exact Nat.le_refl _ | (go_grown; done)
  · have e : (if (R : Int) < H then (-1 : Int) else if (H : Int) < R then 1 else 0) = 0 := by rw [if_neg (by omega), if_neg (by omega)]
    rw [e]
    clear e
    go_enter Try.func31, Try.ntmps31
    go_wp2
    go_quiet ((go_at_call 33; exact Calls.quiet_of_same (cmpU _ _ _)))
    go_wp2
    go_returns
    refine ⟨rfl, ?_⟩
    refine Grown.setCell (Grown.setCell (Grown.setCell (Grown.setCell (Grown.drewN ?_ _) ?_ _) ?_ _) ?_ _) ?_ _ <;> first | exact Nat.le_refl _ | (go_grown; done)
  · have e : (if (R : Int) < H then (-1 : Int) else if (H : Int) < R then 1 else 0) = 1 := by rw [if_neg (by omega), if_pos h]
    rw [e]
    clear e
    go_enter Try.func31, Try.ntmps31
    go_wp2
    go_quiet ((go_at_call 33; exact Calls.quiet_of_same (cmpU _ _ _)))
    go_wp2
    go_returns
    refine ⟨rfl, ?_⟩
    refine Grown.setCell (Grown.setCell (Grown.setCell (Grown.setCell (Grown.drewN ?_ _) ?_ _) ?_ _) ?_ _) ?_ _ <;> first | exact Nat.le_refl _ | (go_grown; done)
theorem nearer_lo (lo hi : Int) (ev : Bool) (side : Int) (h : side = -1 ∨ side = 0 ∧ ev = true) (w : World) :
    Calls Try.prog 32 #[.agg #[.int .u64 lo, .int .u64 hi, .bool ev, .int .i64 side]] w fun e w' => e = .returned (.int .u64 lo) ∧ Grown w w' := by
  rcases h with rfl | ⟨rfl, rfl⟩
  · go_enter Try.func32, Try.ntmps32
    go_wp2
    go_ret
    exact ⟨rfl, by go_grown⟩
  · go_enter Try.func32, Try.ntmps32
    go_wp2
    go_ret
    exact ⟨rfl, by go_grown⟩
theorem nearer_hi (lo hi : Int) (ev : Bool) (side : Int) (h : side = 1 ∨ side = 0 ∧ ev = false) (w : World) :
    Calls Try.prog 32 #[.agg #[.int .u64 lo, .int .u64 hi, .bool ev, .int .i64 side]] w fun e w' => e = .returned (.int .u64 hi) ∧ Grown w w' := by
  rcases h with rfl | ⟨rfl, rfl⟩
  · go_enter Try.func32, Try.ntmps32
    go_wp2
    go_ret
    exact ⟨rfl, by go_grown⟩
  · go_enter Try.func32, Try.ntmps32
    go_wp2
    go_ret
    exact ⟨rfl, by go_grown⟩
end Go.Proofs.Ytabffkfoafcmpab
