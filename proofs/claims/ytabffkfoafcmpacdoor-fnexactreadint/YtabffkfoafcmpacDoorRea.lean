import Derived.Test.YtabffkfoafcmpacDoorFmw
import Derived.Laws.Strings3
import Derived.Lib.Strings
namespace Go.Proofs.YtabffkfoafcmpacDoor
open Go.ChangeShapes Go.WideShapes Go.ChangeAt Go.RowKit
set_option linter.unusedVariables false
/-- what a byte is worth as a digit -/
def dv (c : UInt8) : Nat := if 48 ≤ c.toNat ∧ c.toNat ≤ 57 then c.toNat - 48 else if 97 ≤ c.toNat ∧ c.toNat ≤ 122 then c.toNat - 87 else 99
theorem spec_dig (c : UInt8) (w : World) : Calls Tryd.prog 17 #[.int .u8 (c.toNat : Int)] w fun e w' => e = .returned (.int .i64 (dv c : Int)) ∧ w' = w := by
  have hc := c.toNat_lt
  by_cases h1 : 48 ≤ c.toNat ∧ c.toNat ≤ 57
  · have e : (dv c : Int) = (c.toNat : Int) - 48 := by unfold dv; rw [if_pos h1]; omega
    rw [e]
    obtain ⟨h1, h2⟩ := h1
    have i1 : (48 : Int) ≤ (c.toNat : Int) := by omega
    have i2 : (c.toNat : Int) ≤ 57 := by omega
    clear e h1 h2
    generalize (c.toNat : Int) = n at *
    go_enter Tryd.func17, Tryd.ntmps17
    go_wp2
    go_ret
    exact ⟨rfl, rfl⟩
  · by_cases h2 : 97 ≤ c.toNat ∧ c.toNat ≤ 122
    · have e : (dv c : Int) = (c.toNat : Int) - 97 + 10 := by unfold dv; rw [if_neg h1, if_pos h2]; omega
      rw [e]
      have i0 : ¬ (c.toNat : Int) ≤ 57 := by omega
      have i1 : (97 : Int) ≤ (c.toNat : Int) := by omega
      have i2 : (c.toNat : Int) ≤ 122 := by omega
      have i3 : (48 : Int) ≤ (c.toNat : Int) := by omega
      clear e h1 h2
      generalize (c.toNat : Int) = n at *
      go_enter Tryd.func17, Tryd.ntmps17
      go_wp2
      go_ret
      exact ⟨rfl, rfl⟩
    · have e : (dv c : Int) = 99 := by unfold dv; rw [if_neg h1, if_neg h2]; rfl
      rw [e]
      have i0 : (c.toNat : Int) < 48 ∨ 57 < (c.toNat : Int) ∧ (c.toNat : Int) < 97 ∨ 122 < (c.toNat : Int) := by omega
      clear e h1 h2
      generalize (c.toNat : Int) = n at *
      rcases i0 with i | ⟨i, j⟩ | i
      all_goals
        go_enter Tryd.func17, Tryd.ntmps17
        go_wp2
        go_ret
        exact ⟨rfl, rfl⟩
/-- the digit of the program's own: 36 for a byte that is none -/
def dw (c : UInt8) : Nat := if 48 ≤ c.toNat ∧ c.toNat ≤ 57 then c.toNat - 48 else if 97 ≤ c.toNat ∧ c.toNat ≤ 122 then c.toNat - 87 else 36
theorem impl_dig (c : UInt8) (w : World) : Calls Tryd.prog 26 #[.int .u8 (c.toNat : Int)] w fun e w' => e = .returned (.int .i64 (dw c : Int)) ∧ w' = w := by
  have hc := c.toNat_lt
  by_cases h1 : 48 ≤ c.toNat ∧ c.toNat ≤ 57
  · have e : (dw c : Int) = (c.toNat : Int) - 48 := by unfold dw; rw [if_pos h1]; omega
    rw [e]
    obtain ⟨h1, h2⟩ := h1
    have i1 : (48 : Int) ≤ (c.toNat : Int) := by omega
    have i2 : (c.toNat : Int) ≤ 57 := by omega
    clear e h1 h2
    generalize (c.toNat : Int) = n at *
    go_enter Tryd.func26, Tryd.ntmps26
    go_wp2
    go_ret
    exact ⟨rfl, rfl⟩
  · by_cases h2 : 97 ≤ c.toNat ∧ c.toNat ≤ 122
    · have e : (dw c : Int) = (c.toNat : Int) - 97 + 10 := by unfold dw; rw [if_neg h1, if_pos h2]; omega
      rw [e]
      have i0 : ¬ (c.toNat : Int) ≤ 57 := by omega
      have i1 : (97 : Int) ≤ (c.toNat : Int) := by omega
      have i2 : (c.toNat : Int) ≤ 122 := by omega
      have i3 : (48 : Int) ≤ (c.toNat : Int) := by omega
      clear e h1 h2
      generalize (c.toNat : Int) = n at *
      go_enter Tryd.func26, Tryd.ntmps26
      go_wp2
      go_ret
      exact ⟨rfl, rfl⟩
    · have e : (dw c : Int) = 36 := by unfold dw; rw [if_neg h1, if_neg h2]; rfl
      rw [e]
      have i0 : (c.toNat : Int) < 48 ∨ 57 < (c.toNat : Int) ∧ (c.toNat : Int) < 97 ∨ 122 < (c.toNat : Int) := by omega
      clear e h1 h2
      generalize (c.toNat : Int) = n at *
      rcases i0 with i | ⟨i, j⟩ | i
      all_goals
        go_enter Tryd.func26, Tryd.ntmps26
        go_wp2
        go_ret
        exact ⟨rfl, rfl⟩
theorem dv_dw (c : UInt8) (b : Nat) (hb : b ≤ 36) : (dv c < b) = (dw c < b) := by
  unfold dv dw
  split
  · rfl
  · split
    · rfl
    · simp; omega
/-- digits read as a number below 2^64 -/
def rd (b : Nat) : Nat → List UInt8 → Option Nat
  | acc, [] => some acc
  | acc, c :: r => if acc * b + dv c < 18446744073709551616 then rd b (acc * b + dv c) r else none
end Go.Proofs.YtabffkfoafcmpacDoor
