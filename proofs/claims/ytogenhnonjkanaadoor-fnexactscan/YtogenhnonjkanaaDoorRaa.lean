import Derived.Test.YtogenhnonjkanaaDoorSal
import Derived.Lib.ConvBytes
import Derived.Lib.AtoiErrMem
import Derived.Lib.AtoiAllMem
import Derived.Laws.Closers25
import Derived.Laws.Closers25b
import Derived.BigCall
import Derived.BigGuard
import Derived.Lib.IfaceNeq
import Derived.Lib.IfaceEq
import Derived.Deep.RegionWith
namespace Go.Proofs.YtogenhnonjkanaaDoor.Rd
open Go.ChangeShapes Go.WideShapes Go.ChangeAt Go.RowKit Go.Proofs.YtogenhnonjkanaaDoor
set_option linter.unusedVariables false
/-- what a byte is worth as a digit -/
def dv (c : UInt8) : Nat := if 48 ≤ c.toNat ∧ c.toNat ≤ 57 then c.toNat - 48 else if 97 ≤ c.toNat ∧ c.toNat ≤ 122 then c.toNat - 87 else 99
/-- the digit of the program's own: 36 for a byte that is none -/
def dw (c : UInt8) : Nat := if 48 ≤ c.toNat ∧ c.toNat ≤ 57 then c.toNat - 48 else if 97 ≤ c.toNat ∧ c.toNat ≤ 122 then c.toNat - 87 else 36
theorem impl_dig (c : UInt8) (w : World) : Calls Tryd.prog 91 #[.int .u8 (c.toNat : Int)] w fun e w' => e = .returned (.int .i64 (dw c : Int)) ∧ w' = w := by
  have hc := c.toNat_lt
  by_cases h1 : 48 ≤ c.toNat ∧ c.toNat ≤ 57
  · have e : (dw c : Int) = (c.toNat : Int) - 48 := by unfold dw; rw [if_pos h1]; omega
    rw [e]
    obtain ⟨h1, h2⟩ := h1
    have i1 : (48 : Int) ≤ (c.toNat : Int) := by omega
    have i2 : (c.toNat : Int) ≤ 57 := by omega
    clear e h1 h2
    generalize (c.toNat : Int) = n at *
    go_enter Tryd.func91, Tryd.ntmps91
    go_wp2
    go_ret
    exact ⟨rfl, rfl⟩
  · by_cases h2 : 97 ≤ c.toNat ∧ c.toNat ≤ 122
    · have e : (dw c : Int) = (c.toNat : Int) - 97 + 10 := by unfold dw; rw [if_neg h1, if_pos h2]; omega
      rw [e]
      have i0 : ¬ (c.toNat : Int) ≤ 57 := by omega
      have i1 : (97 : Int) ≤ (c.toNat : Int) := by omega
      have i2 : (c.toNat : Int) ≤ 122 := by omega
      have i3 : (48 : Int) ≤ (c.toNat : Int) := by omega
      clear e h1 h2
      generalize (c.toNat : Int) = n at *
      go_enter Tryd.func91, Tryd.ntmps91
      go_wp2
      go_ret
      exact ⟨rfl, rfl⟩
    · have e : (dw c : Int) = 36 := by unfold dw; rw [if_neg h1, if_neg h2]; rfl
      rw [e]
      have i0 : (c.toNat : Int) < 48 ∨ 57 < (c.toNat : Int) ∧ (c.toNat : Int) < 97 ∨ 122 < (c.toNat : Int) := by omega
      clear e h1 h2
      generalize (c.toNat : Int) = n at *
      rcases i0 with i | ⟨i, j⟩ | i
      all_goals
        go_enter Tryd.func91, Tryd.ntmps91
        go_wp2
        go_ret
        exact ⟨rfl, rfl⟩
theorem dv_dw (c : UInt8) (b : Nat) (hb : b ≤ 36) : (dv c < b) = (dw c < b) := by
  unfold dv dw
  split
  · rfl
  · split
    · rfl
    · simp; omega
/-- digits read as a number below 2^64 -/
def rd (b : Nat) : Nat → List UInt8 → Option Nat
  | acc, [] => some acc
  | acc, c :: r => if acc * b + dv c < 18446744073709551616 then rd b (acc * b + dv c) r else none
theorem acc_facts (b acc d : Nat) (hb : 2 ≤ b) (hd : d < b) : ∃ (q p : Int), 18446744073709551615 / (b : Int) = q ∧ (acc : Int) * (b : Int) = p ∧ p = ((acc * b : Nat) : Int) ∧ 0 ≤ p ∧ (q < acc → 18446744073709551616 ≤ acc * b + d) ∧ ((acc : Int) ≤ q → p ≤ 18446744073709551615) := by
  refine ⟨((18446744073709551615 / b : Nat) : Int), ((acc * b : Nat) : Int), by simp, by simp, rfl, by omega, fun h => ?_, fun h => ?_⟩
  · have h1 : 18446744073709551615 / b < acc := by omega
    have h2 := (Nat.div_lt_iff_lt_mul (by omega)).1 h1
    omega
  · have h1 : acc ≤ 18446744073709551615 / b := by omega
    have h2 := Nat.mul_le_mul_right b h1
    have h3 := Nat.div_mul_le_self 18446744073709551615 b
    omega
/-- what is answered behind the sign -/
def ansT (b : Nat) (neg : Bool) (R : List UInt8) : Int × Int :=
  if R = [] then (2, 0) else if R.all (fun c => decide (dv c < b)) = false then (2, 0) else
  match rd b 0 R with
  | none => (3, 0)
  | some v => if 9223372036854775808 < v ∨ (v = 9223372036854775808 ∧ neg = false) then (3, 0) else (0, if neg then -(v : Int) else v)
def whole (p : Int × Int) : Value := .agg #[.int .i64 p.1, .int .i64 p.2]
theorem emp (R : ByteArray) (h : 0 < R.data.toList.length) : R.toList.isEmpty = false := by
  rw [← decide_eq_emptyBytes]
  exact decide_eq_false (fun g => by rw [g] at h; simp at h)
theorem rd_lt (b : Nat) : ∀ (L : List UInt8) (acc v : Nat), acc < 18446744073709551616 → rd b acc L = some v → v < 18446744073709551616
  | [], acc, v, h, e => by simp [rd] at e; omega
  | c :: r, acc, v, h, e => by
    unfold rd at e
    split at e
    · rename_i hlt
      exact rd_lt b r _ v hlt e
    · cases e
theorem ans_nil (b : Nat) (neg : Bool) (R : List UInt8) (h : R.length = 0) : ansT b neg R = (2, 0) := by
  unfold ansT; rw [if_pos (by simpa using h)]
theorem ans_bad (b : Nat) (neg : Bool) (R : List UInt8) (c : UInt8) (hc : c ∈ R) (h : ¬ dv c < b) : ansT b neg R = (2, 0) := by
  unfold ansT
  by_cases hn : R = []
  · rw [if_pos hn]
  · rw [if_neg hn, if_pos]
    rw [List.all_eq_false]
    exact ⟨c, hc, by simpa using h⟩
theorem ans_good (b : Nat) (neg : Bool) (R : List UInt8) (hd : ∀ c ∈ R, dv c < b) (hne : 0 < R.length) : ansT b neg R = match rd b 0 R with
  | none => (3, 0)
  | some v => if 9223372036854775808 < v ∨ (v = 9223372036854775808 ∧ neg = false) then (3, 0) else (0, if neg then -(v : Int) else v) := by
  unfold ansT
  have h1 : R ≠ [] := by intro h; rw [h] at hne; simp at hne
  have h2 : R.all (fun c => decide (dv c < b)) = true := by rw [List.all_eq_true]; intro c hc; simpa using hd c hc
  rw [if_neg h1, if_neg (by rw [h2]; simp)]
theorem ans_none (b : Nat) (neg : Bool) (R : List UInt8) (hd : ∀ c ∈ R, dv c < b) (hne : 0 < R.length) (h : rd b 0 R = none) : ansT b neg R = (3, 0) := by
  rw [ans_good b neg R hd hne, h]
theorem ans_some (b : Nat) (neg : Bool) (R : List UInt8) (hd : ∀ c ∈ R, dv c < b) (hne : 0 < R.length) (v : Nat) (h : rd b 0 R = some v) : ansT b neg R = if 9223372036854775808 < v ∨ (v = 9223372036854775808 ∧ neg = false) then (3, 0) else (0, if neg then -(v : Int) else v) := by
  rw [ans_good b neg R hd hne, h]
/-- what ParseUint answers -/
def unt : Option Nat → Value
  | some v => .tuple #[.int .u64 (v : Int), .nilIface]
  | none => .tuple #[.int .u64 18446744073709551615, .iface 112 (.int .i64 1)]
theorem low26 : ∀ i : Fin 26, bits .or .u8 ((i.val + 97 : Nat) : Int) 32 = ((i.val + 97 : Nat) : Int) := by decide +kernel
theorem low_at (n : Nat) (h : 97 ≤ n) (h2 : n ≤ 122) : bits .or .u8 (n : Int) 32 = (n : Int) := by
  have := low26 ⟨n - 97, by omega⟩
  have e : n - 97 + 97 = n := by omega
  simp only [e] at this
  exact this
theorem empT (R : ByteArray) (h : 0 < R.size) : R.toList.isEmpty = false := by
  rw [← decide_eq_emptyBytes]
  exact decide_eq_false (fun g => by rw [g] at h; simp at h)
theorem lt_of_cell {w : World} {b off : Nat} {v : Value} (h : w.cell? ⟨b, off, none⟩ = some v) : b < w.heap.size := by
  refine Nat.lt_of_not_le fun g => ?_
  have e : w.heap[b]? = none := Array.getElem?_eq_none_iff.2 g
  simp [World.cell?, e] at h
def Kept (w w' : World) : Prop := w.keptBut w' (fun _ => False)
theorem Kept.refl (w : World) : Kept w w := World.keptBut_refl _ _
theorem is_base (b : Int) (z : Bool) (h : (decide (2 ≤ b) && decide (b ≤ 36)) = z) (w : World) :
    Calls Tryd.prog 51 #[.int .i64 b] w fun e w' => e = .returned (.bool z) ∧ w' = w := by
  by_cases h2 : 2 ≤ b
  · by_cases h3 : b ≤ 36
    · have e : z = true := by rw [← h]; simp [h2, h3]
      subst e
      have h4 : decide (b ≤ 36) = true := by simpa using h3
      clear h
      go_enter Tryd.func51, Tryd.ntmps51
      go_wp2
      go_ret
      exact ⟨rfl, rfl⟩
    · have e : z = false := by rw [← h]; simp [h3]
      subst e
      have h4 : decide (b ≤ 36) = false := by simpa using h3
      clear h
      go_enter Tryd.func51, Tryd.ntmps51
      go_wp2
      go_ret
      exact ⟨rfl, rfl⟩
  · have e : z = false := by rw [← h]; simp [h2]
    subst e
    clear h
    go_enter Tryd.func51, Tryd.ntmps51
    go_wp2
    go_ret
    exact ⟨rfl, rfl⟩

end Go.Proofs.YtogenhnonjkanaaDoor.Rd
