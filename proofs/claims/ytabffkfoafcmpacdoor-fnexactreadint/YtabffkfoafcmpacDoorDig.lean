import GoSem.Core.Lib
namespace Go.Proofs.YtabffkfoafcmpacDoor
/-- the digits' signs -/
def dgs : List UInt8 := [48, 49, 50, 51, 52, 53, 54, 55, 56, 57, 97, 98, 99, 100, 101, 102, 103, 104, 105, 106, 107, 108, 109, 110, 111, 112, 113, 114, 115, 116, 117, 118, 119, 120, 121, 122]
def dg (d : Nat) : UInt8 := dgs.getD d 0
/-- a number in a base, nothing for 0 -/
def wr (b n : Nat) : List UInt8 := if _h : n = 0 ∨ b < 2 then [] else wr b (n / b) ++ [dg (n % b)]
termination_by n
decreasing_by exact Nat.div_lt_self (by omega) (by omega)
theorem wr_zero (b : Nat) : wr b 0 = [] := by unfold wr; simp
theorem wr_pos (b n : Nat) (hb : 2 ≤ b) (hn : n ≠ 0) : wr b n = wr b (n / b) ++ [dg (n % b)] := by
  rw [wr.eq_1]
  rw [dif_neg (by omega)]
theorem wr_small (b n : Nat) (hb : 2 ≤ b) (hn : n ≠ 0) (h : n < b) : wr b n = [dg n] := by
  rw [wr_pos b n hb hn, Nat.div_eq_of_lt h, wr_zero, Nat.mod_eq_of_lt h]; rfl
theorem wr_len (b : Nat) (hb : 2 ≤ b) : ∀ (k n : Nat), n < 2 ^ k → (wr b n).length ≤ k := by
  intro k
  induction k with
  | zero => intro n h; simp at h; subst h; rw [wr_zero]; simp
  | succ k ih =>
    intro n h
    by_cases h0 : n = 0
    · subst h0; rw [wr_zero]; simp
    · rw [wr_pos b n hb h0]
      have h1 : n / b ≤ n / 2 := Nat.div_le_div_left hb (by omega)
      have := ih (n / b) (by rw [Nat.pow_succ] at h; omega)
      simp; omega
/-- as it is written -/
def wrt (b n : Nat) : List UInt8 := if n = 0 then [48] else wr b n
end Go.Proofs.YtabffkfoafcmpacDoor
