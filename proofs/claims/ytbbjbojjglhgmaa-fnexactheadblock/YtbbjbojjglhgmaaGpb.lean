import Derived.Test.YtbbjbojjglhgmaaGpa
namespace Go.Proofs.Ytbbjbojjglhgmaa.Fo
open Go.ChangeShapes Go.WideShapes Go.ChangeAt Go.RowKit
set_option linter.unusedVariables false
set_option maxRecDepth 100000
/-- a number in groups of seven bits, the low ones first -/
def numb (n : Nat) : List Int := if h : n ≤ 127 then [(n : Int)] else ((n % 128 + 128 : Nat) : Int) :: numb (n / 128)
termination_by n
decreasing_by omega
theorem numb_lt {n : Nat} (h : n ≤ 127) : numb n = [(n : Int)] := by rw [numb, dif_pos h]
theorem numb_ge {n : Nat} (h : ¬ n ≤ 127) : numb n = ((n % 128 + 128 : Nat) : Int) :: numb (n / 128) := by rw [numb, dif_neg h]
theorem numb_len : ∀ (k n : Nat), n < 128 ^ (k + 1) → (numb n).length ≤ k + 1
  | 0, n, h => by rw [numb_lt (by omega)]; exact Nat.le_refl _
  | k + 1, n, h => by
    by_cases q : n ≤ 127
    · rw [numb_lt q]; show 1 ≤ _; omega
    · rw [numb_ge q]
      have h2 : n / 128 < 128 ^ (k + 1) := by
        rw [Nat.div_lt_iff_lt_mul (by omega)]
        rw [Nat.pow_succ] at h
        exact h
      have := numb_len k (n / 128) h2
      show (numb (n / 128)).length + 1 ≤ _
      omega
theorem numb_ten {n : Nat} (h : n < 18446744073709551616) : (numb n).length ≤ 10 := numb_len 9 n (Nat.lt_of_lt_of_le h (by decide))
/-- a number with a sign as one without -/
def sgn (n : Int) : Nat := if n < 0 then (-(n + 1)).toNat * 2 + 1 else n.toNat * 2
end Go.Proofs.Ytbbjbojjglhgmaa.Fo
