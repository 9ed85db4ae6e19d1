import Derived.Test.YtgocahalfanpjaaDoorFlt
import Derived.Test.YtgocahalfanpjaaDoorFlv
import Derived.Laws.FloatArith
namespace Go.Proofs.YtgocahalfanpjaaDoor.Flt
open Ieee
theorem sum_num (s t : Bool) (m n k l : Nat) : ∃ tot : Int, (Datum.number s m ((k : Int) - 1074)).sum (.number t n ((l : Int) - 1074)) =
    some (.number (if tot = 0 then s && t else decide (tot < 0)) tot.natAbs (((min k l : Nat) : Int) - 1074)) ∧ tot * ((2 ^ min k l : Nat) : Int) = vl s (m * 2 ^ k) + vl t (n * 2 ^ l) := by
  have e1 : ((k : Int) - 1074 - min ((k : Int) - 1074) ((l : Int) - 1074)).toNat = k - min k l := by omega
  have e2 : ((l : Int) - 1074 - min ((k : Int) - 1074) ((l : Int) - 1074)).toNat = l - min k l := by omega
  have e3 : min ((k : Int) - 1074) ((l : Int) - 1074) = ((min k l : Nat) : Int) - 1074 := by omega
  have f1 : m * 2 ^ k = m * 2 ^ (k - min k l) * 2 ^ min k l := by rw [Nat.mul_assoc, ← Nat.pow_add]; congr 2; omega
  have f2 : n * 2 ^ l = n * 2 ^ (l - min k l) * 2 ^ min k l := by rw [Nat.mul_assoc, ← Nat.pow_add]; congr 2; omega
  refine ⟨vl s (m * 2 ^ (k - min k l)) + vl t (n * 2 ^ (l - min k l)), ?_, ?_⟩
  · unfold Datum.sum
    simp only [signed_vl]
    rw [e1, e2, e3]
  · rw [f1, f2, vl_mul s (m * 2 ^ (k - min k l)) (2 ^ min k l), vl_mul t (n * 2 ^ (l - min k l)) (2 ^ min k l), Int.add_mul]
/-- the floor of a float that is no NaN -/
def floorW (x : Nat) : Nat := double.write ((double.read x).integral .down)
theorem integral_num (s : Bool) (m k : Nat) : (Datum.number s m ((k : Int) - 1074)).integral .down = .number s (m * 2 ^ k / U + (s && m * 2 ^ k % U != 0).toNat) 0 := by
  unfold Datum.integral
  simp only [cut_down, (units m k).1]
  congr 2
  have := (units m k).2
  by_cases h : m * 2 ^ k % U = 0
  · rw [this.2 h, h]
  · have h2 := fun g => h (this.1 g)
    have g1 : (m <<< ((k : Int) - 1074).toNat % 2 ^ (-((k : Int) - 1074)).toNat != 0) = true := by simpa using h2
    have g2 : (m * 2 ^ k % U != 0) = true := by simpa using h
    rw [g1, g2]
/-- 'nearest' of a whole number, at the place 0 -/
theorem nearest_int (s : Bool) (t : Nat) {m k : Nat} (h : Canon m k) (hm : m ≠ 0) (e : t * U = m * 2 ^ k) : double.nearest s t 0 = double.word s (k * 4503599627370496 + m) := by
  have := nearest_val s h t eU hm (by exact e)
  have e0 : ((eU : Nat) : Int) - 1074 = 0 := by decide
  rwa [e0] at this
theorem read_zero (s : Bool) : double.read (double.word s 0) = .number s 0 (((0 : Nat) : Int) - 1074) := by
  have := read_word s (m := 0) (k := 0) ⟨by omega, Or.inr rfl, by omega⟩
  simpa using this
theorem nearest_zero (s : Bool) (p : Int) : double.nearest s 0 p = double.word s 0 := by
  unfold Format.nearest; simp
/-- a whole number below 2 ^ 53 as a float -/
theorem int_float (s : Bool) (t : Nat) (h : t < 9007199254740992) : ∃ m k : Nat, double.read (double.nearest s t 0) = .number s m ((k : Int) - 1074) ∧ m * 2 ^ k = t * U := by
  by_cases h0 : t = 0
  · subst h0
    rw [nearest_zero]
    exact ⟨0, 0, read_zero s, by simp⟩
  · obtain ⟨m, k, hc, hm, e⟩ := canon_int h0 h
    exact ⟨m, k, by rw [nearest_int s t hc hm e, read_word s hc], e.symm⟩
def eO : Nat := 1022
theorem one_read : double.read 4607182418800017408 = .number false 4503599627370496 (((eO : Nat) : Int) - 1074) := by decide
theorem one_val : 4503599627370496 * 2 ^ eO = U := by
  have := U_eq 52 eO (by decide)
  rw [this]
/-- minus one: from a float that is -t to one that is -(t + 1) -/
theorem less_one (s : Bool) (t : Nat) (hs : s = true ∨ t = 0) (h : t < 4503599627370496) : double.sub (double.nearest s t 0) 4607182418800017408 = some (double.nearest true (t + 1) 0) := by
  obtain ⟨m, k, hr, hv⟩ := int_float s t (by omega)
  unfold Format.sub
  rw [hr, one_read]
  unfold Datum.opposite
  obtain ⟨tot, h1, h2⟩ := sum_num s true m 4503599627370496 k eO
  simp only [Bool.not_false]
  rw [h1]
  have h3 : tot * ((2 ^ min k eO : Nat) : Int) = -(((t + 1) * U : Nat) : Int) := by
    rw [h2, one_val, hv]
    rcases hs with hs | hs
    · subst hs; simp [vl, Nat.add_mul]; omega
    · subst hs; cases s <;> simp [vl]
  have hp := Nat.two_pow_pos (min k eO)
  have hU := U_pos
  have hn : tot < 0 := by
    have : 0 < (t + 1) * U := Nat.mul_pos (by omega) hU
    refine Int.lt_of_not_ge fun g => ?_
    have := Int.mul_nonneg g (Int.natCast_nonneg (2 ^ min k eO))
    omega
  have h4 : tot.natAbs * 2 ^ min k eO = (t + 1) * U := by
    have e : tot = -(tot.natAbs : Int) := by omega
    have : (tot.natAbs : Int) * ((2 ^ min k eO : Nat) : Int) = (((t + 1) * U : Nat) : Int) := by
      rw [e, Int.neg_mul] at h3; omega
    have g : ((tot.natAbs * 2 ^ min k eO : Nat) : Int) = (((t + 1) * U : Nat) : Int) := by rw [Int.natCast_mul]; exact this
    exact Int.ofNat_inj.1 g
  obtain ⟨m', k', hc', hm', e'⟩ := canon_int (t := t + 1) (by omega) (by omega)
  have n1 := nearest_val true hc' tot.natAbs (min k eO) hm' (by rw [h4, e'])
  have n2 := nearest_int true (t + 1) hc' hm' e'
  simp only [Option.map_some, Format.write]
  rw [if_neg (by omega), n2]
  have : decide (tot < 0) = true := by simpa using hn
  rw [this, n1]
end Go.Proofs.YtgocahalfanpjaaDoor.Flt
