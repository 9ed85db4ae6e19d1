import GoSem.Core.Float
import Derived.Laws.FloatArith
namespace Go.Proofs.Ytamcnmnaadpfoaa.Flt
open Ieee
/-- the order of two floats -/
theorem d_self (a : Datum) : (a.isNaN = true ∧ ∀ b, a.order b = none ∧ b.order a = none) ∨ (a.isNaN = false ∧ a.order a = some .eq) := by
  cases a with
  | nan s t => left; refine ⟨rfl, fun b => ⟨by simp [Datum.order], by cases b <;> simp [Datum.order]⟩⟩
  | infinity s => right; refine ⟨rfl, by simp [Datum.order]⟩
  | number s m i => right; refine ⟨rfl, by simp [Datum.order]⟩
theorem d_some (a b : Datum) (ha : a.isNaN = false) (hb : b.isNaN = false) : ∃ o, a.order b = some o := by
  cases a <;> cases b <;> simp_all [Datum.order, Datum.isNaN]
theorem order_cases (x y : Nat) :
    (FloatKind.f64.format.order x x = none ∧ FloatKind.f64.format.order x y = none) ∨
    (FloatKind.f64.format.order x x = some .eq ∧ FloatKind.f64.format.order y y = none ∧ FloatKind.f64.format.order x y = none) ∨
    (FloatKind.f64.format.order x x = some .eq ∧ FloatKind.f64.format.order y y = some .eq ∧
      (FloatKind.f64.format.order x y = some .lt ∨ FloatKind.f64.format.order x y = some .gt ∨ FloatKind.f64.format.order x y = some .eq)) := by
  unfold Format.order
  rcases d_self (FloatKind.f64.format.read x) with ⟨_, h⟩ | ⟨hx, h⟩
  · exact Or.inl ⟨(h _).1, (h _).1⟩
  rcases d_self (FloatKind.f64.format.read y) with ⟨_, k⟩ | ⟨hy, k⟩
  · exact Or.inr (Or.inl ⟨h, (k _).1, (k _).2⟩)
  obtain ⟨o, ho⟩ := d_some _ _ hx hy
  refine Or.inr (Or.inr ⟨h, k, ?_⟩)
  rw [ho]
  cases o <;> simp
end Go.Proofs.Ytamcnmnaadpfoaa.Flt

namespace Go.Proofs.Ytamcnmnaadpfoaa.Flt
open Ieee
theorem c_lp : double.leastPlace = -1074 := by decide
theorem c_bn : double.binade = 4503599627370496 := by decide
theorem c_ir : double.infRung = 9218868437227405312 := by decide
theorem c_sw : double.signWeight = 9223372036854775808 := by decide
/-- the numbers of the format: m times 2 to the (k - 1074) -/
structure Canon (m k : Nat) : Prop where
  lt : m < 9007199254740992
  low : 4503599627370496 ≤ m ∨ k = 0
  le : k ≤ 2045
theorem Canon.rung {m k : Nat} (h : Canon m k) : k * 4503599627370496 + m < 9218868437227405312 := by
  have := h.lt; have := h.le; omega
theorem word_parts (s : Bool) (r : Nat) (h : r < 9223372036854775808) :
    (double.word s r / double.signWeight % 2 == 1) = s ∧ double.word s r % double.signWeight = r := by
  unfold Format.word
  rw [c_sw]
  cases s
  · simp; omega
  · simp; omega
theorem read_word (s : Bool) {m k : Nat} (h : Canon m k) : double.read (double.word s (k * 4503599627370496 + m)) = .number s m ((k : Int) - 1074) := by
  have hr := h.rung
  obtain ⟨e1, e2⟩ := word_parts s (k * 4503599627370496 + m) (by omega)
  have := h.lt; have := h.low; have := h.le
  unfold Format.read
  simp only [e1, e2, c_bn, c_ir, c_lp]
  by_cases hk : k * 4503599627370496 + m < 4503599627370496
  · rw [if_pos hk]
    have : k = 0 := by omega
    subst this
    simp
  · rw [if_neg hk, if_pos hr]
    congr 1
    · omega
    · omega
theorem read_inf (s : Bool) : double.read (double.word s 9218868437227405312) = .infinity s := by
  obtain ⟨e1, e2⟩ := word_parts s 9218868437227405312 (by omega)
  unfold Format.read
  simp only [e1, e2, c_bn, c_ir]
  simp
theorem read_cases (x : Nat) (hx : x < 18446744073709551616) :
    (∃ s t, double.read x = .nan s t) ∨
    (∃ s, double.read x = .infinity s ∧ x = double.word s 9218868437227405312) ∨
    (∃ s m k, Canon m k ∧ double.read x = .number s m ((k : Int) - 1074) ∧ x = double.word s (k * 4503599627370496 + m)) := by
  have hxx : x = double.word (x / 9223372036854775808 % 2 == 1) (x % 9223372036854775808) := by
    unfold Format.word
    rw [c_sw]
    by_cases h : 9223372036854775808 ≤ x
    · have : x / 9223372036854775808 = 1 := by omega
      simp [this]; omega
    · have : x / 9223372036854775808 = 0 := by omega
      simp [this]; omega
  generalize (x / 9223372036854775808 % 2 == 1) = s at hxx
  have hr : x % 9223372036854775808 < 9223372036854775808 := by omega
  generalize x % 9223372036854775808 = r at hxx hr
  subst hxx
  by_cases h1 : r < 9218868437227405312
  · right; right
    by_cases h2 : r < 4503599627370496
    · have hc : Canon r 0 := ⟨by omega, Or.inr rfl, by omega⟩
      refine ⟨s, r, 0, hc, ?_, by simp⟩
      have := read_word s hc
      simpa using this
    · have hc : Canon (4503599627370496 + r % 4503599627370496) (r / 4503599627370496 - 1) := ⟨by omega, Or.inl (by omega), by omega⟩
      have e : (r / 4503599627370496 - 1) * 4503599627370496 + (4503599627370496 + r % 4503599627370496) = r := by omega
      have := read_word s hc
      rw [e] at this
      exact ⟨s, _, _, hc, this, by rw [e]⟩
  · by_cases h3 : r = 9218868437227405312
    · subst h3
      exact Or.inr (Or.inl ⟨s, read_inf s, rfl⟩)
    · left
      obtain ⟨e1, e2⟩ := word_parts s r hr
      refine ⟨s, r - 9218868437227405312, ?_⟩
      unfold Format.read
      simp only [e1, e2, c_bn, c_ir]
      rw [if_neg (by omega), if_neg h1, if_neg h3]
theorem cut_exact (neg : Bool) (n m d : Nat) (h : n = m * 2 ^ d) (hm : m ≠ 0) (way : Toward) : way.cut neg n d = m := by
  have hp : 0 < 2 ^ d := Nat.two_pow_pos d
  have hn : n ≠ 0 := by rw [h]; exact Nat.mul_ne_zero hm (by omega)
  have hl : d ≤ n.log2 := by
    rw [Nat.le_log2 hn, h]
    exact Nat.le_mul_of_pos_left _ (by omega)
  unfold Toward.cut
  have e : min d (n.log2 + 2) = d := by omega
  have eg : 1 <<< min d (n.log2 + 2) = 2 ^ d := by rw [e, Nat.shiftLeft_eq, Nat.one_mul]
  have e1 : n / 2 ^ d = m := by rw [h, Nat.mul_div_cancel _ hp]
  have e2 : n % 2 ^ d = 0 := by rw [h, Nat.mul_mod_left]
  simp only [eg, e1, e2]
  cases way <;> simp
theorem log2_mul_pow {n : Nat} (h : n ≠ 0) (d : Nat) : (n * 2 ^ d).log2 = n.log2 + d := by
  induction d with
  | zero => simp
  | succ d ih =>
    have e : n * 2 ^ (d + 1) = 2 * (n * 2 ^ d) := by rw [Nat.pow_succ]; simp only [Nat.mul_comm, Nat.mul_left_comm]
    rw [e, Nat.log2_two_mul (Nat.mul_ne_zero h (by have := Nat.two_pow_pos d; omega)), ih]
    omega
/-- a number that the format has is written as itself, however it is spelt -/
theorem nearest_exact (s : Bool) {m k : Nat} (h : Canon m k) (mag : Nat) (place : Int) (hm : m ≠ 0)
    (he : (∃ d : Nat, place = (k : Int) - 1074 + d ∧ m = mag * 2 ^ d) ∨ (∃ d : Nat, place = (k : Int) - 1074 - d ∧ mag = m * 2 ^ d)) :
    double.nearest s mag place = double.word s (k * 4503599627370496 + m) := by
  have h0 := h.lt; have h1 := h.low; have h2 := h.le
  have hmag : mag ≠ 0 := by
    rcases he with ⟨d, _, e⟩ | ⟨d, _, e⟩
    · intro hz; rw [hz] at e; simp at e; exact hm e
    · rw [e]; exact Nat.mul_ne_zero hm (by have := Nat.two_pow_pos d; omega)
  have hlog : place + mag.log2 = (k : Int) - 1074 + m.log2 := by
    rcases he with ⟨d, e, f⟩ | ⟨d, e, f⟩
    · have : m.log2 = mag.log2 + d := by rw [f, log2_mul_pow hmag]
      omega
    · have : mag.log2 = m.log2 + d := by rw [f, log2_mul_pow hm]
      omega
  have hl53 : m.log2 < 53 := (Nat.log2_lt hm).2 (by omega)
  have hl52 : 4503599627370496 ≤ m → m.log2 = 52 := fun g => by
    have : 52 ≤ m.log2 := (Nat.le_log2 hm).2 (by omega)
    omega
  unfold Format.nearest
  rw [if_neg hmag]
  have ef : double.fractionBits = 52 := rfl
  have elast : max (place + mag.log2 - (double.fractionBits : Int)) double.leastPlace = (k : Int) - 1074 := by
    rw [c_lp, ef, hlog]
    rcases h1 with g | g
    · rw [hl52 g]; omega
    · omega
  simp only [elast]
  simp only [c_lp, c_bn, c_ir]
  have ek : Toward.even.cut s (mag <<< (place - ((k : Int) - 1074)).toNat) ((k : Int) - 1074 - place).toNat = m := by
    rcases he with ⟨d, e, f⟩ | ⟨d, e, f⟩
    · have e1 : (place - ((k : Int) - 1074)).toNat = d := by omega
      have e2 : ((k : Int) - 1074 - place).toNat = 0 := by omega
      rw [e1, e2]
      exact cut_exact s _ m 0 (by rw [Nat.shiftLeft_eq, ← f]; simp) hm _
    · have e1 : (place - ((k : Int) - 1074)).toNat = 0 := by omega
      have e2 : ((k : Int) - 1074 - place).toNat = d := by omega
      rw [e1, e2]
      exact cut_exact s _ m d (by rw [Nat.shiftLeft_eq, f]; simp) hm _
  rw [ek]
  congr 1
  have := h.rung
  omega
end Go.Proofs.Ytamcnmnaadpfoaa.Flt

namespace Go.Proofs.Ytamcnmnaadpfoaa.Flt
open Ieee
/-- one, in units of 2 ^ -1074; kept shut -/
def eU : Nat := 1074
def U : Nat := 2 ^ eU
theorem U_pos : 0 < U := Nat.two_pow_pos eU
theorem U_eq (a b : Nat) (h : a + b = 1074) : U = 2 ^ a * 2 ^ b := by
  have g : a + b = eU := h
  rw [← Nat.pow_add, g, U]
theorem pow_U (k : Nat) (h : 1074 ≤ k) : 2 ^ k = 2 ^ (k - 1074) * U := by
  have g : k - 1074 + eU = k := by unfold eU; omega
  rw [U, ← Nat.pow_add, g]
/-- a value with its sign -/
def vl (s : Bool) (v : Nat) : Int := if s then -(v : Int) else v
theorem cmp_mul (a b c : Int) (h : 0 < c) : compare (a * c) (b * c) = compare a b := by
  rcases Int.lt_trichotomy a b with g | g | g
  · rw [Int.compare_eq_lt.2 g, Int.compare_eq_lt.2 (Int.mul_lt_mul_of_pos_right g h)]
  · subst g; simp
  · rw [Int.compare_eq_gt.2 g, Int.compare_eq_gt.2 (Int.mul_lt_mul_of_pos_right g h)]
theorem signed_vl (s : Bool) (m u : Nat) : signed s m u = vl s (m * 2 ^ u) := by
  unfold signed vl; rw [Nat.shiftLeft_eq]
theorem vl_mul (s : Bool) (v c : Nat) : vl s (v * c) = vl s v * (c : Int) := by
  cases s <;> simp [vl, Int.neg_mul]
theorem order_num (s t : Bool) (m n k l : Nat) :
    (Datum.number s m ((k : Int) - 1074)).order (.number t n ((l : Int) - 1074)) = some (compare (vl s (m * 2 ^ k)) (vl t (n * 2 ^ l))) := by
  unfold Datum.order
  simp only [signed_vl]
  have e1 : ((k : Int) - 1074 - min ((k : Int) - 1074) ((l : Int) - 1074)).toNat = k - min k l := by omega
  have e2 : ((l : Int) - 1074 - min ((k : Int) - 1074) ((l : Int) - 1074)).toNat = l - min k l := by omega
  rw [e1, e2]
  have f1 : m * 2 ^ k = m * 2 ^ (k - min k l) * 2 ^ min k l := by rw [Nat.mul_assoc, ← Nat.pow_add]; congr 2; omega
  have f2 : n * 2 ^ l = n * 2 ^ (l - min k l) * 2 ^ min k l := by rw [Nat.mul_assoc, ← Nat.pow_add]; congr 2; omega
  rw [f1, f2, vl_mul s (m * 2 ^ (k - min k l)) (2 ^ min k l), vl_mul t (n * 2 ^ (l - min k l)) (2 ^ min k l), cmp_mul]
  have := Nat.two_pow_pos (min k l)
  omega
/-- what is written of a value in units of 2 ^ -1074 -/
theorem nearest_val (s : Bool) {m k : Nat} (h : Canon m k) (mag p : Nat) (hm : m ≠ 0) (he : mag * 2 ^ p = m * 2 ^ k) :
    double.nearest s mag ((p : Int) - 1074) = double.word s (k * 4503599627370496 + m) := by
  refine nearest_exact s h mag _ hm ?_
  by_cases hpk : k ≤ p
  · refine Or.inl ⟨p - k, by omega, ?_⟩
    have e : mag * 2 ^ p = mag * 2 ^ (p - k) * 2 ^ k := by rw [Nat.mul_assoc, ← Nat.pow_add]; congr 2; omega
    rw [e] at he
    exact (Nat.eq_of_mul_eq_mul_right (Nat.two_pow_pos k) he).symm
  · refine Or.inr ⟨k - p, by omega, ?_⟩
    have e : m * 2 ^ k = m * 2 ^ (k - p) * 2 ^ p := by rw [Nat.mul_assoc, ← Nat.pow_add]; congr 2; omega
    rw [e] at he
    exact Nat.eq_of_mul_eq_mul_right (Nat.two_pow_pos p) he
/-- the format has every whole number below 2 ^ 53 -/
theorem canon_int {t : Nat} (h0 : t ≠ 0) (h1 : t < 9007199254740992) : ∃ m k, Canon m k ∧ m ≠ 0 ∧ t * U = m * 2 ^ k := by
  have hl : t.log2 < 53 := (Nat.log2_lt h0).2 (by omega)
  refine ⟨t * 2 ^ (52 - t.log2), 1022 + t.log2, ⟨?_, Or.inl ?_, by omega⟩, ?_, ?_⟩
  · have h2 : t < 2 ^ (t.log2 + 1) := Nat.lt_log2_self
    have h3 : t * 2 ^ (52 - t.log2) < 2 ^ (t.log2 + 1) * 2 ^ (52 - t.log2) := Nat.mul_lt_mul_of_pos_right h2 (Nat.two_pow_pos _)
    rw [← Nat.pow_add] at h3
    have e : t.log2 + 1 + (52 - t.log2) = 53 := by omega
    rw [e] at h3
    exact h3
  · have h2 : 2 ^ t.log2 ≤ t := Nat.log2_self_le h0
    have h3 : 2 ^ t.log2 * 2 ^ (52 - t.log2) ≤ t * 2 ^ (52 - t.log2) := Nat.mul_le_mul_right _ h2
    rw [← Nat.pow_add] at h3
    have e : t.log2 + (52 - t.log2) = 52 := by omega
    rw [e] at h3
    exact h3
  · exact Nat.mul_ne_zero h0 (by have := Nat.two_pow_pos (52 - t.log2); omega)
  · rw [U_eq (52 - t.log2) (1022 + t.log2) (by omega), Nat.mul_assoc]
theorem cut_zero (neg : Bool) (n d : Nat) : Toward.zero.cut neg n d = n / 2 ^ d := by
  unfold Toward.cut
  simp only [Nat.shiftLeft_eq, Nat.one_mul, Bool.toNat_false, Nat.add_zero]
  by_cases h : d ≤ n.log2 + 2
  · rw [Nat.min_eq_left h]
  · rw [Nat.min_eq_right (by omega)]
    have h1 : n < 2 ^ (n.log2 + 1) := Nat.lt_log2_self
    have h2 : 2 ^ (n.log2 + 1) ≤ 2 ^ (n.log2 + 2) := Nat.pow_le_pow_right (by omega) (by omega)
    have h3 : 2 ^ (n.log2 + 2) ≤ 2 ^ d := Nat.pow_le_pow_right (by omega) (by omega)
    rw [Nat.div_eq_of_lt (by omega), Nat.div_eq_of_lt (by omega)]
theorem cut_down (neg : Bool) (n d : Nat) : Toward.down.cut neg n d = n / 2 ^ d + (neg && n % 2 ^ d != 0).toNat := by
  unfold Toward.cut
  simp only [Nat.shiftLeft_eq, Nat.one_mul]
  by_cases h : d ≤ n.log2 + 2
  · rw [Nat.min_eq_left h]
  · rw [Nat.min_eq_right (by omega)]
    have h1 : n < 2 ^ (n.log2 + 1) := Nat.lt_log2_self
    have h2 : 2 ^ (n.log2 + 1) ≤ 2 ^ (n.log2 + 2) := Nat.pow_le_pow_right (by omega) (by omega)
    have h3 : 2 ^ (n.log2 + 2) ≤ 2 ^ d := Nat.pow_le_pow_right (by omega) (by omega)
    rw [Nat.div_eq_of_lt (by omega), Nat.div_eq_of_lt (by omega), Nat.mod_eq_of_lt (by omega), Nat.mod_eq_of_lt (by omega)]
/-- the cut of m times 2 to the (k - 1074) at the point, in units -/
theorem units (m k : Nat) : (m <<< ((k : Int) - 1074).toNat) / 2 ^ (-((k : Int) - 1074)).toNat = m * 2 ^ k / U ∧
    ((m <<< ((k : Int) - 1074).toNat) % 2 ^ (-((k : Int) - 1074)).toNat = 0 ↔ m * 2 ^ k % U = 0) := by
  rw [Nat.shiftLeft_eq]
  by_cases h : 1074 ≤ k
  · have e1 : ((k : Int) - 1074).toNat = k - 1074 := by omega
    have e2 : (-((k : Int) - 1074)).toNat = 0 := by omega
    have e3 : m * 2 ^ k = m * 2 ^ (k - 1074) * U := by
      rw [pow_U k h, Nat.mul_assoc]
    rw [e1, e2, e3, Nat.mul_div_cancel _ U_pos, Nat.mul_mod_left]
    simp [Nat.mod_one]
  · have e1 : ((k : Int) - 1074).toNat = 0 := by omega
    have e2 : (-((k : Int) - 1074)).toNat = 1074 - k := by omega
    have e3 : U = 2 ^ (1074 - k) * 2 ^ k := U_eq _ _ (by omega)
    rw [e1, e2, e3, Nat.pow_zero, Nat.mul_one, Nat.mul_div_mul_right _ _ (Nat.two_pow_pos k), Nat.mul_mod_mul_right]
    refine ⟨rfl, ?_⟩
    constructor
    · intro g; rw [g]; simp
    · intro g
      rcases Nat.mul_eq_zero.1 g with g | g
      · exact g
      · have := Nat.two_pow_pos k; omega
end Go.Proofs.Ytamcnmnaadpfoaa.Flt

namespace Go.Proofs.Ytamcnmnaadpfoaa.Flt
open Ieee
theorem sum_num (s t : Bool) (m n k l : Nat) : ∃ tot : Int, (Datum.number s m ((k : Int) - 1074)).sum (.number t n ((l : Int) - 1074)) =
    some (.number (if tot = 0 then s && t else decide (tot < 0)) tot.natAbs (((min k l : Nat) : Int) - 1074)) ∧ tot * ((2 ^ min k l : Nat) : Int) = vl s (m * 2 ^ k) + vl t (n * 2 ^ l) := by
  have e1 : ((k : Int) - 1074 - min ((k : Int) - 1074) ((l : Int) - 1074)).toNat = k - min k l := by omega
  have e2 : ((l : Int) - 1074 - min ((k : Int) - 1074) ((l : Int) - 1074)).toNat = l - min k l := by omega
  have e3 : min ((k : Int) - 1074) ((l : Int) - 1074) = ((min k l : Nat) : Int) - 1074 := by omega
  have f1 : m * 2 ^ k = m * 2 ^ (k - min k l) * 2 ^ min k l := by rw [Nat.mul_assoc, ← Nat.pow_add]; congr 2; omega
  have f2 : n * 2 ^ l = n * 2 ^ (l - min k l) * 2 ^ min k l := by rw [Nat.mul_assoc, ← Nat.pow_add]; congr 2; omega
  refine ⟨vl s (m * 2 ^ (k - min k l)) + vl t (n * 2 ^ (l - min k l)), ?_, ?_⟩
  · unfold Datum.sum
    simp only [signed_vl]
    rw [e1, e2, e3]
  · rw [f1, f2, vl_mul s (m * 2 ^ (k - min k l)) (2 ^ min k l), vl_mul t (n * 2 ^ (l - min k l)) (2 ^ min k l), Int.add_mul]
/-- the floor of a float that is no NaN -/
def floorW (x : Nat) : Nat := double.write ((double.read x).integral .down)
theorem integral_num (s : Bool) (m k : Nat) : (Datum.number s m ((k : Int) - 1074)).integral .down = .number s (m * 2 ^ k / U + (s && m * 2 ^ k % U != 0).toNat) 0 := by
  unfold Datum.integral
  simp only [cut_down, (units m k).1]
  congr 2
  have := (units m k).2
  by_cases h : m * 2 ^ k % U = 0
  · rw [this.2 h, h]
  · have h2 := fun g => h (this.1 g)
    have g1 : (m <<< ((k : Int) - 1074).toNat % 2 ^ (-((k : Int) - 1074)).toNat != 0) = true := by simpa using h2
    have g2 : (m * 2 ^ k % U != 0) = true := by simpa using h
    rw [g1, g2]
/-- 'nearest' of a whole number, at the place 0 -/
theorem nearest_int (s : Bool) (t : Nat) {m k : Nat} (h : Canon m k) (hm : m ≠ 0) (e : t * U = m * 2 ^ k) : double.nearest s t 0 = double.word s (k * 4503599627370496 + m) := by
  have := nearest_val s h t eU hm (by exact e)
  have e0 : ((eU : Nat) : Int) - 1074 = 0 := by decide
  rwa [e0] at this
theorem read_zero (s : Bool) : double.read (double.word s 0) = .number s 0 (((0 : Nat) : Int) - 1074) := by
  have := read_word s (m := 0) (k := 0) ⟨by omega, Or.inr rfl, by omega⟩
  simpa using this
theorem nearest_zero (s : Bool) (p : Int) : double.nearest s 0 p = double.word s 0 := by
  unfold Format.nearest; simp
/-- a whole number below 2 ^ 53 as a float -/
theorem int_float (s : Bool) (t : Nat) (h : t < 9007199254740992) : ∃ m k : Nat, double.read (double.nearest s t 0) = .number s m ((k : Int) - 1074) ∧ m * 2 ^ k = t * U := by
  by_cases h0 : t = 0
  · subst h0
    rw [nearest_zero]
    exact ⟨0, 0, read_zero s, by simp⟩
  · obtain ⟨m, k, hc, hm, e⟩ := canon_int h0 h
    exact ⟨m, k, by rw [nearest_int s t hc hm e, read_word s hc], e.symm⟩
def eO : Nat := 1022
theorem one_read : double.read 4607182418800017408 = .number false 4503599627370496 (((eO : Nat) : Int) - 1074) := by decide
theorem one_val : 4503599627370496 * 2 ^ eO = U := by
  have := U_eq 52 eO (by decide)
  rw [this]
/-- minus one: from a float that is -t to one that is -(t + 1) -/
theorem less_one (s : Bool) (t : Nat) (hs : s = true ∨ t = 0) (h : t < 4503599627370496) : double.sub (double.nearest s t 0) 4607182418800017408 = some (double.nearest true (t + 1) 0) := by
  obtain ⟨m, k, hr, hv⟩ := int_float s t (by omega)
  unfold Format.sub
  rw [hr, one_read]
  unfold Datum.opposite
  obtain ⟨tot, h1, h2⟩ := sum_num s true m 4503599627370496 k eO
  simp only [Bool.not_false]
  rw [h1]
  have h3 : tot * ((2 ^ min k eO : Nat) : Int) = -(((t + 1) * U : Nat) : Int) := by
    rw [h2, one_val, hv]
    rcases hs with hs | hs
    · subst hs; simp [vl, Nat.add_mul]; omega
    · subst hs; cases s <;> simp [vl]
  have hp := Nat.two_pow_pos (min k eO)
  have hU := U_pos
  have hn : tot < 0 := by
    have : 0 < (t + 1) * U := Nat.mul_pos (by omega) hU
    refine Int.lt_of_not_ge fun g => ?_
    have := Int.mul_nonneg g (Int.natCast_nonneg (2 ^ min k eO))
    omega
  have h4 : tot.natAbs * 2 ^ min k eO = (t + 1) * U := by
    have e : tot = -(tot.natAbs : Int) := by omega
    have : (tot.natAbs : Int) * ((2 ^ min k eO : Nat) : Int) = (((t + 1) * U : Nat) : Int) := by
      rw [e, Int.neg_mul] at h3; omega
    have g : ((tot.natAbs * 2 ^ min k eO : Nat) : Int) = (((t + 1) * U : Nat) : Int) := by rw [Int.natCast_mul]; exact this
    exact Int.ofNat_inj.1 g
  obtain ⟨m', k', hc', hm', e'⟩ := canon_int (t := t + 1) (by omega) (by omega)
  have n1 := nearest_val true hc' tot.natAbs (min k eO) hm' (by rw [h4, e'])
  have n2 := nearest_int true (t + 1) hc' hm' e'
  simp only [Option.map_some, Format.write]
  rw [if_neg (by omega), n2]
  have : decide (tot < 0) = true := by simpa using hn
  rw [this, n1]
end Go.Proofs.Ytamcnmnaadpfoaa.Flt

namespace Go.Proofs.Ytamcnmnaadpfoaa.Flt
open Ieee
def eC : Nat := 1085
theorem hi_read : double.read 4890909195324358656 = .number false 4503599627370496 (((eC : Nat) : Int) - 1074) := by decide
theorem lo_read : double.read 14114281232179134464 = .number true 4503599627370496 (((eC : Nat) : Int) - 1074) := by decide
theorem hi_val : 4503599627370496 * 2 ^ eC = 9223372036854775808 * U := by
  have h := pow_U eC (by decide)
  have e : eC - 1074 = 11 := by decide
  rw [e] at h
  rw [h, ← Nat.mul_assoc]
theorem zero_read : double.read 0 = .number false 0 (((0 : Nat) : Int) - 1074) := by decide
theorem cmp_lt {a b : Int} (h : a < b) : compare a b = .lt := Int.compare_eq_lt.2 h
theorem cmp_gt {a b : Int} (h : b < a) : compare a b = .gt := Int.compare_eq_gt.2 h
theorem cmp_eq {a b : Int} (h : a = b) : compare a b = .eq := by subst h; simp
/-- below the point there is nothing from 2 ^ 52 on -/
theorem small_place {m k : Nat} (h : Canon m k) (hk : k < 1074) : m * 2 ^ k < 4503599627370496 * U ∧ m * 2 ^ k / U < 4503599627370496 := by
  have h0 := h.lt
  have e : U = 2 ^ (1073 - k) * (2 * 2 ^ k) := by
    rw [U_eq (1074 - k) k (by omega)]
    have : 1074 - k = 1073 - k + 1 := by omega
    rw [this, Nat.pow_succ, Nat.mul_assoc]
  have h1 : 1 ≤ 2 ^ (1073 - k) := Nat.one_le_two_pow
  have h2 : 2 * 2 ^ k ≤ U := by rw [e]; exact Nat.le_mul_of_pos_left _ (by omega)
  have h3 : m * 2 ^ k < 9007199254740992 * 2 ^ k := Nat.mul_lt_mul_of_pos_right h0 (Nat.two_pow_pos k)
  have h4 : m * 2 ^ k < 4503599627370496 * U := by
    have : 9007199254740992 * 2 ^ k = 4503599627370496 * (2 * 2 ^ k) := by rw [← Nat.mul_assoc]
    have : 4503599627370496 * (2 * 2 ^ k) ≤ 4503599627370496 * U := Nat.mul_le_mul_left _ h2
    omega
  exact ⟨h4, (Nat.div_lt_iff_lt_mul U_pos).2 h4⟩
theorem big_place (m : Nat) {k : Nat} (hk : 1074 ≤ k) : m * 2 ^ k % U = 0 := by
  rw [pow_U k hk, ← Nat.mul_assoc, Nat.mul_mod_left]
theorem floor_num {x : Nat} {s : Bool} {m k : Nat} (hr : double.read x = .number s m ((k : Int) - 1074)) :
    floorW x = double.nearest s (m * 2 ^ k / U + (s && m * 2 ^ k % U != 0).toNat) 0 := by
  unfold floorW
  rw [hr, integral_num]
  rfl
theorem floor_int {x : Nat} {s : Bool} {m k : Nat} (hc : Canon m k) (hm : m ≠ 0) (hr : double.read x = .number s m ((k : Int) - 1074)) (hx : x = double.word s (k * 4503599627370496 + m))
    (h : m * 2 ^ k % U = 0) : floorW x = x ∧ double.nearest s (m * 2 ^ k / U) 0 = x := by
  have e : m * 2 ^ k / U * U = m * 2 ^ k := by
    have := Nat.div_add_mod (m * 2 ^ k) U
    rw [h, Nat.mul_comm] at this
    omega
  have n := nearest_int s _ hc hm e
  refine ⟨?_, by rw [n, ← hx]⟩
  rw [floor_num hr, h]
  simp only [bne_self_eq_false, Bool.and_false, Bool.toNat_false, Nat.add_zero]
  rw [n, ← hx]
theorem conv_num {x : Nat} {s : Bool} {m k : Nat} (hr : double.read x = .number s m ((k : Int) - 1074))
    (h1 : vl s (m * 2 ^ k) < 9223372036854775808 * (U : Int)) (h2 : -(9223372036854775808 * (U : Int)) ≤ vl s (m * 2 ^ k)) :
    floatToIntVal .f64 x .i64 = some (vl s (m * 2 ^ k / U)) := by
  have e : (FloatKind.f64.decode x).toInt .zero = some (vl s (m * 2 ^ k / U)) := by
    unfold FloatKind.decode
    show (double.read x).toInt .zero = _
    rw [hr]
    unfold Datum.toInt Datum.integral
    simp only [cut_zero, (units m k).1, signed_vl, Nat.pow_zero, Nat.mul_one]
  unfold floatToIntVal
  simp only [e]
  have hU := U_pos
  have hd : m * 2 ^ k / U * U ≤ m * 2 ^ k := Nat.div_mul_le_self _ _
  generalize m * 2 ^ k = V at *
  have b : -9223372036854775808 ≤ vl s (V / U) ∧ vl s (V / U) ≤ 9223372036854775807 := by
    cases s
    · simp only [vl, Bool.false_eq_true, if_false] at *
      have : V / U < 9223372036854775808 := (Nat.div_lt_iff_lt_mul hU).2 (by omega)
      generalize V / U = q at *
      omega
    · simp only [vl, if_true] at *
      have : V / U ≤ 9223372036854775808 := Nat.div_le_of_le_mul (by rw [Nat.mul_comm]; omega)
      generalize V / U = q at *
      omega
  have bb : IntKind.i64.min ≤ vl s (V / U) ∧ vl s (V / U) ≤ IntKind.i64.max := b
  rw [if_pos bb]
theorem order_nan {x : Nat} (h : ∃ s t, double.read x = .nan s t) : double.order x x = none := by
  obtain ⟨s, t, h⟩ := h
  unfold Format.order; rw [h]; rfl
theorem quiet_nan (s : Bool) (t : Nat) : double.order (double.write (.nan s (double.quiet t))) (double.write (.nan s (double.quiet t))) = none := by
  refine order_nan ?_
  have e : double.write (.nan s (double.quiet t)) = double.word s (9218868437227405312 + (t ||| 2 ^ 51) % 2 ^ 52) := by
    unfold Format.write; rw [c_ir]; rfl
  have h0 : (t ||| 2 ^ 51) % 2 ^ 52 ≠ 0 := by
    intro g
    have h : ((t ||| 2 ^ 51) % 2 ^ 52).testBit 51 = true := by
      rw [Nat.testBit_mod_two_pow, Nat.testBit_or, Nat.testBit_two_pow_self]; simp
    rw [g] at h
    simp at h
  have h1 : (t ||| 2 ^ 51) % 2 ^ 52 < 2 ^ 52 := Nat.mod_lt _ (by decide)
  rw [e]
  generalize (t ||| 2 ^ 51) % 2 ^ 52 = q at h0 h1
  obtain ⟨e1, e2⟩ := word_parts s (9218868437227405312 + q) (by omega)
  refine ⟨s, q, ?_⟩
  unfold Format.read
  simp only [e1, e2, c_bn, c_ir]
  rw [if_neg (by omega), if_neg (by omega), if_neg (by omega)]
  have e3 : 9218868437227405312 + q - 9218868437227405312 = q := by omega
  rw [e3]
theorem f64_double : FloatKind.f64.format = double := rfl
theorem nearest_eq (z : Int) : FloatKind.f64.nearest z = double.nearest (decide (z < 0)) z.natAbs 0 := rfl
theorem floor_facts (x : Nat) (hx : x < 18446744073709551616) :
    (FloatKind.f64.format.order x x = none) ∨
    (FloatKind.f64.format.order x x = some .eq ∧ floorW x = x ∧ (FloatKind.f64.format.order x 0 = some .eq ∨
      (FloatKind.f64.format.order x 0 = some .lt ∨ FloatKind.f64.format.order x 0 = some .gt) ∧
        ((FloatKind.f64.format.order x 4890909195324358656 = some .gt ∨ FloatKind.f64.format.order x 4890909195324358656 = some .eq) ∨
          FloatKind.f64.format.order x 4890909195324358656 = some .lt ∧ (FloatKind.f64.format.order x 14114281232179134464 = some .lt ∨ FloatKind.f64.format.order x 14114281232179134464 = some .eq)))) ∨
    (FloatKind.f64.format.order x x = some .eq ∧ (FloatKind.f64.format.order x 0 = some .lt ∨ FloatKind.f64.format.order x 0 = some .gt) ∧
      FloatKind.f64.format.order x 4890909195324358656 = some .lt ∧ FloatKind.f64.format.order x 14114281232179134464 = some .gt ∧
      ∃ z, floatToIntVal .f64 x .i64 = some z ∧
        (((FloatKind.f64.format.order (FloatKind.f64.nearest z) x = some .eq ∨ FloatKind.f64.format.order (FloatKind.f64.nearest z) x = some .lt) ∧ FloatKind.f64.nearest z = floorW x) ∨
         (FloatKind.f64.format.order (FloatKind.f64.nearest z) x = some .gt ∧ floatBits .sub .f64 (FloatKind.f64.nearest z) 4607182418800017408 = some (floorW x)))) := by
  simp only [f64_double]
  rcases read_cases x hx with ⟨s, t, hr⟩ | ⟨s, hr, hw⟩ | ⟨s, m, k, hc, hr, hw⟩
  · left; unfold Format.order; rw [hr]; rfl
  · right; left
    unfold Format.order floorW
    rw [hr, zero_read, hi_read, lo_read]
    refine ⟨by simp [Datum.order], ?_, Or.inr ?_⟩
    · rw [hw]; rfl
    · cases s <;> simp [Datum.order]
  · right
    have hU := U_pos
    have oxx : double.order x x = some .eq := by
      unfold Format.order; rw [hr, order_num, cmp_eq rfl]
    have ox0 : double.order x 0 = some (compare (vl s (m * 2 ^ k)) 0) := by
      unfold Format.order; rw [hr, zero_read, order_num]; simp [vl]
    have oxh : double.order x 4890909195324358656 = some (compare (vl s (m * 2 ^ k)) (9223372036854775808 * (U : Int))) := by
      unfold Format.order; rw [hr, hi_read, order_num, hi_val]; simp [vl]
    have oxl : double.order x 14114281232179134464 = some (compare (vl s (m * 2 ^ k)) (-(9223372036854775808 * (U : Int)))) := by
      unfold Format.order; rw [hr, lo_read, order_num, hi_val]; simp [vl]
    by_cases hm : m = 0
    · left
      subst hm
      refine ⟨oxx, ?_, Or.inl ?_⟩
      · rw [floor_num hr]
        have hk : k = 0 := by have := hc.low; omega
        subst hk
        simp [nearest_zero, hw]
      · rw [ox0]; cases s <;> simp [vl]
    · have hV : 0 < m * 2 ^ k := Nat.mul_pos (by omega) (Nat.two_pow_pos k)
      have o0 : double.order x 0 = some .lt ∨ double.order x 0 = some .gt := by
        rw [ox0]
        cases s
        · right; rw [cmp_gt]; simp only [vl, Bool.false_eq_true, if_false]; omega
        · left; rw [cmp_lt]; simp only [vl, if_true]; omega
      by_cases hbig : 9223372036854775808 * U ≤ m * 2 ^ k
      · left
        have hk : 1074 ≤ k := by
          refine Nat.le_of_not_lt fun g => ?_
          have := (small_place hc g).1
          omega
        refine ⟨oxx, (floor_int hc hm hr hw (big_place m hk)).1, Or.inr ⟨o0, ?_⟩⟩
        rw [oxh, oxl]
        generalize m * 2 ^ k = V at *
        cases s
        · left
          simp only [vl, Bool.false_eq_true, if_false]
          by_cases g : V = 9223372036854775808 * U
          · right; rw [cmp_eq (by omega)]
          · left; rw [cmp_gt (by omega)]
        · right
          simp only [vl, if_true]
          refine ⟨by rw [cmp_lt (by omega)], ?_⟩
          by_cases g : V = 9223372036854775808 * U
          · right; rw [cmp_eq (by omega)]
          · left; rw [cmp_lt (by omega)]
      · right
        have b1 : vl s (m * 2 ^ k) < 9223372036854775808 * (U : Int) := by
          generalize m * 2 ^ k = V at *
          cases s
          · simp only [vl, Bool.false_eq_true, if_false]; omega
          · simp only [vl, if_true]; omega
        have b2 : -(9223372036854775808 * (U : Int)) < vl s (m * 2 ^ k) := by
          generalize m * 2 ^ k = V at *
          cases s
          · simp only [vl, Bool.false_eq_true, if_false]; omega
          · simp only [vl, if_true]; omega
        refine ⟨oxx, o0, by rw [oxh, cmp_lt b1], by rw [oxl, cmp_gt b2], _, conv_num hr b1 (by omega), ?_⟩
        rw [nearest_eq]
        by_cases hz : m * 2 ^ k % U = 0
        · left
          obtain ⟨f1, f2⟩ := floor_int hc hm hr hw hz
          have hT : m * 2 ^ k / U ≠ 0 := by
            intro g
            have := Nat.div_add_mod (m * 2 ^ k) U
            rw [hz, g] at this
            omega
          have e : double.nearest (decide (vl s (m * 2 ^ k / U) < 0)) (vl s (m * 2 ^ k / U)).natAbs 0 = x := by
            rw [← f2]
            generalize m * 2 ^ k / U = T at *
            cases s
            · simp only [vl, Bool.false_eq_true, if_false]
              have : decide ((T : Int) < 0) = false := by simp
              rw [this]; simp
            · simp only [vl, if_true]
              have : decide (-(T : Int) < 0) = true := by simp; omega
              rw [this]; simp
          rw [e]
          exact ⟨Or.inl oxx, f1.symm⟩
        · have hk : k < 1074 := by
            refine Nat.lt_of_not_le fun g => hz (big_place m g)
          have hT := (small_place hc hk).2
          have hmod := Nat.mod_lt (m * 2 ^ k) hU
          have hdm := Nat.div_add_mod (m * 2 ^ k) U
          rw [Nat.mul_comm] at hdm
          rw [floor_num hr]
          have hb : (m * 2 ^ k % U != 0) = true := by simpa using hz
          rw [hb]
          have ord : ∀ s' : Bool, double.order (double.nearest s' (m * 2 ^ k / U) 0) x = some (compare (vl s' (m * 2 ^ k / U * U)) (vl s (m * 2 ^ k))) := fun s' => by
            obtain ⟨m', k', g1, g2⟩ := int_float s' (m * 2 ^ k / U) (by omega)
            unfold Format.order
            rw [g1, hr, order_num, g2]
          generalize m * 2 ^ k / U = T at *
          generalize m * 2 ^ k % U = R at *
          cases s
          · left
            have e : decide (vl false T < 0) = false := by simp [vl]
            have e2 : (vl false T).natAbs = T := by simp [vl]
            rw [e, e2]
            refine ⟨Or.inr ?_, by simp⟩
            rw [ord false, cmp_lt]
            simp only [vl, Bool.false_eq_true, if_false]
            omega
          · right
            have e2 : (vl true T).natAbs = T := by simp [vl]
            rw [e2]
            refine ⟨?_, ?_⟩
            · rw [ord, cmp_gt]
              cases decide (vl true T < 0) <;> simp only [vl, Bool.false_eq_true, if_false, if_true] <;> omega
            · show double.sub _ _ = _
              rw [less_one _ T ?_ hT]
              · simp
              · by_cases g : T = 0
                · exact Or.inr g
                · left; simp [vl]; omega
theorem zero_cases (x : Nat) (hx : x < 18446744073709551616) :
    (FloatKind.f64.format.order x x = none) ∨
    (FloatKind.f64.format.order x x = some .eq ∧ FloatKind.f64.format.order x 0 = some .eq ∧ (x = 0 ∨ x = 9223372036854775808)) ∨
    (FloatKind.f64.format.order x x = some .eq ∧ (FloatKind.f64.format.order x 0 = some .lt ∨ FloatKind.f64.format.order x 0 = some .gt)) := by
  simp only [f64_double]
  rcases read_cases x hx with ⟨s, t, hr⟩ | ⟨s, hr, hw⟩ | ⟨s, m, k, hc, hr, hw⟩
  · left; unfold Format.order; rw [hr]; rfl
  · right; right
    unfold Format.order
    rw [hr, zero_read]
    refine ⟨by simp [Datum.order], ?_⟩
    cases s <;> simp [Datum.order]
  · right
    have oxx : double.order x x = some .eq := by
      unfold Format.order; rw [hr, order_num, cmp_eq rfl]
    have ox0 : double.order x 0 = some (compare (vl s (m * 2 ^ k)) 0) := by
      unfold Format.order; rw [hr, zero_read, order_num]; simp [vl]
    by_cases hm : m = 0
    · left
      subst hm
      have hk : k = 0 := by have := hc.low; omega
      subst hk
      refine ⟨oxx, by rw [ox0]; cases s <;> simp [vl], ?_⟩
      rw [hw]
      cases s
      · left; rfl
      · right; rfl
    · right
      have hV : 0 < m * 2 ^ k := Nat.mul_pos (by omega) (Nat.two_pow_pos k)
      refine ⟨oxx, ?_⟩
      rw [ox0]
      cases s
      · right; rw [cmp_gt]; simp only [vl, Bool.false_eq_true, if_false]; omega
      · left; rw [cmp_lt]; simp only [vl, if_true]; omega
end Go.Proofs.Ytamcnmnaadpfoaa.Flt
