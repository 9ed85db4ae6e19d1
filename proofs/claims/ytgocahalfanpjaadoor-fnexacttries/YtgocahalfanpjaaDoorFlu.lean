import GoSem.Core.Float
namespace Go.Proofs.YtgocahalfanpjaaDoor.Flt
open Ieee
theorem c_lp : double.leastPlace = -1074 := by decide
theorem c_bn : double.binade = 4503599627370496 := by decide
theorem c_ir : double.infRung = 9218868437227405312 := by decide
theorem c_sw : double.signWeight = 9223372036854775808 := by decide
/-- the numbers of the format: m times 2 to the (k - 1074) -/
structure Canon (m k : Nat) : Prop where
  lt : m < 9007199254740992
  low : 4503599627370496 ≤ m ∨ k = 0
  le : k ≤ 2045
theorem Canon.rung {m k : Nat} (h : Canon m k) : k * 4503599627370496 + m < 9218868437227405312 := by
  have := h.lt; have := h.le; omega
theorem word_parts (s : Bool) (r : Nat) (h : r < 9223372036854775808) :
    (double.word s r / double.signWeight % 2 == 1) = s ∧ double.word s r % double.signWeight = r := by
  unfold Format.word
  rw [c_sw]
  cases s
  · simp; omega
  · simp; omega
theorem read_word (s : Bool) {m k : Nat} (h : Canon m k) : double.read (double.word s (k * 4503599627370496 + m)) = .number s m ((k : Int) - 1074) := by
  have hr := h.rung
  obtain ⟨e1, e2⟩ := word_parts s (k * 4503599627370496 + m) (by omega)
  have := h.lt; have := h.low; have := h.le
  unfold Format.read
  simp only [e1, e2, c_bn, c_ir, c_lp]
  by_cases hk : k * 4503599627370496 + m < 4503599627370496
  · rw [if_pos hk]
    have : k = 0 := by omega
    subst this
    simp
  · rw [if_neg hk, if_pos hr]
    congr 1
    · omega
    · omega
theorem read_inf (s : Bool) : double.read (double.word s 9218868437227405312) = .infinity s := by
  obtain ⟨e1, e2⟩ := word_parts s 9218868437227405312 (by omega)
  unfold Format.read
  simp only [e1, e2, c_bn, c_ir]
  simp
theorem read_cases (x : Nat) (hx : x < 18446744073709551616) :
    (∃ s t, double.read x = .nan s t) ∨
    (∃ s, double.read x = .infinity s ∧ x = double.word s 9218868437227405312) ∨
    (∃ s m k, Canon m k ∧ double.read x = .number s m ((k : Int) - 1074) ∧ x = double.word s (k * 4503599627370496 + m)) := by
  have hxx : x = double.word (x / 9223372036854775808 % 2 == 1) (x % 9223372036854775808) := by
    unfold Format.word
    rw [c_sw]
    by_cases h : 9223372036854775808 ≤ x
    · have : x / 9223372036854775808 = 1 := by omega
      simp [this]; omega
    · have : x / 9223372036854775808 = 0 := by omega
      simp [this]; omega
  generalize (x / 9223372036854775808 % 2 == 1) = s at hxx
  have hr : x % 9223372036854775808 < 9223372036854775808 := by omega
  generalize x % 9223372036854775808 = r at hxx hr
  subst hxx
  by_cases h1 : r < 9218868437227405312
  · right; right
    by_cases h2 : r < 4503599627370496
    · have hc : Canon r 0 := ⟨by omega, Or.inr rfl, by omega⟩
      refine ⟨s, r, 0, hc, ?_, by simp⟩
      have := read_word s hc
      simpa using this
    · have hc : Canon (4503599627370496 + r % 4503599627370496) (r / 4503599627370496 - 1) := ⟨by omega, Or.inl (by omega), by omega⟩
      have e : (r / 4503599627370496 - 1) * 4503599627370496 + (4503599627370496 + r % 4503599627370496) = r := by omega
      have := read_word s hc
      rw [e] at this
      exact ⟨s, _, _, hc, this, by rw [e]⟩
  · by_cases h3 : r = 9218868437227405312
    · subst h3
      exact Or.inr (Or.inl ⟨s, read_inf s, rfl⟩)
    · left
      obtain ⟨e1, e2⟩ := word_parts s r hr
      refine ⟨s, r - 9218868437227405312, ?_⟩
      unfold Format.read
      simp only [e1, e2, c_bn, c_ir]
      rw [if_neg (by omega), if_neg h1, if_neg h3]
theorem cut_exact (neg : Bool) (n m d : Nat) (h : n = m * 2 ^ d) (hm : m ≠ 0) (way : Toward) : way.cut neg n d = m := by
  have hp : 0 < 2 ^ d := Nat.two_pow_pos d
  have hn : n ≠ 0 := by rw [h]; exact Nat.mul_ne_zero hm (by omega)
  have hl : d ≤ n.log2 := by
    rw [Nat.le_log2 hn, h]
    exact Nat.le_mul_of_pos_left _ (by omega)
  unfold Toward.cut
  have e : min d (n.log2 + 2) = d := by omega
  have eg : 1 <<< min d (n.log2 + 2) = 2 ^ d := by rw [e, Nat.shiftLeft_eq, Nat.one_mul]
  have e1 : n / 2 ^ d = m := by rw [h, Nat.mul_div_cancel _ hp]
  have e2 : n % 2 ^ d = 0 := by rw [h, Nat.mul_mod_left]
  simp only [eg, e1, e2]
  cases way <;> simp
theorem log2_mul_pow {n : Nat} (h : n ≠ 0) (d : Nat) : (n * 2 ^ d).log2 = n.log2 + d := by
  induction d with
  | zero => simp
  | succ d ih =>
    have e : n * 2 ^ (d + 1) = 2 * (n * 2 ^ d) := by rw [Nat.pow_succ]; simp only [Nat.mul_comm, Nat.mul_left_comm]
    rw [e, Nat.log2_two_mul (Nat.mul_ne_zero h (by have := Nat.two_pow_pos d; omega)), ih]
    omega
/-- a number that the format has is written as itself, however it is spelt -/
theorem nearest_exact (s : Bool) {m k : Nat} (h : Canon m k) (mag : Nat) (place : Int) (hm : m ≠ 0)
    (he : (∃ d : Nat, place = (k : Int) - 1074 + d ∧ m = mag * 2 ^ d) ∨ (∃ d : Nat, place = (k : Int) - 1074 - d ∧ mag = m * 2 ^ d)) :
    double.nearest s mag place = double.word s (k * 4503599627370496 + m) := by
  have h0 := h.lt; have h1 := h.low; have h2 := h.le
  have hmag : mag ≠ 0 := by
    rcases he with ⟨d, _, e⟩ | ⟨d, _, e⟩
    · intro hz; rw [hz] at e; simp at e; exact hm e
    · rw [e]; exact Nat.mul_ne_zero hm (by have := Nat.two_pow_pos d; omega)
  have hlog : place + mag.log2 = (k : Int) - 1074 + m.log2 := by
    rcases he with ⟨d, e, f⟩ | ⟨d, e, f⟩
    · have : m.log2 = mag.log2 + d := by rw [f, log2_mul_pow hmag]
      omega
    · have : mag.log2 = m.log2 + d := by rw [f, log2_mul_pow hm]
      omega
  have hl53 : m.log2 < 53 := (Nat.log2_lt hm).2 (by omega)
  have hl52 : 4503599627370496 ≤ m → m.log2 = 52 := fun g => by
    have : 52 ≤ m.log2 := (Nat.le_log2 hm).2 (by omega)
    omega
  unfold Format.nearest
  rw [if_neg hmag]
  have ef : double.fractionBits = 52 := rfl
  have elast : max (place + mag.log2 - (double.fractionBits : Int)) double.leastPlace = (k : Int) - 1074 := by
    rw [c_lp, ef, hlog]
    rcases h1 with g | g
    · rw [hl52 g]; omega
    · omega
  simp only [elast]
  simp only [c_lp, c_bn, c_ir]
  have ek : Toward.even.cut s (mag <<< (place - ((k : Int) - 1074)).toNat) ((k : Int) - 1074 - place).toNat = m := by
    rcases he with ⟨d, e, f⟩ | ⟨d, e, f⟩
    · have e1 : (place - ((k : Int) - 1074)).toNat = d := by omega
      have e2 : ((k : Int) - 1074 - place).toNat = 0 := by omega
      rw [e1, e2]
      exact cut_exact s _ m 0 (by rw [Nat.shiftLeft_eq, ← f]; simp) hm _
    · have e1 : (place - ((k : Int) - 1074)).toNat = 0 := by omega
      have e2 : ((k : Int) - 1074 - place).toNat = d := by omega
      rw [e1, e2]
      exact cut_exact s _ m d (by rw [Nat.shiftLeft_eq, f]; simp) hm _
  rw [ek]
  congr 1
  have := h.rung
  omega
end Go.Proofs.YtgocahalfanpjaaDoor.Flt
