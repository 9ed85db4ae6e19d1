import Derived.Test.YtabffkfoafcmpabDoorPar
namespace Go.Proofs.YtabffkfoafcmpabDoor
open Go.ChangeShapes Go.WideShapes Go.ChangeAt Go.RowKit
set_option linter.unusedVariables false
theorem lt_of_cell {w : World} {b off : Nat} {v : Value} (h : w.cell? ⟨b, off, none⟩ = some v) : b < w.heap.size := by
  refine Nat.lt_of_not_le fun g => ?_
  have e : w.heap[b]? = none := Array.getElem?_eq_none_iff.2 g
  simp [World.cell?, e] at h
/-- the table lies there -/
structure Tab (w : World) : Prop where
  lt : 1 < w.heap.size
  at_ : TabAt 1 Lib.deBruijn64tab w
theorem Tab.grown {a b : World} (h : Tab a) (g : Grown a b) : Tab b := by
  refine ⟨Nat.lt_of_lt_of_le h.lt g.2.2, fun j hj => ?_⟩
  rw [World.keptBut.cell g.1 h.lt (fun f => f)]
  exact h.at_ j hj
theorem tz (m o t : Nat) (h0 : m ≠ 0) (h : m < 18446744073709551616) (HO : m = o * 2 ^ t) (ho : o % 2 = 1) (w : World) (hT : Tab w) :
    Calls Tryd.prog 15 #[.int .u64 (m : Int)] w fun e w' => e = .returned (.int .i64 (t : Int)) ∧ w' = w := by
  have := Any7.bits_TrailingZeros64 Tryd.lays729 m h w (fun _ => hT.at_)
  obtain ⟨t', o', e1, e2, e3, _⟩ := ctz_spec m h0 h
  have e4 := odd_unique (HO.symm.trans e2) ho e3
  rw [e1, ← e4.2] at this
  exact this
theorem from_ext (n : Int) (w : World) : (callFunc 29 #[.int .u64 n]).run Tryd.prog w = .ok (.value (.float .f64 n.toNat)) w := by
  rw [run_callFunc_extern (e := Extern.MathFloatBits.float64frombits) Tryd.func29 (by kernel_rfl) (by kernel_rfl) (by kernel_rfl) (by kernel_rfl)]
  rfl
/-- the bits of a word, taken apart -/
theorem word_bits (s : Bool) (E M : Nat) (hE : E ≤ 2047) (hM : M < 4503599627370496) (x : Nat) (hx : x = Ieee.double.word s (E * 4503599627370496 + M)) :
    bits .andNot .u64 (x : Int) 9223372036854775808 = ((E * 4503599627370496 + M : Nat) : Int) ∧ bits .and .u64 ((x : Int) / 4503599627370496) 2047 = (E : Int) ∧ bits .and .u64 (x : Int) 4503599627370495 = (M : Int) ∧
      decide (wrap64 (x : Int) < 0) = s := by
  have hx2 : x < 18446744073709551616 ∧ x % 9223372036854775808 = E * 4503599627370496 + M ∧ decide (9223372036854775808 ≤ x) = s := by
    have hr : E * 4503599627370496 + M < 9223372036854775808 := by omega
    unfold Ieee.Format.word at hx
    rw [Flt.c_sw] at hx
    cases s
    · simp at hx; refine ⟨by omega, by omega, by simp; omega⟩
    · simp at hx; refine ⟨by omega, by omega, by simp; omega⟩
  obtain ⟨h1, h2, h3⟩ := hx2
  clear hx
  refine ⟨?_, ?_, ?_, ?_⟩
  · have e := Go.u64_andNot_nat x 9223372036854775808 h1 (by omega)
    have e2 : ((9223372036854775808 : Nat) : Int) = 9223372036854775808 := rfl
    rw [e2] at e
    have h4 := Nat.and_two_pow_sub_one_eq_mod x 63
    have e3 : (18446744073709551615 - 9223372036854775808 : Nat) = 2 ^ 63 - 1 := by decide
    rw [e, e3, h4]
    have e5 : (2 ^ 63 : Nat) = 9223372036854775808 := by decide
    rw [e5, h2]
  · have e : ((x : Int) / 4503599627370496) = ((x / 4503599627370496 : Nat) : Int) := by omega
    have e2 : (2047 : Int) = ((2047 : Nat) : Int) := rfl
    rw [e, e2, Go.u64_and_nat _ _ (by omega) (by omega)]
    have := Nat.and_two_pow_sub_one_eq_mod (x / 4503599627370496) 11
    rw [show (2 ^ 11 - 1 : Nat) = 2047 from rfl] at this
    rw [this]
    congr 1
    omega
  · have e2 : (4503599627370495 : Int) = ((4503599627370495 : Nat) : Int) := rfl
    rw [e2, Go.u64_and_nat _ _ (by omega) (by omega)]
    have := Nat.and_two_pow_sub_one_eq_mod x 52
    rw [show (2 ^ 52 - 1 : Nat) = 4503599627370495 from rfl] at this
    rw [this]
    congr 1
    omega
  · rw [← h3]
    rw [Bool.eq_iff_iff]
    simp only [decide_eq_true_eq]
    unfold wrap64
    omega
theorem signbit (x : Nat) (s : Bool) (q4 : decide (wrap64 (x : Int) < 0) = s) (w : World) : Calls Tryd.prog 11 #[.float .f64 x] w fun e w' => e = .returned (.bool s) ∧ w' = w := by
  have hb := bits_ext
  go_enter Tryd.func11, Tryd.ntmps11
  go_wp2
  go_ret
  exact ⟨rfl, rfl⟩
theorem is_inf (x r : Nat) (b : Bool) (q1 : bits .andNot .u64 (x : Int) 9223372036854775808 = (r : Int)) (hmax : (FloatKind.f64.format.order r 9218868437227405311 == some .gt) = b) (w : World) :
    Calls Tryd.prog 13 #[.float .f64 x, .int .i64 0] w fun e w' => e = .returned (.bool b) ∧ w' = w := by
  have hb := bits_ext
  have hx := from_ext
  go_enter Tryd.func13, Tryd.ntmps13
  go_wp2
  go_ret
  exact ⟨rfl, rfl⟩
theorem stored_sub (x M : Nat) (q2 : bits .and .u64 ((x : Int) / 4503599627370496) 2047 = 0) (q3 : bits .and .u64 (x : Int) 4503599627370495 = (M : Int)) (w : World) :
    Calls Tryd.prog 14 #[.float .f64 x] w fun e w' => e = .returned (.tuple #[.int .u64 (M : Int), .int .i64 (-1074)]) ∧ w' = w := by
  have hb := bits_ext
  go_enter Tryd.func14, Tryd.ntmps14
  go_wp2
  go_ret2
  exact ⟨rfl, rfl⟩
theorem stored_norm (x M E m : Nat) (q2 : bits .and .u64 ((x : Int) / 4503599627370496) 2047 = (E : Int)) (q3 : bits .and .u64 (x : Int) 4503599627370495 = (M : Int)) (hE1 : E ≤ 2046) (hE0 : ((E : Int) == 0) = false) (ho5 : bits .or .u64 (M : Int) 4503599627370496 = (m : Int)) (w : World) :
    Calls Tryd.prog 14 #[.float .f64 x] w fun e w' => e = .returned (.tuple #[.int .u64 (m : Int), .int .i64 ((E : Int) - 1 + -1074)]) ∧ w' = w := by
  have hb := bits_ext
  go_enter Tryd.func14, Tryd.ntmps14
  go_wp2
  go_ret2
  exact ⟨rfl, rfl⟩
theorem impl_parts (x m o t : Nat) (X0 : Int) (s : Bool) (hself : FloatKind.f64.format.order x x = some .eq) (hzero : FloatKind.f64.format.order x 0 = some .lt ∨ FloatKind.f64.format.order x 0 = some .gt)
    (h11 : ∀ w, Calls Tryd.prog 11 #[.float .f64 x] w fun e w' => e = .returned (.bool s) ∧ w' = w)
    (h13 : ∀ w, Calls Tryd.prog 13 #[.float .f64 x, .int .i64 0] w fun e w' => e = .returned (.bool false) ∧ w' = w)
    (h14 : ∀ w, Calls Tryd.prog 14 #[.float .f64 x] w fun e w' => e = .returned (.tuple #[.int .u64 (m : Int), .int .i64 X0]) ∧ w' = w)
    (h15 : ∀ w, Tab w → Calls Tryd.prog 15 #[.int .u64 (m : Int)] w fun e w' => e = .returned (.int .i64 (t : Int)) ∧ w' = w)
    (hsh : (m : Int) / 2 ^ t = (o : Int)) (ho2 : (o : Int) ≤ 9007199254740991) (ht : t < 64) (hX1 : -2000 ≤ X0) (hX2 : X0 ≤ 2000) (w : World) (hT : Tab w) :
    Calls Tryd.prog 6 #[.float .f64 x] w fun e w' => e = .returned (.agg #[.int .i64 1, .bool s, .int .i64 o, .int .i64 (X0 + (t : Int))]) ∧ Grown w w' := by
  have H11 := h11
  rcases hzero with hzero | hzero
  all_goals
    go_enter Tryd.func6, Tryd.ntmps6
    go_wp2_with fail
    refine (h11 _).mono ?_
    rintro e w1 ⟨rfl, rfl⟩
    go_wp2_with fail
    go_in
    go_wp2_with fail
    refine (h13 _).mono ?_
    rintro e w2 ⟨rfl, rfl⟩
    go_wp2_with fail
    refine (h14 _).mono ?_
    rintro e w3 ⟨rfl, rfl⟩
    go_wp2_with fail
    refine (h15 _ (hT.grown (by go_grown))).mono ?_
    rintro e w4 ⟨rfl, rfl⟩
    clear h11 h13 h14 h15 H11
    go_wp2_with fail
    go_returns
    exact ⟨rfl, by go_grown⟩
theorem spec_nan (x : Nat) (hn : FloatKind.f64.format.order x x = none) (w : World) : Calls Tryd.prog 5 #[.float .f64 x] w fun e w' => e = .returned (.agg #[.int .i64 3, .bool false, .int .i64 0, .int .i64 0]) ∧ Grown w w' := by
  go_enter Tryd.func5, Tryd.ntmps5
  go_wp2
  go_returns
  exact ⟨rfl, by go_grown⟩
theorem impl_nan (x : Nat) (hn : FloatKind.f64.format.order x x = none) (w : World) : Calls Tryd.prog 6 #[.float .f64 x] w fun e w' => e = .returned (.agg #[.int .i64 3, .bool false, .int .i64 0, .int .i64 0]) ∧ Grown w w' := by
  have hb := bits_ext
  go_enter Tryd.func6, Tryd.ntmps6
  go_wp2
  go_returns
  exact ⟨rfl, by go_grown⟩
theorem spec_zero (x : Nat) (s : Bool) (hn : FloatKind.f64.format.order x x = some .eq) (hraw : ∀ w, Calls Tryd.prog 10 #[.float .f64 x] w fun e w' => e = .returned (.tuple #[.bool s, .int .u64 0]) ∧ w' = w) (w : World) :
    Calls Tryd.prog 5 #[.float .f64 x] w fun e w' => e = .returned (.agg #[.int .i64 0, .bool s, .int .i64 0, .int .i64 0]) ∧ Grown w w' := by
  go_enter Tryd.func5, Tryd.ntmps5
  go_wp2_with fail
  refine (hraw _).mono ?_
  rintro e w' ⟨rfl, rfl⟩
  clear hraw
  go_wp2_with fail
  go_returns
  exact ⟨rfl, by go_grown⟩
theorem spec_inf (x : Nat) (s : Bool) (hn : FloatKind.f64.format.order x x = some .eq) (hraw : ∀ w, Calls Tryd.prog 10 #[.float .f64 x] w fun e w' => e = .returned (.tuple #[.bool s, .int .u64 9218868437227405312]) ∧ w' = w) (w : World) :
    Calls Tryd.prog 5 #[.float .f64 x] w fun e w' => e = .returned (.agg #[.int .i64 2, .bool s, .int .i64 0, .int .i64 0]) ∧ Grown w w' := by
  go_enter Tryd.func5, Tryd.ntmps5
  go_wp2_with fail
  refine (hraw _).mono ?_
  rintro e w' ⟨rfl, rfl⟩
  clear hraw
  go_wp2_with fail
  go_returns
  exact ⟨rfl, by go_grown⟩
theorem impl_kind (x : Nat) (s b : Bool) (k : Int) (hself : FloatKind.f64.format.order x x = some .eq)
    (h11 : ∀ w, Calls Tryd.prog 11 #[.float .f64 x] w fun e w' => e = .returned (.bool s) ∧ w' = w)
    (h13 : ∀ w, Calls Tryd.prog 13 #[.float .f64 x, .int .i64 0] w fun e w' => e = .returned (.bool b) ∧ w' = w)
    (hk : b = true ∧ k = 2 ∨ b = false ∧ k = 0 ∧ FloatKind.f64.format.order x 0 = some .eq) (w : World) :
    Calls Tryd.prog 6 #[.float .f64 x] w fun e w' => e = .returned (.agg #[.int .i64 k, .bool s, .int .i64 0, .int .i64 0]) ∧ Grown w w' := by
  rcases hk with ⟨rfl, rfl⟩ | ⟨rfl, rfl, hz⟩
  all_goals
    go_enter Tryd.func6, Tryd.ntmps6
    go_wp2_with fail
    refine (h11 _).mono ?_
    rintro e w1 ⟨rfl, rfl⟩
    go_wp2_with fail
    go_in
    go_wp2_with fail
    refine (h13 _).mono ?_
    rintro e w2 ⟨rfl, rfl⟩
    clear h11 h13
    go_wp2_with fail
    go_returns
    exact ⟨rfl, by go_grown⟩
theorem eq_parts (a c d : Int) (b : Bool) (w : World) :
    Calls Tryd.prog 7 #[.agg #[.int .i64 a, .bool b, .int .i64 c, .int .i64 d], .agg #[.int .i64 a, .bool b, .int .i64 c, .int .i64 d]] w fun e w' => e = .returned (.bool true) ∧ Grown w w' := by
  go_enter Tryd.func7, Tryd.ntmps7
  go_wp2
  go_ret
  exact ⟨rfl, by go_grown⟩
/-- what both answer -/
theorem parts_any (x : Nat) (hx : x < 18446744073709551616) : ∃ (a c d : Int) (b : Bool),
    (∀ w, Calls Tryd.prog 5 #[.float .f64 x] w fun e w' => e = .returned (.agg #[.int .i64 a, .bool b, .int .i64 c, .int .i64 d]) ∧ Grown w w') ∧
    (∀ w, Tab w → Calls Tryd.prog 6 #[.float .f64 x] w fun e w' => e = .returned (.agg #[.int .i64 a, .bool b, .int .i64 c, .int .i64 d]) ∧ Grown w w') := by
  rcases Flt.read_cases x hx with ⟨s, t, hr⟩ | ⟨s, hr, hw⟩ | ⟨s, m, k, hc, hr, hw⟩
  · have hn : FloatKind.f64.format.order x x = none := Flt.order_nan ⟨s, t, hr⟩
    exact ⟨3, 0, 0, false, spec_nan x hn, fun w _ => impl_nan x hn w⟩
  · have hself : FloatKind.f64.format.order x x = some .eq := by subst hw; cases s <;> decide
    obtain ⟨q1, _, _, q4⟩ := word_bits s 2047 0 (by omega) (by omega) x hw
    have hraw : ∀ w, Calls Tryd.prog 10 #[.float .f64 x] w fun e w' => e = .returned (.tuple #[.bool s, .int .u64 9218868437227405312]) ∧ w' = w := by
      subst hw
      cases s
      · exact raw_inf
      · exact raw_neginf
    exact ⟨2, 0, 0, s, spec_inf x s hself hraw, fun w _ => impl_kind x s true 2 hself (signbit x s q4) (is_inf x _ true q1 (by decide)) (Or.inl ⟨rfl, rfl⟩) w⟩
  · have hself := Flt.ord_self s hc
    rw [← hw] at hself
    by_cases hm : m = 0
    · subst hm
      have hk : k = 0 := by have := hc.low; omega
      subst hk
      obtain ⟨q1, _, _, q4⟩ := word_bits s 0 0 (by omega) (by omega) x hw
      have hz : FloatKind.f64.format.order x 0 = some .eq := by subst hw; cases s <;> decide
      have hraw : ∀ w, Calls Tryd.prog 10 #[.float .f64 x] w fun e w' => e = .returned (.tuple #[.bool s, .int .u64 0]) ∧ w' = w := by
        subst hw
        cases s
        · exact raw_zero
        · exact raw_negzero
      exact ⟨0, 0, 0, s, spec_zero x s hself hraw, fun w _ => impl_kind x s false 0 hself (signbit x s q4) (is_inf x _ false q1 (by decide)) (Or.inr ⟨rfl, rfl, hz⟩) w⟩
    · have hzero := Flt.ord_zero s hc hm
      rw [← hw] at hzero
      have hzero2 : FloatKind.f64.format.order x 0 = some .lt ∨ FloatKind.f64.format.order x 0 = some .gt := by
        rw [hzero]; cases s <;> simp
      have hmax := Flt.ord_max hc
      rw [Flt.F_word hc] at hmax
      have hraw := fun w => raw_num s m k hc hm w
      rw [← hw] at hraw
      have hmlt := hc.lt
      obtain ⟨t, o, _, HO, ho, ht⟩ := ctz_spec m hm (by omega)
      have hsh : (m : Int) / 2 ^ t = (o : Int) := by
        have : ((m : Nat) : Int) / 2 ^ t = ((m / 2 ^ t : Nat) : Int) := by simp
        rw [this, HO, Nat.mul_div_cancel _ (Nat.two_pow_pos t)]
      have ho2 : (o : Int) ≤ 9007199254740991 := by
        have : o * 1 ≤ o * 2 ^ t := Nat.mul_le_mul_left _ Nat.one_le_two_pow
        omega
      obtain ⟨E, M, hE, hM, hR, hE0, hE1⟩ := size_parts hc hm
      rw [hR] at hraw hw
      have hmax2 : (FloatKind.f64.format.order (E * 4503599627370496 + M) 9218868437227405311 == some .gt) = false := by
        rw [hR] at hmax
        have hmax3 : FloatKind.f64.format.order (E * 4503599627370496 + M) 9218868437227405311 = some .lt ∨ FloatKind.f64.format.order (E * 4503599627370496 + M) 9218868437227405311 = some .eq := hmax
        rcases hmax3 with g | g <;> rw [g] <;> decide
      obtain ⟨q1, q2, q3, q4⟩ := word_bits s E M (by omega) hM x hw
      have hRz : (((E * 4503599627370496 + M : Nat) : Int) == 0) = false := by simp; omega
      have hRE : ((E * 4503599627370496 + M : Nat) : Int) / 4503599627370496 = (E : Int) := by omega
      have hRM := and52 E M (by omega) hM
      by_cases h0 : E = 0
      · obtain ⟨g1, g2⟩ := hE0 h0
        subst h0
        refine ⟨1, o, -1074 + t, s, fun w => parts_sub x s _ 0 M m o t hself hraw hRz hRE hRM hM g1 (by omega) hmlt HO ho w, fun w hT => ?_⟩
        have h14 := stored_sub x M q2 q3
        rw [← g1] at h14
        exact impl_parts x m o t (-1074) s hself hzero2 (signbit x s q4) (is_inf x _ false q1 hmax2) h14 (fun w hw => tz m o t hm (by omega) HO ho w hw) hsh ho2 ht (by omega) (by omega) w hT
      · obtain ⟨g1, g2⟩ := hE1 h0
        have ho5 := or52b M hM
        refine ⟨1, o, (E : Int) - 1075 + t, s, fun w => parts_norm x s _ E M m o t hself hraw hRz hRE hRM hM hE (by omega) ho5 g1 (by omega) hmlt HO ho w, fun w hT => ?_⟩
        rw [← g1] at ho5
        have h14 := stored_norm x M E m q2 q3 hE (by simp; omega) ho5
        have e : (E : Int) - 1075 = (E : Int) - 1 + -1074 := by omega
        rw [e]
        exact impl_parts x m o t _ s hself hzero2 (signbit x s q4) (is_inf x _ false q1 hmax2) h14 (fun w hw => tz m o t hm (by omega) HO ho w hw) hsh ho2 ht (by omega) (by omega) w hT
theorem law_parts (x : Nat) (hx : x < 18446744073709551616) (w : World) (hT : Tab w) :
    Calls Tryd.prog 3 #[.float .f64 x] w fun e w' => e = .returned (.bool true) ∧ Grown w w' := by
  obtain ⟨a, c, d, b, h5, h6⟩ := parts_any x hx
  go_enter Tryd.func3, Tryd.ntmps3
  go_wp2_with fail
  refine (h5 _).mono ?_
  rintro e w1 ⟨rfl, g1⟩
  go_wp2_with fail
  refine (h6 _ (hT.grown (Grown.alloc g1 _ _))).mono ?_
  rintro e w2 ⟨rfl, g2⟩
  have hz : w1.heap.size < w2.heap.size := by have := g2.2.2; simp at this; omega
  have hk : ∀ j, w2.cell? ⟨w1.heap.size, j, none⟩ = (w1.alloc (Obj.cells #[Value.int IntKind.i64 a, Value.bool b, Value.int IntKind.i64 c, Value.int IntKind.i64 d] 24)).cell? ⟨w1.heap.size, j, none⟩ :=
    fun j => World.keptBut.cell g2.1 (by simp) (fun f => f)
  have k0 : w2.cell? ⟨w1.heap.size, 0, none⟩ = some (.int .i64 a) := by rw [hk]; simp
  have k1 : w2.cell? ⟨w1.heap.size, 1, none⟩ = some (.bool b) := by rw [hk]; simp
  have k2 : w2.cell? ⟨w1.heap.size, 2, none⟩ = some (.int .i64 c) := by rw [hk]; simp
  have k3 : w2.cell? ⟨w1.heap.size, 3, none⟩ = some (.int .i64 d) := by rw [hk]; simp
  clear hk h5 h6
  go_wp2_with fail
  refine (eq_parts _ _ _ _ _).mono ?_
  rintro e w3 ⟨rfl, g3⟩
  go_wp2_with fail
  go_ret
  exact ⟨rfl, Grown.trans (Grown.alloc (Grown.trans (Grown.alloc g1 _ _) g2) _ _) g3⟩
end Go.Proofs.YtabffkfoafcmpabDoor
