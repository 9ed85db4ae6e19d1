import Derived.Test.YtndpgnmicikaaaaVau
namespace Go.Proofs.Ytndpgnmicikaaaa
open Go.ChangeShapes Go.WideShapes Go.ChangeAt Go.RowKit
set_option linter.unusedVariables false
set_option maxRecDepth 100000 in
set_option maxHeartbeats 2000000 in
theorem im_ii (a b : Vv) (ka : a.k = 2) (kb : b.k = 2) (w : World) : Calls Try.prog 24 #[vv a, vv b] w fun e w' => e = .returned (.int .i64 (cmpi a.m b.m)) ∧ Grown w w' := by
  have na : nmb a := .inl ka
  have nb : nmb b := .inl kb
  have AI := fun w => im_ints a b na nb w
  rw [dc_t ⟨ka, kb⟩] at AI
  have HC := fun w => im_cmp a.m b.m w
  obtain ⟨k, m, g, x, r⟩ := a
  obtain ⟨l, n, h, y, s⟩ := b
  unfold vv at *
  dsimp only at *
  clear na nb
  subst ka kb
  go_enter Try.func24, Try.ntmps24
  go_wp2_with fail
  refine (AI _).mono ?_
  rintro e w1 ⟨rfl, g1⟩
  have G1 : Hid (Grown w w1) := Grown.trans (by go_grown) g1
  have A1 : Hid (Vc w1 w.heap.size ⟨2, m, g, x, r⟩) := Vc.grown ((Vc.new w 2 m g x r 27).grown (Grown.alloc (Grown.refl _) _ _)) g1
  have B1 : Hid (Vc w1 (w.heap.size + 1) ⟨2, n, h, y, s⟩) := by
    have q := Vc.new (w.alloc (.cells #[.int .i64 2, .int .i64 m, .float .f64 g, .string x, .int .i64 r] 27)) 2 n h y s 27
    rw [World.size_alloc] at q
    exact q.grown g1
  obtain ⟨c0, c1, c2, c3, c4⟩ := (show Vc w1 w.heap.size ⟨2, m, g, x, r⟩ from A1)
  obtain ⟨d0, d1, d2, d3, d4⟩ := (show Vc w1 (w.heap.size + 1) ⟨2, n, h, y, s⟩ from B1)
  clear g1
  go_wp2_with fail
  refine (HC _).mono ?_
  rintro e w9 ⟨rfl, rfl⟩
  go_wp2_with fail
  go_ret
  exact ⟨rfl, G1⟩
set_option maxRecDepth 100000 in
set_option maxHeartbeats 2000000 in
theorem im_if (a b : Vv) (ka : a.k = 2) (kb : b.k = 3) (z : Int) (HZ : ∀ w, Calls Try.prog 41 #[.int .i64 a.m, .float .f64 b.g] w fun e w' => e = .returned (.int .i64 z) ∧ Grown w w') (w : World) : Calls Try.prog 24 #[vv a, vv b] w fun e w' => e = .returned (.int .i64 z) ∧ Grown w w' := by
  have na : nmb a := .inl ka
  have nb : nmb b := .inr kb
  have AI := fun w => im_ints a b na nb w
  rw [dc_f (by omega)] at AI
  obtain ⟨k, m, g, x, r⟩ := a
  obtain ⟨l, n, h, y, s⟩ := b
  unfold vv at *
  dsimp only at *
  clear na nb
  subst ka kb
  go_enter Try.func24, Try.ntmps24
  go_wp2_with fail
  refine (AI _).mono ?_
  rintro e w1 ⟨rfl, g1⟩
  have G1 : Hid (Grown w w1) := Grown.trans (by go_grown) g1
  have A1 : Hid (Vc w1 w.heap.size ⟨2, m, g, x, r⟩) := Vc.grown ((Vc.new w 2 m g x r 27).grown (Grown.alloc (Grown.refl _) _ _)) g1
  have B1 : Hid (Vc w1 (w.heap.size + 1) ⟨3, n, h, y, s⟩) := by
    have q := Vc.new (w.alloc (.cells #[.int .i64 2, .int .i64 m, .float .f64 g, .string x, .int .i64 r] 27)) 3 n h y s 27
    rw [World.size_alloc] at q
    exact q.grown g1
  obtain ⟨c0, c1, c2, c3, c4⟩ := (show Vc w1 w.heap.size ⟨2, m, g, x, r⟩ from A1)
  obtain ⟨d0, d1, d2, d3, d4⟩ := (show Vc w1 (w.heap.size + 1) ⟨3, n, h, y, s⟩ from B1)
  clear g1
  go_wp2_with fail
  refine (HZ _).mono ?_
  rintro e w2 ⟨rfl, g2⟩
  have G2 : Hid (Grown w w2) := Grown.trans G1 g2
  have A2 : Hid (Vc w2 w.heap.size ⟨2, m, g, x, r⟩) := Vc.grown A1 g2
  have B2 : Hid (Vc w2 (w.heap.size + 1) ⟨3, n, h, y, s⟩) := Vc.grown B1 g2
  clear G1 A1 B1 c0 c1 c2 c3 c4 d0 d1 d2 d3 d4
  obtain ⟨c0, c1, c2, c3, c4⟩ := (show Vc w2 w.heap.size ⟨2, m, g, x, r⟩ from A2)
  obtain ⟨d0, d1, d2, d3, d4⟩ := (show Vc w2 (w.heap.size + 1) ⟨3, n, h, y, s⟩ from B2)
  clear g2
  go_wp2_with fail
  go_ret
  exact ⟨rfl, G2⟩
set_option maxRecDepth 100000 in
set_option maxHeartbeats 2000000 in
theorem im_fi (a b : Vv) (ka : a.k = 3) (kb : b.k = 2) (z : Int) (HZ : ∀ w, Calls Try.prog 41 #[.int .i64 b.m, .float .f64 a.g] w fun e w' => e = .returned (.int .i64 z) ∧ Grown w w') (z2 : Int) (HT : ∀ w, Calls Try.prog 42 #[.int .i64 z] w fun e w' => e = .returned (.int .i64 z2) ∧ w' = w) (w : World) : Calls Try.prog 24 #[vv a, vv b] w fun e w' => e = .returned (.int .i64 z2) ∧ Grown w w' := by
  have na : nmb a := .inr ka
  have nb : nmb b := .inl kb
  have AI := fun w => im_ints a b na nb w
  rw [dc_f (by omega)] at AI
  obtain ⟨k, m, g, x, r⟩ := a
  obtain ⟨l, n, h, y, s⟩ := b
  unfold vv at *
  dsimp only at *
  clear na nb
  subst ka kb
  go_enter Try.func24, Try.ntmps24
  go_wp2_with fail
  refine (AI _).mono ?_
  rintro e w1 ⟨rfl, g1⟩
  have G1 : Hid (Grown w w1) := Grown.trans (by go_grown) g1
  have A1 : Hid (Vc w1 w.heap.size ⟨3, m, g, x, r⟩) := Vc.grown ((Vc.new w 3 m g x r 27).grown (Grown.alloc (Grown.refl _) _ _)) g1
  have B1 : Hid (Vc w1 (w.heap.size + 1) ⟨2, n, h, y, s⟩) := by
    have q := Vc.new (w.alloc (.cells #[.int .i64 3, .int .i64 m, .float .f64 g, .string x, .int .i64 r] 27)) 2 n h y s 27
    rw [World.size_alloc] at q
    exact q.grown g1
  obtain ⟨c0, c1, c2, c3, c4⟩ := (show Vc w1 w.heap.size ⟨3, m, g, x, r⟩ from A1)
  obtain ⟨d0, d1, d2, d3, d4⟩ := (show Vc w1 (w.heap.size + 1) ⟨2, n, h, y, s⟩ from B1)
  clear g1
  go_wp2_with fail
  refine (HZ _).mono ?_
  rintro e w2 ⟨rfl, g2⟩
  have G2 : Hid (Grown w w2) := Grown.trans G1 g2
  have A2 : Hid (Vc w2 w.heap.size ⟨3, m, g, x, r⟩) := Vc.grown A1 g2
  have B2 : Hid (Vc w2 (w.heap.size + 1) ⟨2, n, h, y, s⟩) := Vc.grown B1 g2
  clear G1 A1 B1 c0 c1 c2 c3 c4 d0 d1 d2 d3 d4
  obtain ⟨c0, c1, c2, c3, c4⟩ := (show Vc w2 w.heap.size ⟨3, m, g, x, r⟩ from A2)
  obtain ⟨d0, d1, d2, d3, d4⟩ := (show Vc w2 (w.heap.size + 1) ⟨2, n, h, y, s⟩ from B2)
  clear g2
  go_wp2_with fail
  refine (HT _).mono ?_
  rintro e w9 ⟨rfl, rfl⟩
  go_wp2_with fail
  go_ret
  exact ⟨rfl, G2⟩
set_option maxRecDepth 100000 in
set_option maxHeartbeats 2000000 in
theorem im_ff (a b : Vv) (ka : a.k = 3) (kb : b.k = 3) (w : World) : Calls Try.prog 24 #[vv a, vv b] w fun e w' => e = .returned (.int .i64 (odf a.g b.g)) ∧ Grown w w' := by
  have na : nmb a := .inr ka
  have nb : nmb b := .inr kb
  have AI := fun w => im_ints a b na nb w
  rw [dc_f (by omega)] at AI
  have HC := fun w => im_order a.g b.g w
  obtain ⟨k, m, g, x, r⟩ := a
  obtain ⟨l, n, h, y, s⟩ := b
  unfold vv at *
  dsimp only at *
  clear na nb
  subst ka kb
  go_enter Try.func24, Try.ntmps24
  go_wp2_with fail
  refine (AI _).mono ?_
  rintro e w1 ⟨rfl, g1⟩
  have G1 : Hid (Grown w w1) := Grown.trans (by go_grown) g1
  have A1 : Hid (Vc w1 w.heap.size ⟨3, m, g, x, r⟩) := Vc.grown ((Vc.new w 3 m g x r 27).grown (Grown.alloc (Grown.refl _) _ _)) g1
  have B1 : Hid (Vc w1 (w.heap.size + 1) ⟨3, n, h, y, s⟩) := by
    have q := Vc.new (w.alloc (.cells #[.int .i64 3, .int .i64 m, .float .f64 g, .string x, .int .i64 r] 27)) 3 n h y s 27
    rw [World.size_alloc] at q
    exact q.grown g1
  obtain ⟨c0, c1, c2, c3, c4⟩ := (show Vc w1 w.heap.size ⟨3, m, g, x, r⟩ from A1)
  obtain ⟨d0, d1, d2, d3, d4⟩ := (show Vc w1 (w.heap.size + 1) ⟨3, n, h, y, s⟩ from B1)
  clear g1
  go_wp2_with fail
  refine (HC _).mono ?_
  rintro e w9 ⟨rfl, rfl⟩
  go_wp2_with fail
  go_ret
  exact ⟨rfl, G1⟩
theorem fl_self (x : Nat) : FloatKind.f64.format.order x x = none ∨ FloatKind.f64.format.order x x = some .eq := by
  unfold Ieee.Format.order
  rcases Flt.d_self (FloatKind.f64.format.read x) with h | h
  · exact .inl (h.2 _).1
  · exact .inr h.2
theorem fl_nan (x y : Nat) (h : FloatKind.f64.format.order x x = none ∨ FloatKind.f64.format.order y y = none) : FloatKind.f64.format.order x y = none := by
  unfold Ieee.Format.order at *
  rcases h with h | h
  · rcases Flt.d_self (FloatKind.f64.format.read x) with g | g
    · exact (g.2 _).1
    · rw [g.2] at h; cases h
  · rcases Flt.d_self (FloatKind.f64.format.read y) with g | g
    · exact (g.2 _).2
    · rw [g.2] at h; cases h
end Go.Proofs.Ytndpgnmicikaaaa
