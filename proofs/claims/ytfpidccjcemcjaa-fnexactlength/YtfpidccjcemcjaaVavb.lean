import Derived.Test.YtfpidccjcemcjaaVau
namespace Go.Proofs.Ytfpidccjcemcjaa
open Go.ChangeShapes Go.WideShapes Go.ChangeAt Go.RowKit
set_option linter.unusedVariables false
set_option maxRecDepth 100000 in
set_option maxHeartbeats 2000000 in
theorem sp_fi_m (a b : Vv) (ha : vok a) (hb : vok b) (hxa : (a.x.size : Int) ≤ 1048576) (hxb : (b.x.size : Int) ≤ 1048576) (ka : a.k = 3) (kb : b.k = 2) (hn : FloatKind.f64.format.order a.g a.g = some .eq) (HZ : ∀ w, Calls Try.prog 80 #[.int .i64 b.m, .float .f64 a.g] w fun e w' => e = .returned (.int .i64 (-1)) ∧ Grown w w') (w : World) : Calls Try.prog 64 #[vv a, vv b] w fun e w' => e = .returned (.int .i64 (1)) ∧ Grown w w' := by
  have OA := fun w => sp_ok a hxa w
  rw [dc_t ha] at OA
  have OB := fun w => sp_ok b hxb w
  rw [dc_t hb] at OB
  have na : nmb a := .inr ka
  have nb : nmb b := .inl kb
  have NA := fun w => sp_num a w
  rw [dc_t na] at NA
  have NB := fun w => sp_num b w
  rw [dc_t nb] at NB
  have FA := fun w => sp_nan_f a.g hn w
  obtain ⟨k, m, g, x, r⟩ := a
  obtain ⟨l, n, h, y, s⟩ := b
  unfold vv at *
  dsimp only at *
  clear ha hb na nb hxa hxb
  subst ka kb
  go_enter Try.func64, Try.ntmps64
  go_wp2_with fail
  refine (OA _).mono ?_
  rintro e w1 ⟨rfl, g1⟩
  have G1 : Hid (Grown w w1) := Grown.trans (by go_grown) g1
  have A1 : Hid (Vc w1 w.heap.size ⟨3, m, g, x, r⟩) := Vc.grown ((Vc.new w 3 m g x r 26).grown (Grown.alloc (Grown.refl _) _ _)) g1
  have B1 : Hid (Vc w1 (w.heap.size + 1) ⟨2, n, h, y, s⟩) := by
    have q := Vc.new (w.alloc (.cells #[.int .i64 3, .int .i64 m, .float .f64 g, .string x, .int .i64 r] 26)) 2 n h y s 26
    rw [World.size_alloc] at q
    exact q.grown g1
  obtain ⟨c0, c1, c2, c3, c4⟩ := (show Vc w1 w.heap.size ⟨3, m, g, x, r⟩ from A1)
  obtain ⟨d0, d1, d2, d3, d4⟩ := (show Vc w1 (w.heap.size + 1) ⟨2, n, h, y, s⟩ from B1)
  clear g1
  go_wp2_with fail
  refine (OB _).mono ?_
  rintro e w2 ⟨rfl, g2⟩
  have G2 : Hid (Grown w w2) := Grown.trans G1 g2
  have A2 : Hid (Vc w2 w.heap.size ⟨3, m, g, x, r⟩) := Vc.grown A1 g2
  have B2 : Hid (Vc w2 (w.heap.size + 1) ⟨2, n, h, y, s⟩) := Vc.grown B1 g2
  clear G1 A1 B1 c0 c1 c2 c3 c4 d0 d1 d2 d3 d4
  obtain ⟨c0, c1, c2, c3, c4⟩ := (show Vc w2 w.heap.size ⟨3, m, g, x, r⟩ from A2)
  obtain ⟨d0, d1, d2, d3, d4⟩ := (show Vc w2 (w.heap.size + 1) ⟨2, n, h, y, s⟩ from B2)
  clear g2
  go_wp2_with fail
  refine (NA _).mono ?_
  rintro e w3 ⟨rfl, g3⟩
  have G3 : Hid (Grown w w3) := Grown.trans G2 g3
  have A3 : Hid (Vc w3 w.heap.size ⟨3, m, g, x, r⟩) := Vc.grown A2 g3
  have B3 : Hid (Vc w3 (w.heap.size + 1) ⟨2, n, h, y, s⟩) := Vc.grown B2 g3
  clear G2 A2 B2 c0 c1 c2 c3 c4 d0 d1 d2 d3 d4
  obtain ⟨c0, c1, c2, c3, c4⟩ := (show Vc w3 w.heap.size ⟨3, m, g, x, r⟩ from A3)
  obtain ⟨d0, d1, d2, d3, d4⟩ := (show Vc w3 (w.heap.size + 1) ⟨2, n, h, y, s⟩ from B3)
  clear g3
  go_wp2_with fail
  refine (NB _).mono ?_
  rintro e w4 ⟨rfl, g4⟩
  have G4 : Hid (Grown w w4) := Grown.trans G3 g4
  have A4 : Hid (Vc w4 w.heap.size ⟨3, m, g, x, r⟩) := Vc.grown A3 g4
  have B4 : Hid (Vc w4 (w.heap.size + 1) ⟨2, n, h, y, s⟩) := Vc.grown B3 g4
  clear G3 A3 B3 c0 c1 c2 c3 c4 d0 d1 d2 d3 d4
  obtain ⟨c0, c1, c2, c3, c4⟩ := (show Vc w4 w.heap.size ⟨3, m, g, x, r⟩ from A4)
  obtain ⟨d0, d1, d2, d3, d4⟩ := (show Vc w4 (w.heap.size + 1) ⟨2, n, h, y, s⟩ from B4)
  clear g4
  go_wp2_with fail
  refine (FA _).mono ?_
  rintro e w9 ⟨rfl, rfl⟩
  go_wp2_with fail
  refine (HZ _).mono ?_
  rintro e w5 ⟨rfl, g5⟩
  have G5 : Hid (Grown w w5) := Grown.trans G4 g5
  have A5 : Hid (Vc w5 w.heap.size ⟨3, m, g, x, r⟩) := Vc.grown A4 g5
  have B5 : Hid (Vc w5 (w.heap.size + 1) ⟨2, n, h, y, s⟩) := Vc.grown B4 g5
  clear G4 A4 B4 c0 c1 c2 c3 c4 d0 d1 d2 d3 d4
  obtain ⟨c0, c1, c2, c3, c4⟩ := (show Vc w5 w.heap.size ⟨3, m, g, x, r⟩ from A5)
  obtain ⟨d0, d1, d2, d3, d4⟩ := (show Vc w5 (w.heap.size + 1) ⟨2, n, h, y, s⟩ from B5)
  clear g5
  go_wp2_with fail
  go_ret
  exact ⟨by first | rfl | (simp; done) | (simp [wrap64]; done), G5⟩
set_option maxRecDepth 100000 in
set_option maxHeartbeats 2000000 in
theorem sp_fi_z (a b : Vv) (ha : vok a) (hb : vok b) (hxa : (a.x.size : Int) ≤ 1048576) (hxb : (b.x.size : Int) ≤ 1048576) (ka : a.k = 3) (kb : b.k = 2) (hn : FloatKind.f64.format.order a.g a.g = some .eq) (HZ : ∀ w, Calls Try.prog 80 #[.int .i64 b.m, .float .f64 a.g] w fun e w' => e = .returned (.int .i64 (0)) ∧ Grown w w') (w : World) : Calls Try.prog 64 #[vv a, vv b] w fun e w' => e = .returned (.int .i64 (0)) ∧ Grown w w' := by
  have OA := fun w => sp_ok a hxa w
  rw [dc_t ha] at OA
  have OB := fun w => sp_ok b hxb w
  rw [dc_t hb] at OB
  have na : nmb a := .inr ka
  have nb : nmb b := .inl kb
  have NA := fun w => sp_num a w
  rw [dc_t na] at NA
  have NB := fun w => sp_num b w
  rw [dc_t nb] at NB
  have FA := fun w => sp_nan_f a.g hn w
  obtain ⟨k, m, g, x, r⟩ := a
  obtain ⟨l, n, h, y, s⟩ := b
  unfold vv at *
  dsimp only at *
  clear ha hb na nb hxa hxb
  subst ka kb
  go_enter Try.func64, Try.ntmps64
  go_wp2_with fail
  refine (OA _).mono ?_
  rintro e w1 ⟨rfl, g1⟩
  have G1 : Hid (Grown w w1) := Grown.trans (by go_grown) g1
  have A1 : Hid (Vc w1 w.heap.size ⟨3, m, g, x, r⟩) := Vc.grown ((Vc.new w 3 m g x r 26).grown (Grown.alloc (Grown.refl _) _ _)) g1
  have B1 : Hid (Vc w1 (w.heap.size + 1) ⟨2, n, h, y, s⟩) := by
    have q := Vc.new (w.alloc (.cells #[.int .i64 3, .int .i64 m, .float .f64 g, .string x, .int .i64 r] 26)) 2 n h y s 26
    rw [World.size_alloc] at q
    exact q.grown g1
  obtain ⟨c0, c1, c2, c3, c4⟩ := (show Vc w1 w.heap.size ⟨3, m, g, x, r⟩ from A1)
  obtain ⟨d0, d1, d2, d3, d4⟩ := (show Vc w1 (w.heap.size + 1) ⟨2, n, h, y, s⟩ from B1)
  clear g1
  go_wp2_with fail
  refine (OB _).mono ?_
  rintro e w2 ⟨rfl, g2⟩
  have G2 : Hid (Grown w w2) := Grown.trans G1 g2
  have A2 : Hid (Vc w2 w.heap.size ⟨3, m, g, x, r⟩) := Vc.grown A1 g2
  have B2 : Hid (Vc w2 (w.heap.size + 1) ⟨2, n, h, y, s⟩) := Vc.grown B1 g2
  clear G1 A1 B1 c0 c1 c2 c3 c4 d0 d1 d2 d3 d4
  obtain ⟨c0, c1, c2, c3, c4⟩ := (show Vc w2 w.heap.size ⟨3, m, g, x, r⟩ from A2)
  obtain ⟨d0, d1, d2, d3, d4⟩ := (show Vc w2 (w.heap.size + 1) ⟨2, n, h, y, s⟩ from B2)
  clear g2
  go_wp2_with fail
  refine (NA _).mono ?_
  rintro e w3 ⟨rfl, g3⟩
  have G3 : Hid (Grown w w3) := Grown.trans G2 g3
  have A3 : Hid (Vc w3 w.heap.size ⟨3, m, g, x, r⟩) := Vc.grown A2 g3
  have B3 : Hid (Vc w3 (w.heap.size + 1) ⟨2, n, h, y, s⟩) := Vc.grown B2 g3
  clear G2 A2 B2 c0 c1 c2 c3 c4 d0 d1 d2 d3 d4
  obtain ⟨c0, c1, c2, c3, c4⟩ := (show Vc w3 w.heap.size ⟨3, m, g, x, r⟩ from A3)
  obtain ⟨d0, d1, d2, d3, d4⟩ := (show Vc w3 (w.heap.size + 1) ⟨2, n, h, y, s⟩ from B3)
  clear g3
  go_wp2_with fail
  refine (NB _).mono ?_
  rintro e w4 ⟨rfl, g4⟩
  have G4 : Hid (Grown w w4) := Grown.trans G3 g4
  have A4 : Hid (Vc w4 w.heap.size ⟨3, m, g, x, r⟩) := Vc.grown A3 g4
  have B4 : Hid (Vc w4 (w.heap.size + 1) ⟨2, n, h, y, s⟩) := Vc.grown B3 g4
  clear G3 A3 B3 c0 c1 c2 c3 c4 d0 d1 d2 d3 d4
  obtain ⟨c0, c1, c2, c3, c4⟩ := (show Vc w4 w.heap.size ⟨3, m, g, x, r⟩ from A4)
  obtain ⟨d0, d1, d2, d3, d4⟩ := (show Vc w4 (w.heap.size + 1) ⟨2, n, h, y, s⟩ from B4)
  clear g4
  go_wp2_with fail
  refine (FA _).mono ?_
  rintro e w9 ⟨rfl, rfl⟩
  go_wp2_with fail
  refine (HZ _).mono ?_
  rintro e w5 ⟨rfl, g5⟩
  have G5 : Hid (Grown w w5) := Grown.trans G4 g5
  have A5 : Hid (Vc w5 w.heap.size ⟨3, m, g, x, r⟩) := Vc.grown A4 g5
  have B5 : Hid (Vc w5 (w.heap.size + 1) ⟨2, n, h, y, s⟩) := Vc.grown B4 g5
  clear G4 A4 B4 c0 c1 c2 c3 c4 d0 d1 d2 d3 d4
  obtain ⟨c0, c1, c2, c3, c4⟩ := (show Vc w5 w.heap.size ⟨3, m, g, x, r⟩ from A5)
  obtain ⟨d0, d1, d2, d3, d4⟩ := (show Vc w5 (w.heap.size + 1) ⟨2, n, h, y, s⟩ from B5)
  clear g5
  go_wp2_with fail
  go_ret
  exact ⟨by first | rfl | (simp; done) | (simp [wrap64]; done), G5⟩
set_option maxRecDepth 100000 in
set_option maxHeartbeats 2000000 in
theorem sp_fi_p (a b : Vv) (ha : vok a) (hb : vok b) (hxa : (a.x.size : Int) ≤ 1048576) (hxb : (b.x.size : Int) ≤ 1048576) (ka : a.k = 3) (kb : b.k = 2) (hn : FloatKind.f64.format.order a.g a.g = some .eq) (HZ : ∀ w, Calls Try.prog 80 #[.int .i64 b.m, .float .f64 a.g] w fun e w' => e = .returned (.int .i64 (1)) ∧ Grown w w') (w : World) : Calls Try.prog 64 #[vv a, vv b] w fun e w' => e = .returned (.int .i64 (-1)) ∧ Grown w w' := by
  have OA := fun w => sp_ok a hxa w
  rw [dc_t ha] at OA
  have OB := fun w => sp_ok b hxb w
  rw [dc_t hb] at OB
  have na : nmb a := .inr ka
  have nb : nmb b := .inl kb
  have NA := fun w => sp_num a w
  rw [dc_t na] at NA
  have NB := fun w => sp_num b w
  rw [dc_t nb] at NB
  have FA := fun w => sp_nan_f a.g hn w
  obtain ⟨k, m, g, x, r⟩ := a
  obtain ⟨l, n, h, y, s⟩ := b
  unfold vv at *
  dsimp only at *
  clear ha hb na nb hxa hxb
  subst ka kb
  go_enter Try.func64, Try.ntmps64
  go_wp2_with fail
  refine (OA _).mono ?_
  rintro e w1 ⟨rfl, g1⟩
  have G1 : Hid (Grown w w1) := Grown.trans (by go_grown) g1
  have A1 : Hid (Vc w1 w.heap.size ⟨3, m, g, x, r⟩) := Vc.grown ((Vc.new w 3 m g x r 26).grown (Grown.alloc (Grown.refl _) _ _)) g1
  have B1 : Hid (Vc w1 (w.heap.size + 1) ⟨2, n, h, y, s⟩) := by
    have q := Vc.new (w.alloc (.cells #[.int .i64 3, .int .i64 m, .float .f64 g, .string x, .int .i64 r] 26)) 2 n h y s 26
    rw [World.size_alloc] at q
    exact q.grown g1
  obtain ⟨c0, c1, c2, c3, c4⟩ := (show Vc w1 w.heap.size ⟨3, m, g, x, r⟩ from A1)
  obtain ⟨d0, d1, d2, d3, d4⟩ := (show Vc w1 (w.heap.size + 1) ⟨2, n, h, y, s⟩ from B1)
  clear g1
  go_wp2_with fail
  refine (OB _).mono ?_
  rintro e w2 ⟨rfl, g2⟩
  have G2 : Hid (Grown w w2) := Grown.trans G1 g2
  have A2 : Hid (Vc w2 w.heap.size ⟨3, m, g, x, r⟩) := Vc.grown A1 g2
  have B2 : Hid (Vc w2 (w.heap.size + 1) ⟨2, n, h, y, s⟩) := Vc.grown B1 g2
  clear G1 A1 B1 c0 c1 c2 c3 c4 d0 d1 d2 d3 d4
  obtain ⟨c0, c1, c2, c3, c4⟩ := (show Vc w2 w.heap.size ⟨3, m, g, x, r⟩ from A2)
  obtain ⟨d0, d1, d2, d3, d4⟩ := (show Vc w2 (w.heap.size + 1) ⟨2, n, h, y, s⟩ from B2)
  clear g2
  go_wp2_with fail
  refine (NA _).mono ?_
  rintro e w3 ⟨rfl, g3⟩
  have G3 : Hid (Grown w w3) := Grown.trans G2 g3
  have A3 : Hid (Vc w3 w.heap.size ⟨3, m, g, x, r⟩) := Vc.grown A2 g3
  have B3 : Hid (Vc w3 (w.heap.size + 1) ⟨2, n, h, y, s⟩) := Vc.grown B2 g3
  clear G2 A2 B2 c0 c1 c2 c3 c4 d0 d1 d2 d3 d4
  obtain ⟨c0, c1, c2, c3, c4⟩ := (show Vc w3 w.heap.size ⟨3, m, g, x, r⟩ from A3)
  obtain ⟨d0, d1, d2, d3, d4⟩ := (show Vc w3 (w.heap.size + 1) ⟨2, n, h, y, s⟩ from B3)
  clear g3
  go_wp2_with fail
  refine (NB _).mono ?_
  rintro e w4 ⟨rfl, g4⟩
  have G4 : Hid (Grown w w4) := Grown.trans G3 g4
  have A4 : Hid (Vc w4 w.heap.size ⟨3, m, g, x, r⟩) := Vc.grown A3 g4
  have B4 : Hid (Vc w4 (w.heap.size + 1) ⟨2, n, h, y, s⟩) := Vc.grown B3 g4
  clear G3 A3 B3 c0 c1 c2 c3 c4 d0 d1 d2 d3 d4
  obtain ⟨c0, c1, c2, c3, c4⟩ := (show Vc w4 w.heap.size ⟨3, m, g, x, r⟩ from A4)
  obtain ⟨d0, d1, d2, d3, d4⟩ := (show Vc w4 (w.heap.size + 1) ⟨2, n, h, y, s⟩ from B4)
  clear g4
  go_wp2_with fail
  refine (FA _).mono ?_
  rintro e w9 ⟨rfl, rfl⟩
  go_wp2_with fail
  refine (HZ _).mono ?_
  rintro e w5 ⟨rfl, g5⟩
  have G5 : Hid (Grown w w5) := Grown.trans G4 g5
  have A5 : Hid (Vc w5 w.heap.size ⟨3, m, g, x, r⟩) := Vc.grown A4 g5
  have B5 : Hid (Vc w5 (w.heap.size + 1) ⟨2, n, h, y, s⟩) := Vc.grown B4 g5
  clear G4 A4 B4 c0 c1 c2 c3 c4 d0 d1 d2 d3 d4
  obtain ⟨c0, c1, c2, c3, c4⟩ := (show Vc w5 w.heap.size ⟨3, m, g, x, r⟩ from A5)
  obtain ⟨d0, d1, d2, d3, d4⟩ := (show Vc w5 (w.heap.size + 1) ⟨2, n, h, y, s⟩ from B5)
  clear g5
  go_wp2_with fail
  go_ret
  exact ⟨by first | rfl | (simp; done) | (simp [wrap64]; done), G5⟩
set_option maxRecDepth 100000 in
set_option maxHeartbeats 2000000 in
theorem sp_ff_nana (a b : Vv) (ha : vok a) (hb : vok b) (hxa : (a.x.size : Int) ≤ 1048576) (hxb : (b.x.size : Int) ≤ 1048576) (ka : a.k = 3) (kb : b.k = 3) (hn : FloatKind.f64.format.order a.g a.g = none) (w : World) : Calls Try.prog 64 #[vv a, vv b] w fun e w' => e = .returned (.int .i64 2) ∧ Grown w w' := by
  have OA := fun w => sp_ok a hxa w
  rw [dc_t ha] at OA
  have OB := fun w => sp_ok b hxb w
  rw [dc_t hb] at OB
  have na : nmb a := .inr ka
  have nb : nmb b := .inr kb
  have NA := fun w => sp_num a w
  rw [dc_t na] at NA
  have NB := fun w => sp_num b w
  rw [dc_t nb] at NB
  have FA := fun w => sp_nan_t a.g hn w
  obtain ⟨k, m, g, x, r⟩ := a
  obtain ⟨l, n, h, y, s⟩ := b
  unfold vv at *
  dsimp only at *
  clear ha hb na nb hxa hxb
  subst ka kb
  go_enter Try.func64, Try.ntmps64
  go_wp2_with fail
  refine (OA _).mono ?_
  rintro e w1 ⟨rfl, g1⟩
  have G1 : Hid (Grown w w1) := Grown.trans (by go_grown) g1
  have A1 : Hid (Vc w1 w.heap.size ⟨3, m, g, x, r⟩) := Vc.grown ((Vc.new w 3 m g x r 26).grown (Grown.alloc (Grown.refl _) _ _)) g1
  have B1 : Hid (Vc w1 (w.heap.size + 1) ⟨3, n, h, y, s⟩) := by
    have q := Vc.new (w.alloc (.cells #[.int .i64 3, .int .i64 m, .float .f64 g, .string x, .int .i64 r] 26)) 3 n h y s 26
    rw [World.size_alloc] at q
    exact q.grown g1
  obtain ⟨c0, c1, c2, c3, c4⟩ := (show Vc w1 w.heap.size ⟨3, m, g, x, r⟩ from A1)
  obtain ⟨d0, d1, d2, d3, d4⟩ := (show Vc w1 (w.heap.size + 1) ⟨3, n, h, y, s⟩ from B1)
  clear g1
  go_wp2_with fail
  refine (OB _).mono ?_
  rintro e w2 ⟨rfl, g2⟩
  have G2 : Hid (Grown w w2) := Grown.trans G1 g2
  have A2 : Hid (Vc w2 w.heap.size ⟨3, m, g, x, r⟩) := Vc.grown A1 g2
  have B2 : Hid (Vc w2 (w.heap.size + 1) ⟨3, n, h, y, s⟩) := Vc.grown B1 g2
  clear G1 A1 B1 c0 c1 c2 c3 c4 d0 d1 d2 d3 d4
  obtain ⟨c0, c1, c2, c3, c4⟩ := (show Vc w2 w.heap.size ⟨3, m, g, x, r⟩ from A2)
  obtain ⟨d0, d1, d2, d3, d4⟩ := (show Vc w2 (w.heap.size + 1) ⟨3, n, h, y, s⟩ from B2)
  clear g2
  go_wp2_with fail
  refine (NA _).mono ?_
  rintro e w3 ⟨rfl, g3⟩
  have G3 : Hid (Grown w w3) := Grown.trans G2 g3
  have A3 : Hid (Vc w3 w.heap.size ⟨3, m, g, x, r⟩) := Vc.grown A2 g3
  have B3 : Hid (Vc w3 (w.heap.size + 1) ⟨3, n, h, y, s⟩) := Vc.grown B2 g3
  clear G2 A2 B2 c0 c1 c2 c3 c4 d0 d1 d2 d3 d4
  obtain ⟨c0, c1, c2, c3, c4⟩ := (show Vc w3 w.heap.size ⟨3, m, g, x, r⟩ from A3)
  obtain ⟨d0, d1, d2, d3, d4⟩ := (show Vc w3 (w.heap.size + 1) ⟨3, n, h, y, s⟩ from B3)
  clear g3
  go_wp2_with fail
  refine (NB _).mono ?_
  rintro e w4 ⟨rfl, g4⟩
  have G4 : Hid (Grown w w4) := Grown.trans G3 g4
  have A4 : Hid (Vc w4 w.heap.size ⟨3, m, g, x, r⟩) := Vc.grown A3 g4
  have B4 : Hid (Vc w4 (w.heap.size + 1) ⟨3, n, h, y, s⟩) := Vc.grown B3 g4
  clear G3 A3 B3 c0 c1 c2 c3 c4 d0 d1 d2 d3 d4
  obtain ⟨c0, c1, c2, c3, c4⟩ := (show Vc w4 w.heap.size ⟨3, m, g, x, r⟩ from A4)
  obtain ⟨d0, d1, d2, d3, d4⟩ := (show Vc w4 (w.heap.size + 1) ⟨3, n, h, y, s⟩ from B4)
  clear g4
  go_wp2_with fail
  refine (FA _).mono ?_
  rintro e w9 ⟨rfl, rfl⟩
  go_wp2_with fail
  go_ret
  exact ⟨rfl, G4⟩
set_option maxRecDepth 100000 in
set_option maxHeartbeats 2000000 in
theorem sp_ff_nanb (a b : Vv) (ha : vok a) (hb : vok b) (hxa : (a.x.size : Int) ≤ 1048576) (hxb : (b.x.size : Int) ≤ 1048576) (ka : a.k = 3) (kb : b.k = 3) (hm : FloatKind.f64.format.order a.g a.g = some .eq) (hn : FloatKind.f64.format.order b.g b.g = none) (w : World) : Calls Try.prog 64 #[vv a, vv b] w fun e w' => e = .returned (.int .i64 2) ∧ Grown w w' := by
  have OA := fun w => sp_ok a hxa w
  rw [dc_t ha] at OA
  have OB := fun w => sp_ok b hxb w
  rw [dc_t hb] at OB
  have na : nmb a := .inr ka
  have nb : nmb b := .inr kb
  have NA := fun w => sp_num a w
  rw [dc_t na] at NA
  have NB := fun w => sp_num b w
  rw [dc_t nb] at NB
  have FA := fun w => sp_nan_f a.g hm w
  have FB := fun w => sp_nan_t b.g hn w
  obtain ⟨k, m, g, x, r⟩ := a
  obtain ⟨l, n, h, y, s⟩ := b
  unfold vv at *
  dsimp only at *
  clear ha hb na nb hxa hxb
  subst ka kb
  go_enter Try.func64, Try.ntmps64
  go_wp2_with fail
  refine (OA _).mono ?_
  rintro e w1 ⟨rfl, g1⟩
  have G1 : Hid (Grown w w1) := Grown.trans (by go_grown) g1
  have A1 : Hid (Vc w1 w.heap.size ⟨3, m, g, x, r⟩) := Vc.grown ((Vc.new w 3 m g x r 26).grown (Grown.alloc (Grown.refl _) _ _)) g1
  have B1 : Hid (Vc w1 (w.heap.size + 1) ⟨3, n, h, y, s⟩) := by
    have q := Vc.new (w.alloc (.cells #[.int .i64 3, .int .i64 m, .float .f64 g, .string x, .int .i64 r] 26)) 3 n h y s 26
    rw [World.size_alloc] at q
    exact q.grown g1
  obtain ⟨c0, c1, c2, c3, c4⟩ := (show Vc w1 w.heap.size ⟨3, m, g, x, r⟩ from A1)
  obtain ⟨d0, d1, d2, d3, d4⟩ := (show Vc w1 (w.heap.size + 1) ⟨3, n, h, y, s⟩ from B1)
  clear g1
  go_wp2_with fail
  refine (OB _).mono ?_
  rintro e w2 ⟨rfl, g2⟩
  have G2 : Hid (Grown w w2) := Grown.trans G1 g2
  have A2 : Hid (Vc w2 w.heap.size ⟨3, m, g, x, r⟩) := Vc.grown A1 g2
  have B2 : Hid (Vc w2 (w.heap.size + 1) ⟨3, n, h, y, s⟩) := Vc.grown B1 g2
  clear G1 A1 B1 c0 c1 c2 c3 c4 d0 d1 d2 d3 d4
  obtain ⟨c0, c1, c2, c3, c4⟩ := (show Vc w2 w.heap.size ⟨3, m, g, x, r⟩ from A2)
  obtain ⟨d0, d1, d2, d3, d4⟩ := (show Vc w2 (w.heap.size + 1) ⟨3, n, h, y, s⟩ from B2)
  clear g2
  go_wp2_with fail
  refine (NA _).mono ?_
  rintro e w3 ⟨rfl, g3⟩
  have G3 : Hid (Grown w w3) := Grown.trans G2 g3
  have A3 : Hid (Vc w3 w.heap.size ⟨3, m, g, x, r⟩) := Vc.grown A2 g3
  have B3 : Hid (Vc w3 (w.heap.size + 1) ⟨3, n, h, y, s⟩) := Vc.grown B2 g3
  clear G2 A2 B2 c0 c1 c2 c3 c4 d0 d1 d2 d3 d4
  obtain ⟨c0, c1, c2, c3, c4⟩ := (show Vc w3 w.heap.size ⟨3, m, g, x, r⟩ from A3)
  obtain ⟨d0, d1, d2, d3, d4⟩ := (show Vc w3 (w.heap.size + 1) ⟨3, n, h, y, s⟩ from B3)
  clear g3
  go_wp2_with fail
  refine (NB _).mono ?_
  rintro e w4 ⟨rfl, g4⟩
  have G4 : Hid (Grown w w4) := Grown.trans G3 g4
  have A4 : Hid (Vc w4 w.heap.size ⟨3, m, g, x, r⟩) := Vc.grown A3 g4
  have B4 : Hid (Vc w4 (w.heap.size + 1) ⟨3, n, h, y, s⟩) := Vc.grown B3 g4
  clear G3 A3 B3 c0 c1 c2 c3 c4 d0 d1 d2 d3 d4
  obtain ⟨c0, c1, c2, c3, c4⟩ := (show Vc w4 w.heap.size ⟨3, m, g, x, r⟩ from A4)
  obtain ⟨d0, d1, d2, d3, d4⟩ := (show Vc w4 (w.heap.size + 1) ⟨3, n, h, y, s⟩ from B4)
  clear g4
  go_wp2_with fail
  refine (FA _).mono ?_
  rintro e w9 ⟨rfl, rfl⟩
  go_wp2_with fail
  refine (FB _).mono ?_
  rintro e w9 ⟨rfl, rfl⟩
  go_wp2_with fail
  go_ret
  exact ⟨rfl, G4⟩
set_option maxRecDepth 100000 in
set_option maxHeartbeats 2000000 in
theorem sp_ff_lt (a b : Vv) (ha : vok a) (hb : vok b) (hxa : (a.x.size : Int) ≤ 1048576) (hxb : (b.x.size : Int) ≤ 1048576) (ka : a.k = 3) (kb : b.k = 3) (hm : FloatKind.f64.format.order a.g a.g = some .eq) (hn : FloatKind.f64.format.order b.g b.g = some .eq) (ho : FloatKind.f64.format.order a.g b.g = some .lt) (w : World) : Calls Try.prog 64 #[vv a, vv b] w fun e w' => e = .returned (.int .i64 (-1)) ∧ Grown w w' := by
  have OA := fun w => sp_ok a hxa w
  rw [dc_t ha] at OA
  have OB := fun w => sp_ok b hxb w
  rw [dc_t hb] at OB
  have na : nmb a := .inr ka
  have nb : nmb b := .inr kb
  have NA := fun w => sp_num a w
  rw [dc_t na] at NA
  have NB := fun w => sp_num b w
  rw [dc_t nb] at NB
  have FA := fun w => sp_nan_f a.g hm w
  have FB := fun w => sp_nan_f b.g hn w
  obtain ⟨k, m, g, x, r⟩ := a
  obtain ⟨l, n, h, y, s⟩ := b
  unfold vv at *
  dsimp only at *
  clear ha hb na nb hxa hxb
  subst ka kb
  go_enter Try.func64, Try.ntmps64
  go_wp2_with fail
  refine (OA _).mono ?_
  rintro e w1 ⟨rfl, g1⟩
  have G1 : Hid (Grown w w1) := Grown.trans (by go_grown) g1
  have A1 : Hid (Vc w1 w.heap.size ⟨3, m, g, x, r⟩) := Vc.grown ((Vc.new w 3 m g x r 26).grown (Grown.alloc (Grown.refl _) _ _)) g1
  have B1 : Hid (Vc w1 (w.heap.size + 1) ⟨3, n, h, y, s⟩) := by
    have q := Vc.new (w.alloc (.cells #[.int .i64 3, .int .i64 m, .float .f64 g, .string x, .int .i64 r] 26)) 3 n h y s 26
    rw [World.size_alloc] at q
    exact q.grown g1
  obtain ⟨c0, c1, c2, c3, c4⟩ := (show Vc w1 w.heap.size ⟨3, m, g, x, r⟩ from A1)
  obtain ⟨d0, d1, d2, d3, d4⟩ := (show Vc w1 (w.heap.size + 1) ⟨3, n, h, y, s⟩ from B1)
  clear g1
  go_wp2_with fail
  refine (OB _).mono ?_
  rintro e w2 ⟨rfl, g2⟩
  have G2 : Hid (Grown w w2) := Grown.trans G1 g2
  have A2 : Hid (Vc w2 w.heap.size ⟨3, m, g, x, r⟩) := Vc.grown A1 g2
  have B2 : Hid (Vc w2 (w.heap.size + 1) ⟨3, n, h, y, s⟩) := Vc.grown B1 g2
  clear G1 A1 B1 c0 c1 c2 c3 c4 d0 d1 d2 d3 d4
  obtain ⟨c0, c1, c2, c3, c4⟩ := (show Vc w2 w.heap.size ⟨3, m, g, x, r⟩ from A2)
  obtain ⟨d0, d1, d2, d3, d4⟩ := (show Vc w2 (w.heap.size + 1) ⟨3, n, h, y, s⟩ from B2)
  clear g2
  go_wp2_with fail
  refine (NA _).mono ?_
  rintro e w3 ⟨rfl, g3⟩
  have G3 : Hid (Grown w w3) := Grown.trans G2 g3
  have A3 : Hid (Vc w3 w.heap.size ⟨3, m, g, x, r⟩) := Vc.grown A2 g3
  have B3 : Hid (Vc w3 (w.heap.size + 1) ⟨3, n, h, y, s⟩) := Vc.grown B2 g3
  clear G2 A2 B2 c0 c1 c2 c3 c4 d0 d1 d2 d3 d4
  obtain ⟨c0, c1, c2, c3, c4⟩ := (show Vc w3 w.heap.size ⟨3, m, g, x, r⟩ from A3)
  obtain ⟨d0, d1, d2, d3, d4⟩ := (show Vc w3 (w.heap.size + 1) ⟨3, n, h, y, s⟩ from B3)
  clear g3
  go_wp2_with fail
  refine (NB _).mono ?_
  rintro e w4 ⟨rfl, g4⟩
  have G4 : Hid (Grown w w4) := Grown.trans G3 g4
  have A4 : Hid (Vc w4 w.heap.size ⟨3, m, g, x, r⟩) := Vc.grown A3 g4
  have B4 : Hid (Vc w4 (w.heap.size + 1) ⟨3, n, h, y, s⟩) := Vc.grown B3 g4
  clear G3 A3 B3 c0 c1 c2 c3 c4 d0 d1 d2 d3 d4
  obtain ⟨c0, c1, c2, c3, c4⟩ := (show Vc w4 w.heap.size ⟨3, m, g, x, r⟩ from A4)
  obtain ⟨d0, d1, d2, d3, d4⟩ := (show Vc w4 (w.heap.size + 1) ⟨3, n, h, y, s⟩ from B4)
  clear g4
  go_wp2_with fail
  refine (FA _).mono ?_
  rintro e w9 ⟨rfl, rfl⟩
  go_wp2_with fail
  refine (FB _).mono ?_
  rintro e w9 ⟨rfl, rfl⟩
  go_wp2_with fail
  go_ret
  exact ⟨rfl, G4⟩
set_option maxRecDepth 100000 in
set_option maxHeartbeats 2000000 in
theorem sp_ff_eq (a b : Vv) (ha : vok a) (hb : vok b) (hxa : (a.x.size : Int) ≤ 1048576) (hxb : (b.x.size : Int) ≤ 1048576) (ka : a.k = 3) (kb : b.k = 3) (hm : FloatKind.f64.format.order a.g a.g = some .eq) (hn : FloatKind.f64.format.order b.g b.g = some .eq) (ho : FloatKind.f64.format.order a.g b.g = some .eq) (w : World) : Calls Try.prog 64 #[vv a, vv b] w fun e w' => e = .returned (.int .i64 (0)) ∧ Grown w w' := by
  have OA := fun w => sp_ok a hxa w
  rw [dc_t ha] at OA
  have OB := fun w => sp_ok b hxb w
  rw [dc_t hb] at OB
  have na : nmb a := .inr ka
  have nb : nmb b := .inr kb
  have NA := fun w => sp_num a w
  rw [dc_t na] at NA
  have NB := fun w => sp_num b w
  rw [dc_t nb] at NB
  have FA := fun w => sp_nan_f a.g hm w
  have FB := fun w => sp_nan_f b.g hn w
  obtain ⟨k, m, g, x, r⟩ := a
  obtain ⟨l, n, h, y, s⟩ := b
  unfold vv at *
  dsimp only at *
  clear ha hb na nb hxa hxb
  subst ka kb
  go_enter Try.func64, Try.ntmps64
  go_wp2_with fail
  refine (OA _).mono ?_
  rintro e w1 ⟨rfl, g1⟩
  have G1 : Hid (Grown w w1) := Grown.trans (by go_grown) g1
  have A1 : Hid (Vc w1 w.heap.size ⟨3, m, g, x, r⟩) := Vc.grown ((Vc.new w 3 m g x r 26).grown (Grown.alloc (Grown.refl _) _ _)) g1
  have B1 : Hid (Vc w1 (w.heap.size + 1) ⟨3, n, h, y, s⟩) := by
    have q := Vc.new (w.alloc (.cells #[.int .i64 3, .int .i64 m, .float .f64 g, .string x, .int .i64 r] 26)) 3 n h y s 26
    rw [World.size_alloc] at q
    exact q.grown g1
  obtain ⟨c0, c1, c2, c3, c4⟩ := (show Vc w1 w.heap.size ⟨3, m, g, x, r⟩ from A1)
  obtain ⟨d0, d1, d2, d3, d4⟩ := (show Vc w1 (w.heap.size + 1) ⟨3, n, h, y, s⟩ from B1)
  clear g1
  go_wp2_with fail
  refine (OB _).mono ?_
  rintro e w2 ⟨rfl, g2⟩
  have G2 : Hid (Grown w w2) := Grown.trans G1 g2
  have A2 : Hid (Vc w2 w.heap.size ⟨3, m, g, x, r⟩) := Vc.grown A1 g2
  have B2 : Hid (Vc w2 (w.heap.size + 1) ⟨3, n, h, y, s⟩) := Vc.grown B1 g2
  clear G1 A1 B1 c0 c1 c2 c3 c4 d0 d1 d2 d3 d4
  obtain ⟨c0, c1, c2, c3, c4⟩ := (show Vc w2 w.heap.size ⟨3, m, g, x, r⟩ from A2)
  obtain ⟨d0, d1, d2, d3, d4⟩ := (show Vc w2 (w.heap.size + 1) ⟨3, n, h, y, s⟩ from B2)
  clear g2
  go_wp2_with fail
  refine (NA _).mono ?_
  rintro e w3 ⟨rfl, g3⟩
  have G3 : Hid (Grown w w3) := Grown.trans G2 g3
  have A3 : Hid (Vc w3 w.heap.size ⟨3, m, g, x, r⟩) := Vc.grown A2 g3
  have B3 : Hid (Vc w3 (w.heap.size + 1) ⟨3, n, h, y, s⟩) := Vc.grown B2 g3
  clear G2 A2 B2 c0 c1 c2 c3 c4 d0 d1 d2 d3 d4
  obtain ⟨c0, c1, c2, c3, c4⟩ := (show Vc w3 w.heap.size ⟨3, m, g, x, r⟩ from A3)
  obtain ⟨d0, d1, d2, d3, d4⟩ := (show Vc w3 (w.heap.size + 1) ⟨3, n, h, y, s⟩ from B3)
  clear g3
  go_wp2_with fail
  refine (NB _).mono ?_
  rintro e w4 ⟨rfl, g4⟩
  have G4 : Hid (Grown w w4) := Grown.trans G3 g4
  have A4 : Hid (Vc w4 w.heap.size ⟨3, m, g, x, r⟩) := Vc.grown A3 g4
  have B4 : Hid (Vc w4 (w.heap.size + 1) ⟨3, n, h, y, s⟩) := Vc.grown B3 g4
  clear G3 A3 B3 c0 c1 c2 c3 c4 d0 d1 d2 d3 d4
  obtain ⟨c0, c1, c2, c3, c4⟩ := (show Vc w4 w.heap.size ⟨3, m, g, x, r⟩ from A4)
  obtain ⟨d0, d1, d2, d3, d4⟩ := (show Vc w4 (w.heap.size + 1) ⟨3, n, h, y, s⟩ from B4)
  clear g4
  go_wp2_with fail
  refine (FA _).mono ?_
  rintro e w9 ⟨rfl, rfl⟩
  go_wp2_with fail
  refine (FB _).mono ?_
  rintro e w9 ⟨rfl, rfl⟩
  go_wp2_with fail
  go_ret
  exact ⟨rfl, G4⟩
set_option maxRecDepth 100000 in
set_option maxHeartbeats 2000000 in
theorem sp_ff_gt (a b : Vv) (ha : vok a) (hb : vok b) (hxa : (a.x.size : Int) ≤ 1048576) (hxb : (b.x.size : Int) ≤ 1048576) (ka : a.k = 3) (kb : b.k = 3) (hm : FloatKind.f64.format.order a.g a.g = some .eq) (hn : FloatKind.f64.format.order b.g b.g = some .eq) (ho : FloatKind.f64.format.order a.g b.g = some .gt) (w : World) : Calls Try.prog 64 #[vv a, vv b] w fun e w' => e = .returned (.int .i64 (1)) ∧ Grown w w' := by
  have OA := fun w => sp_ok a hxa w
  rw [dc_t ha] at OA
  have OB := fun w => sp_ok b hxb w
  rw [dc_t hb] at OB
  have na : nmb a := .inr ka
  have nb : nmb b := .inr kb
  have NA := fun w => sp_num a w
  rw [dc_t na] at NA
  have NB := fun w => sp_num b w
  rw [dc_t nb] at NB
  have FA := fun w => sp_nan_f a.g hm w
  have FB := fun w => sp_nan_f b.g hn w
  obtain ⟨k, m, g, x, r⟩ := a
  obtain ⟨l, n, h, y, s⟩ := b
  unfold vv at *
  dsimp only at *
  clear ha hb na nb hxa hxb
  subst ka kb
  go_enter Try.func64, Try.ntmps64
  go_wp2_with fail
  refine (OA _).mono ?_
  rintro e w1 ⟨rfl, g1⟩
  have G1 : Hid (Grown w w1) := Grown.trans (by go_grown) g1
  have A1 : Hid (Vc w1 w.heap.size ⟨3, m, g, x, r⟩) := Vc.grown ((Vc.new w 3 m g x r 26).grown (Grown.alloc (Grown.refl _) _ _)) g1
  have B1 : Hid (Vc w1 (w.heap.size + 1) ⟨3, n, h, y, s⟩) := by
    have q := Vc.new (w.alloc (.cells #[.int .i64 3, .int .i64 m, .float .f64 g, .string x, .int .i64 r] 26)) 3 n h y s 26
    rw [World.size_alloc] at q
    exact q.grown g1
  obtain ⟨c0, c1, c2, c3, c4⟩ := (show Vc w1 w.heap.size ⟨3, m, g, x, r⟩ from A1)
  obtain ⟨d0, d1, d2, d3, d4⟩ := (show Vc w1 (w.heap.size + 1) ⟨3, n, h, y, s⟩ from B1)
  clear g1
  go_wp2_with fail
  refine (OB _).mono ?_
  rintro e w2 ⟨rfl, g2⟩
  have G2 : Hid (Grown w w2) := Grown.trans G1 g2
  have A2 : Hid (Vc w2 w.heap.size ⟨3, m, g, x, r⟩) := Vc.grown A1 g2
  have B2 : Hid (Vc w2 (w.heap.size + 1) ⟨3, n, h, y, s⟩) := Vc.grown B1 g2
  clear G1 A1 B1 c0 c1 c2 c3 c4 d0 d1 d2 d3 d4
  obtain ⟨c0, c1, c2, c3, c4⟩ := (show Vc w2 w.heap.size ⟨3, m, g, x, r⟩ from A2)
  obtain ⟨d0, d1, d2, d3, d4⟩ := (show Vc w2 (w.heap.size + 1) ⟨3, n, h, y, s⟩ from B2)
  clear g2
  go_wp2_with fail
  refine (NA _).mono ?_
  rintro e w3 ⟨rfl, g3⟩
  have G3 : Hid (Grown w w3) := Grown.trans G2 g3
  have A3 : Hid (Vc w3 w.heap.size ⟨3, m, g, x, r⟩) := Vc.grown A2 g3
  have B3 : Hid (Vc w3 (w.heap.size + 1) ⟨3, n, h, y, s⟩) := Vc.grown B2 g3
  clear G2 A2 B2 c0 c1 c2 c3 c4 d0 d1 d2 d3 d4
  obtain ⟨c0, c1, c2, c3, c4⟩ := (show Vc w3 w.heap.size ⟨3, m, g, x, r⟩ from A3)
  obtain ⟨d0, d1, d2, d3, d4⟩ := (show Vc w3 (w.heap.size + 1) ⟨3, n, h, y, s⟩ from B3)
  clear g3
  go_wp2_with fail
  refine (NB _).mono ?_
  rintro e w4 ⟨rfl, g4⟩
  have G4 : Hid (Grown w w4) := Grown.trans G3 g4
  have A4 : Hid (Vc w4 w.heap.size ⟨3, m, g, x, r⟩) := Vc.grown A3 g4
  have B4 : Hid (Vc w4 (w.heap.size + 1) ⟨3, n, h, y, s⟩) := Vc.grown B3 g4
  clear G3 A3 B3 c0 c1 c2 c3 c4 d0 d1 d2 d3 d4
  obtain ⟨c0, c1, c2, c3, c4⟩ := (show Vc w4 w.heap.size ⟨3, m, g, x, r⟩ from A4)
  obtain ⟨d0, d1, d2, d3, d4⟩ := (show Vc w4 (w.heap.size + 1) ⟨3, n, h, y, s⟩ from B4)
  clear g4
  go_wp2_with fail
  refine (FA _).mono ?_
  rintro e w9 ⟨rfl, rfl⟩
  go_wp2_with fail
  refine (FB _).mono ?_
  rintro e w9 ⟨rfl, rfl⟩
  go_wp2_with fail
  go_ret
  exact ⟨rfl, G4⟩
end Go.Proofs.Ytfpidccjcemcjaa
