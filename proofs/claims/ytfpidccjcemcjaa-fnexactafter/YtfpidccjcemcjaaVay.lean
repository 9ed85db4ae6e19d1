import Derived.Test.YtfpidccjcemcjaaVax
namespace Go.Proofs.Ytfpidccjcemcjaa
open Go.ChangeShapes Go.WideShapes Go.ChangeAt Go.RowKit
set_option linter.unusedVariables false
attribute [local go_sem] run_equalIn_flt
set_option maxRecDepth 100000 in
set_option maxHeartbeats 2000000 in
theorem sp_sm_a (a b : Vv) (ha : ¬ vok a) (hxa : (a.x.size : Int) ≤ 1048576) (hxb : (b.x.size : Int) ≤ 1048576) (w : World) : Calls Try.prog 41 #[vv a, vv b] w fun e w' => e = .returned (.bool false) ∧ Grown w w' := by
  have OA := fun w => sp_ok a hxa w
  rw [dc_f ha] at OA
  obtain ⟨k, m, g, x, r⟩ := a
  obtain ⟨l, n, h, y, s⟩ := b
  unfold vv at *
  dsimp only at *
  clear ha hxa hxb
  go_enter Try.func41, Try.ntmps41
  go_wp2_with fail
  refine (OA _).mono ?_
  rintro e w1 ⟨rfl, g1⟩
  have G1 : Hid (Grown w w1) := Grown.trans (by go_grown) g1
  have A1 : Hid (Vc w1 w.heap.size ⟨k, m, g, x, r⟩) := Vc.grown ((Vc.new w k m g x r 26).grown (Grown.alloc (Grown.refl _) _ _)) g1
  have B1 : Hid (Vc w1 (w.heap.size + 1) ⟨l, n, h, y, s⟩) := by
    have q := Vc.new (w.alloc (.cells #[.int .i64 k, .int .i64 m, .float .f64 g, .string x, .int .i64 r] 26)) l n h y s 26
    rw [World.size_alloc] at q
    exact q.grown g1
  obtain ⟨c0, c1, c2, c3, c4⟩ := (show Vc w1 w.heap.size ⟨k, m, g, x, r⟩ from A1)
  obtain ⟨d0, d1, d2, d3, d4⟩ := (show Vc w1 (w.heap.size + 1) ⟨l, n, h, y, s⟩ from B1)
  clear g1
  go_wp2_with fail
  go_ret
  exact ⟨rfl, G1⟩
set_option maxRecDepth 100000 in
set_option maxHeartbeats 2000000 in
theorem sp_sm_b (a b : Vv) (ha : vok a) (hb : ¬ vok b) (hxa : (a.x.size : Int) ≤ 1048576) (hxb : (b.x.size : Int) ≤ 1048576) (w : World) : Calls Try.prog 41 #[vv a, vv b] w fun e w' => e = .returned (.bool false) ∧ Grown w w' := by
  have OA := fun w => sp_ok a hxa w
  rw [dc_t ha] at OA
  have OB := fun w => sp_ok b hxb w
  rw [dc_f hb] at OB
  obtain ⟨k, m, g, x, r⟩ := a
  obtain ⟨l, n, h, y, s⟩ := b
  unfold vv at *
  dsimp only at *
  clear ha hb hxa hxb
  go_enter Try.func41, Try.ntmps41
  go_wp2_with fail
  refine (OA _).mono ?_
  rintro e w1 ⟨rfl, g1⟩
  have G1 : Hid (Grown w w1) := Grown.trans (by go_grown) g1
  have A1 : Hid (Vc w1 w.heap.size ⟨k, m, g, x, r⟩) := Vc.grown ((Vc.new w k m g x r 26).grown (Grown.alloc (Grown.refl _) _ _)) g1
  have B1 : Hid (Vc w1 (w.heap.size + 1) ⟨l, n, h, y, s⟩) := by
    have q := Vc.new (w.alloc (.cells #[.int .i64 k, .int .i64 m, .float .f64 g, .string x, .int .i64 r] 26)) l n h y s 26
    rw [World.size_alloc] at q
    exact q.grown g1
  obtain ⟨c0, c1, c2, c3, c4⟩ := (show Vc w1 w.heap.size ⟨k, m, g, x, r⟩ from A1)
  obtain ⟨d0, d1, d2, d3, d4⟩ := (show Vc w1 (w.heap.size + 1) ⟨l, n, h, y, s⟩ from B1)
  clear g1
  go_wp2_with fail
  refine (OB _).mono ?_
  rintro e w2 ⟨rfl, g2⟩
  have G2 : Hid (Grown w w2) := Grown.trans G1 g2
  have A2 : Hid (Vc w2 w.heap.size ⟨k, m, g, x, r⟩) := Vc.grown A1 g2
  have B2 : Hid (Vc w2 (w.heap.size + 1) ⟨l, n, h, y, s⟩) := Vc.grown B1 g2
  clear G1 A1 B1 c0 c1 c2 c3 c4 d0 d1 d2 d3 d4
  obtain ⟨c0, c1, c2, c3, c4⟩ := (show Vc w2 w.heap.size ⟨k, m, g, x, r⟩ from A2)
  obtain ⟨d0, d1, d2, d3, d4⟩ := (show Vc w2 (w.heap.size + 1) ⟨l, n, h, y, s⟩ from B2)
  clear g2
  go_wp2_with fail
  go_ret
  exact ⟨rfl, G2⟩
set_option maxRecDepth 100000 in
set_option maxHeartbeats 2000000 in
theorem sp_sm_z (a b : Vv) (ha : vok a) (hb : vok b) (hxa : (a.x.size : Int) ≤ 1048576) (hxb : (b.x.size : Int) ≤ 1048576) (na : nmb a) (nb : nmb b) (z : Int) (hz : z = 0) (HZ : (∀ w, Calls Try.prog 64 #[vv a, vv b] w fun e w' => e = .returned (.int .i64 z) ∧ Grown w w')) (w : World) : Calls Try.prog 41 #[vv a, vv b] w fun e w' => e = .returned (.bool true) ∧ Grown w w' := by
  have OA := fun w => sp_ok a hxa w
  rw [dc_t ha] at OA
  have OB := fun w => sp_ok b hxb w
  rw [dc_t hb] at OB
  have NA := fun w => sp_num a w
  rw [dc_t na] at NA
  have NB := fun w => sp_num b w
  rw [dc_t nb] at NB
  obtain ⟨k, m, g, x, r⟩ := a
  obtain ⟨l, n, h, y, s⟩ := b
  unfold vv at *
  dsimp only at *
  clear ha hb hxa hxb na nb
  subst hz
  go_enter Try.func41, Try.ntmps41
  go_wp2_with fail
  refine (OA _).mono ?_
  rintro e w1 ⟨rfl, g1⟩
  have G1 : Hid (Grown w w1) := Grown.trans (by go_grown) g1
  have A1 : Hid (Vc w1 w.heap.size ⟨k, m, g, x, r⟩) := Vc.grown ((Vc.new w k m g x r 26).grown (Grown.alloc (Grown.refl _) _ _)) g1
  have B1 : Hid (Vc w1 (w.heap.size + 1) ⟨l, n, h, y, s⟩) := by
    have q := Vc.new (w.alloc (.cells #[.int .i64 k, .int .i64 m, .float .f64 g, .string x, .int .i64 r] 26)) l n h y s 26
    rw [World.size_alloc] at q
    exact q.grown g1
  obtain ⟨c0, c1, c2, c3, c4⟩ := (show Vc w1 w.heap.size ⟨k, m, g, x, r⟩ from A1)
  obtain ⟨d0, d1, d2, d3, d4⟩ := (show Vc w1 (w.heap.size + 1) ⟨l, n, h, y, s⟩ from B1)
  clear g1
  go_wp2_with fail
  refine (OB _).mono ?_
  rintro e w2 ⟨rfl, g2⟩
  have G2 : Hid (Grown w w2) := Grown.trans G1 g2
  have A2 : Hid (Vc w2 w.heap.size ⟨k, m, g, x, r⟩) := Vc.grown A1 g2
  have B2 : Hid (Vc w2 (w.heap.size + 1) ⟨l, n, h, y, s⟩) := Vc.grown B1 g2
  clear G1 A1 B1 c0 c1 c2 c3 c4 d0 d1 d2 d3 d4
  obtain ⟨c0, c1, c2, c3, c4⟩ := (show Vc w2 w.heap.size ⟨k, m, g, x, r⟩ from A2)
  obtain ⟨d0, d1, d2, d3, d4⟩ := (show Vc w2 (w.heap.size + 1) ⟨l, n, h, y, s⟩ from B2)
  clear g2
  go_wp2_with fail
  refine (NA _).mono ?_
  rintro e w3 ⟨rfl, g3⟩
  have G3 : Hid (Grown w w3) := Grown.trans G2 g3
  have A3 : Hid (Vc w3 w.heap.size ⟨k, m, g, x, r⟩) := Vc.grown A2 g3
  have B3 : Hid (Vc w3 (w.heap.size + 1) ⟨l, n, h, y, s⟩) := Vc.grown B2 g3
  clear G2 A2 B2 c0 c1 c2 c3 c4 d0 d1 d2 d3 d4
  obtain ⟨c0, c1, c2, c3, c4⟩ := (show Vc w3 w.heap.size ⟨k, m, g, x, r⟩ from A3)
  obtain ⟨d0, d1, d2, d3, d4⟩ := (show Vc w3 (w.heap.size + 1) ⟨l, n, h, y, s⟩ from B3)
  clear g3
  go_wp2_with fail
  refine (NB _).mono ?_
  rintro e w4 ⟨rfl, g4⟩
  have G4 : Hid (Grown w w4) := Grown.trans G3 g4
  have A4 : Hid (Vc w4 w.heap.size ⟨k, m, g, x, r⟩) := Vc.grown A3 g4
  have B4 : Hid (Vc w4 (w.heap.size + 1) ⟨l, n, h, y, s⟩) := Vc.grown B3 g4
  clear G3 A3 B3 c0 c1 c2 c3 c4 d0 d1 d2 d3 d4
  obtain ⟨c0, c1, c2, c3, c4⟩ := (show Vc w4 w.heap.size ⟨k, m, g, x, r⟩ from A4)
  obtain ⟨d0, d1, d2, d3, d4⟩ := (show Vc w4 (w.heap.size + 1) ⟨l, n, h, y, s⟩ from B4)
  clear g4
  go_wp2_with fail
  refine (HZ _).mono ?_
  rintro e w5 ⟨rfl, g5⟩
  have G5 : Hid (Grown w w5) := Grown.trans G4 g5
  have A5 : Hid (Vc w5 w.heap.size ⟨k, m, g, x, r⟩) := Vc.grown A4 g5
  have B5 : Hid (Vc w5 (w.heap.size + 1) ⟨l, n, h, y, s⟩) := Vc.grown B4 g5
  clear G4 A4 B4 c0 c1 c2 c3 c4 d0 d1 d2 d3 d4
  obtain ⟨c0, c1, c2, c3, c4⟩ := (show Vc w5 w.heap.size ⟨k, m, g, x, r⟩ from A5)
  obtain ⟨d0, d1, d2, d3, d4⟩ := (show Vc w5 (w.heap.size + 1) ⟨l, n, h, y, s⟩ from B5)
  clear g5
  go_wp2_with fail
  go_ret
  exact ⟨by first | rfl | simp [*], G5⟩
set_option maxRecDepth 100000 in
set_option maxHeartbeats 2000000 in
theorem sp_sm_n (a b : Vv) (ha : vok a) (hb : vok b) (hxa : (a.x.size : Int) ≤ 1048576) (hxb : (b.x.size : Int) ≤ 1048576) (na : nmb a) (nb : nmb b) (z : Int) (hz : ¬ z = 0) (HZ : (∀ w, Calls Try.prog 64 #[vv a, vv b] w fun e w' => e = .returned (.int .i64 z) ∧ Grown w w')) (w : World) : Calls Try.prog 41 #[vv a, vv b] w fun e w' => e = .returned (.bool false) ∧ Grown w w' := by
  have OA := fun w => sp_ok a hxa w
  rw [dc_t ha] at OA
  have OB := fun w => sp_ok b hxb w
  rw [dc_t hb] at OB
  have NA := fun w => sp_num a w
  rw [dc_t na] at NA
  have NB := fun w => sp_num b w
  rw [dc_t nb] at NB
  obtain ⟨k, m, g, x, r⟩ := a
  obtain ⟨l, n, h, y, s⟩ := b
  unfold vv at *
  dsimp only at *
  clear ha hb hxa hxb na nb
  go_enter Try.func41, Try.ntmps41
  go_wp2_with fail
  refine (OA _).mono ?_
  rintro e w1 ⟨rfl, g1⟩
  have G1 : Hid (Grown w w1) := Grown.trans (by go_grown) g1
  have A1 : Hid (Vc w1 w.heap.size ⟨k, m, g, x, r⟩) := Vc.grown ((Vc.new w k m g x r 26).grown (Grown.alloc (Grown.refl _) _ _)) g1
  have B1 : Hid (Vc w1 (w.heap.size + 1) ⟨l, n, h, y, s⟩) := by
    have q := Vc.new (w.alloc (.cells #[.int .i64 k, .int .i64 m, .float .f64 g, .string x, .int .i64 r] 26)) l n h y s 26
    rw [World.size_alloc] at q
    exact q.grown g1
  obtain ⟨c0, c1, c2, c3, c4⟩ := (show Vc w1 w.heap.size ⟨k, m, g, x, r⟩ from A1)
  obtain ⟨d0, d1, d2, d3, d4⟩ := (show Vc w1 (w.heap.size + 1) ⟨l, n, h, y, s⟩ from B1)
  clear g1
  go_wp2_with fail
  refine (OB _).mono ?_
  rintro e w2 ⟨rfl, g2⟩
  have G2 : Hid (Grown w w2) := Grown.trans G1 g2
  have A2 : Hid (Vc w2 w.heap.size ⟨k, m, g, x, r⟩) := Vc.grown A1 g2
  have B2 : Hid (Vc w2 (w.heap.size + 1) ⟨l, n, h, y, s⟩) := Vc.grown B1 g2
  clear G1 A1 B1 c0 c1 c2 c3 c4 d0 d1 d2 d3 d4
  obtain ⟨c0, c1, c2, c3, c4⟩ := (show Vc w2 w.heap.size ⟨k, m, g, x, r⟩ from A2)
  obtain ⟨d0, d1, d2, d3, d4⟩ := (show Vc w2 (w.heap.size + 1) ⟨l, n, h, y, s⟩ from B2)
  clear g2
  go_wp2_with fail
  refine (NA _).mono ?_
  rintro e w3 ⟨rfl, g3⟩
  have G3 : Hid (Grown w w3) := Grown.trans G2 g3
  have A3 : Hid (Vc w3 w.heap.size ⟨k, m, g, x, r⟩) := Vc.grown A2 g3
  have B3 : Hid (Vc w3 (w.heap.size + 1) ⟨l, n, h, y, s⟩) := Vc.grown B2 g3
  clear G2 A2 B2 c0 c1 c2 c3 c4 d0 d1 d2 d3 d4
  obtain ⟨c0, c1, c2, c3, c4⟩ := (show Vc w3 w.heap.size ⟨k, m, g, x, r⟩ from A3)
  obtain ⟨d0, d1, d2, d3, d4⟩ := (show Vc w3 (w.heap.size + 1) ⟨l, n, h, y, s⟩ from B3)
  clear g3
  go_wp2_with fail
  refine (NB _).mono ?_
  rintro e w4 ⟨rfl, g4⟩
  have G4 : Hid (Grown w w4) := Grown.trans G3 g4
  have A4 : Hid (Vc w4 w.heap.size ⟨k, m, g, x, r⟩) := Vc.grown A3 g4
  have B4 : Hid (Vc w4 (w.heap.size + 1) ⟨l, n, h, y, s⟩) := Vc.grown B3 g4
  clear G3 A3 B3 c0 c1 c2 c3 c4 d0 d1 d2 d3 d4
  obtain ⟨c0, c1, c2, c3, c4⟩ := (show Vc w4 w.heap.size ⟨k, m, g, x, r⟩ from A4)
  obtain ⟨d0, d1, d2, d3, d4⟩ := (show Vc w4 (w.heap.size + 1) ⟨l, n, h, y, s⟩ from B4)
  clear g4
  go_wp2_with fail
  refine (HZ _).mono ?_
  rintro e w5 ⟨rfl, g5⟩
  have G5 : Hid (Grown w w5) := Grown.trans G4 g5
  have A5 : Hid (Vc w5 w.heap.size ⟨k, m, g, x, r⟩) := Vc.grown A4 g5
  have B5 : Hid (Vc w5 (w.heap.size + 1) ⟨l, n, h, y, s⟩) := Vc.grown B4 g5
  clear G4 A4 B4 c0 c1 c2 c3 c4 d0 d1 d2 d3 d4
  obtain ⟨c0, c1, c2, c3, c4⟩ := (show Vc w5 w.heap.size ⟨k, m, g, x, r⟩ from A5)
  obtain ⟨d0, d1, d2, d3, d4⟩ := (show Vc w5 (w.heap.size + 1) ⟨l, n, h, y, s⟩ from B5)
  clear g5
  go_wp2_with fail
  go_ret
  exact ⟨by first | rfl | simp [*], G5⟩
set_option maxRecDepth 100000 in
set_option maxHeartbeats 2000000 in
theorem sp_sm_t (a b : Vv) (ha : vok a) (hb : vok b) (hxa : (a.x.size : Int) ≤ 1048576) (hxb : (b.x.size : Int) ≤ 1048576) (na : nmb a) (nb : ¬ nmb b) (w : World) : Calls Try.prog 41 #[vv a, vv b] w fun e w' => e = .returned (.bool false) ∧ Grown w w' := by
  have OA := fun w => sp_ok a hxa w
  rw [dc_t ha] at OA
  have OB := fun w => sp_ok b hxb w
  rw [dc_t hb] at OB
  have NA := fun w => sp_num a w
  rw [dc_t na] at NA
  have NB := fun w => sp_num b w
  rw [dc_f nb] at NB
  have hkl : ¬ a.k = b.k := fun e => nb (by unfold nmb at *; rw [← e]; exact na)
  have hkl2 : (a.k == b.k) = false := by simpa using hkl
  obtain ⟨k, m, g, x, r⟩ := a
  obtain ⟨l, n, h, y, s⟩ := b
  unfold vv at *
  dsimp only at *
  clear ha hb hxa hxb na nb
  go_enter Try.func41, Try.ntmps41
  go_wp2_with fail
  refine (OA _).mono ?_
  rintro e w1 ⟨rfl, g1⟩
  have G1 : Hid (Grown w w1) := Grown.trans (by go_grown) g1
  have A1 : Hid (Vc w1 w.heap.size ⟨k, m, g, x, r⟩) := Vc.grown ((Vc.new w k m g x r 26).grown (Grown.alloc (Grown.refl _) _ _)) g1
  have B1 : Hid (Vc w1 (w.heap.size + 1) ⟨l, n, h, y, s⟩) := by
    have q := Vc.new (w.alloc (.cells #[.int .i64 k, .int .i64 m, .float .f64 g, .string x, .int .i64 r] 26)) l n h y s 26
    rw [World.size_alloc] at q
    exact q.grown g1
  obtain ⟨c0, c1, c2, c3, c4⟩ := (show Vc w1 w.heap.size ⟨k, m, g, x, r⟩ from A1)
  obtain ⟨d0, d1, d2, d3, d4⟩ := (show Vc w1 (w.heap.size + 1) ⟨l, n, h, y, s⟩ from B1)
  clear g1
  go_wp2_with fail
  refine (OB _).mono ?_
  rintro e w2 ⟨rfl, g2⟩
  have G2 : Hid (Grown w w2) := Grown.trans G1 g2
  have A2 : Hid (Vc w2 w.heap.size ⟨k, m, g, x, r⟩) := Vc.grown A1 g2
  have B2 : Hid (Vc w2 (w.heap.size + 1) ⟨l, n, h, y, s⟩) := Vc.grown B1 g2
  clear G1 A1 B1 c0 c1 c2 c3 c4 d0 d1 d2 d3 d4
  obtain ⟨c0, c1, c2, c3, c4⟩ := (show Vc w2 w.heap.size ⟨k, m, g, x, r⟩ from A2)
  obtain ⟨d0, d1, d2, d3, d4⟩ := (show Vc w2 (w.heap.size + 1) ⟨l, n, h, y, s⟩ from B2)
  clear g2
  go_wp2_with fail
  refine (NA _).mono ?_
  rintro e w3 ⟨rfl, g3⟩
  have G3 : Hid (Grown w w3) := Grown.trans G2 g3
  have A3 : Hid (Vc w3 w.heap.size ⟨k, m, g, x, r⟩) := Vc.grown A2 g3
  have B3 : Hid (Vc w3 (w.heap.size + 1) ⟨l, n, h, y, s⟩) := Vc.grown B2 g3
  clear G2 A2 B2 c0 c1 c2 c3 c4 d0 d1 d2 d3 d4
  obtain ⟨c0, c1, c2, c3, c4⟩ := (show Vc w3 w.heap.size ⟨k, m, g, x, r⟩ from A3)
  obtain ⟨d0, d1, d2, d3, d4⟩ := (show Vc w3 (w.heap.size + 1) ⟨l, n, h, y, s⟩ from B3)
  clear g3
  go_wp2_with fail
  refine (NB _).mono ?_
  rintro e w4 ⟨rfl, g4⟩
  have G4 : Hid (Grown w w4) := Grown.trans G3 g4
  have A4 : Hid (Vc w4 w.heap.size ⟨k, m, g, x, r⟩) := Vc.grown A3 g4
  have B4 : Hid (Vc w4 (w.heap.size + 1) ⟨l, n, h, y, s⟩) := Vc.grown B3 g4
  clear G3 A3 B3 c0 c1 c2 c3 c4 d0 d1 d2 d3 d4
  obtain ⟨c0, c1, c2, c3, c4⟩ := (show Vc w4 w.heap.size ⟨k, m, g, x, r⟩ from A4)
  obtain ⟨d0, d1, d2, d3, d4⟩ := (show Vc w4 (w.heap.size + 1) ⟨l, n, h, y, s⟩ from B4)
  clear g4
  go_wp2_with fail
  go_ret
  exact ⟨by first | rfl | simp [*], G4⟩
set_option maxRecDepth 100000 in
set_option maxHeartbeats 2000000 in
theorem sp_sm_k (a b : Vv) (ha : vok a) (hb : vok b) (hxa : (a.x.size : Int) ≤ 1048576) (hxb : (b.x.size : Int) ≤ 1048576) (na : ¬ nmb a) (hk : ¬ a.k = b.k) (w : World) : Calls Try.prog 41 #[vv a, vv b] w fun e w' => e = .returned (.bool false) ∧ Grown w w' := by
  have OA := fun w => sp_ok a hxa w
  rw [dc_t ha] at OA
  have OB := fun w => sp_ok b hxb w
  rw [dc_t hb] at OB
  have NA := fun w => sp_num a w
  rw [dc_f na] at NA
  have hkl2 : (a.k == b.k) = false := by simpa using hk
  obtain ⟨k, m, g, x, r⟩ := a
  obtain ⟨l, n, h, y, s⟩ := b
  unfold vv at *
  dsimp only at *
  clear ha hb hxa hxb na
  go_enter Try.func41, Try.ntmps41
  go_wp2_with fail
  refine (OA _).mono ?_
  rintro e w1 ⟨rfl, g1⟩
  have G1 : Hid (Grown w w1) := Grown.trans (by go_grown) g1
  have A1 : Hid (Vc w1 w.heap.size ⟨k, m, g, x, r⟩) := Vc.grown ((Vc.new w k m g x r 26).grown (Grown.alloc (Grown.refl _) _ _)) g1
  have B1 : Hid (Vc w1 (w.heap.size + 1) ⟨l, n, h, y, s⟩) := by
    have q := Vc.new (w.alloc (.cells #[.int .i64 k, .int .i64 m, .float .f64 g, .string x, .int .i64 r] 26)) l n h y s 26
    rw [World.size_alloc] at q
    exact q.grown g1
  obtain ⟨c0, c1, c2, c3, c4⟩ := (show Vc w1 w.heap.size ⟨k, m, g, x, r⟩ from A1)
  obtain ⟨d0, d1, d2, d3, d4⟩ := (show Vc w1 (w.heap.size + 1) ⟨l, n, h, y, s⟩ from B1)
  clear g1
  go_wp2_with fail
  refine (OB _).mono ?_
  rintro e w2 ⟨rfl, g2⟩
  have G2 : Hid (Grown w w2) := Grown.trans G1 g2
  have A2 : Hid (Vc w2 w.heap.size ⟨k, m, g, x, r⟩) := Vc.grown A1 g2
  have B2 : Hid (Vc w2 (w.heap.size + 1) ⟨l, n, h, y, s⟩) := Vc.grown B1 g2
  clear G1 A1 B1 c0 c1 c2 c3 c4 d0 d1 d2 d3 d4
  obtain ⟨c0, c1, c2, c3, c4⟩ := (show Vc w2 w.heap.size ⟨k, m, g, x, r⟩ from A2)
  obtain ⟨d0, d1, d2, d3, d4⟩ := (show Vc w2 (w.heap.size + 1) ⟨l, n, h, y, s⟩ from B2)
  clear g2
  go_wp2_with fail
  refine (NA _).mono ?_
  rintro e w3 ⟨rfl, g3⟩
  have G3 : Hid (Grown w w3) := Grown.trans G2 g3
  have A3 : Hid (Vc w3 w.heap.size ⟨k, m, g, x, r⟩) := Vc.grown A2 g3
  have B3 : Hid (Vc w3 (w.heap.size + 1) ⟨l, n, h, y, s⟩) := Vc.grown B2 g3
  clear G2 A2 B2 c0 c1 c2 c3 c4 d0 d1 d2 d3 d4
  obtain ⟨c0, c1, c2, c3, c4⟩ := (show Vc w3 w.heap.size ⟨k, m, g, x, r⟩ from A3)
  obtain ⟨d0, d1, d2, d3, d4⟩ := (show Vc w3 (w.heap.size + 1) ⟨l, n, h, y, s⟩ from B3)
  clear g3
  go_wp2_with fail
  go_ret
  exact ⟨by first | rfl | simp [*], G3⟩
set_option maxRecDepth 100000 in
set_option maxHeartbeats 2000000 in
theorem sp_sm_m (a b : Vv) (ha : vok a) (hb : vok b) (hxa : (a.x.size : Int) ≤ 1048576) (hxb : (b.x.size : Int) ≤ 1048576) (na : ¬ nmb a) (hk : a.k = b.k) (ho : FloatKind.f64.format.order a.g b.g = some .eq) (hm : ¬ a.m = b.m) (w : World) : Calls Try.prog 41 #[vv a, vv b] w fun e w' => e = .returned (.bool false) ∧ Grown w w' := by
  have OA := fun w => sp_ok a hxa w
  rw [dc_t ha] at OA
  have OB := fun w => sp_ok b hxb w
  rw [dc_t hb] at OB
  have NA := fun w => sp_num a w
  rw [dc_f na] at NA
  have hm2 : (a.m == b.m) = false := by simpa using hm
  obtain ⟨k, m, g, x, r⟩ := a
  obtain ⟨l, n, h, y, s⟩ := b
  unfold vv at *
  dsimp only at *
  clear ha hb hxa hxb na
  subst hk
  go_enter Try.func41, Try.ntmps41
  go_wp2_with fail
  refine (OA _).mono ?_
  rintro e w1 ⟨rfl, g1⟩
  have G1 : Hid (Grown w w1) := Grown.trans (by go_grown) g1
  have A1 : Hid (Vc w1 w.heap.size ⟨k, m, g, x, r⟩) := Vc.grown ((Vc.new w k m g x r 26).grown (Grown.alloc (Grown.refl _) _ _)) g1
  have B1 : Hid (Vc w1 (w.heap.size + 1) ⟨k, n, h, y, s⟩) := by
    have q := Vc.new (w.alloc (.cells #[.int .i64 k, .int .i64 m, .float .f64 g, .string x, .int .i64 r] 26)) k n h y s 26
    rw [World.size_alloc] at q
    exact q.grown g1
  obtain ⟨c0, c1, c2, c3, c4⟩ := (show Vc w1 w.heap.size ⟨k, m, g, x, r⟩ from A1)
  obtain ⟨d0, d1, d2, d3, d4⟩ := (show Vc w1 (w.heap.size + 1) ⟨k, n, h, y, s⟩ from B1)
  clear g1
  go_wp2_with fail
  refine (OB _).mono ?_
  rintro e w2 ⟨rfl, g2⟩
  have G2 : Hid (Grown w w2) := Grown.trans G1 g2
  have A2 : Hid (Vc w2 w.heap.size ⟨k, m, g, x, r⟩) := Vc.grown A1 g2
  have B2 : Hid (Vc w2 (w.heap.size + 1) ⟨k, n, h, y, s⟩) := Vc.grown B1 g2
  clear G1 A1 B1 c0 c1 c2 c3 c4 d0 d1 d2 d3 d4
  obtain ⟨c0, c1, c2, c3, c4⟩ := (show Vc w2 w.heap.size ⟨k, m, g, x, r⟩ from A2)
  obtain ⟨d0, d1, d2, d3, d4⟩ := (show Vc w2 (w.heap.size + 1) ⟨k, n, h, y, s⟩ from B2)
  clear g2
  go_wp2_with fail
  refine (NA _).mono ?_
  rintro e w3 ⟨rfl, g3⟩
  have G3 : Hid (Grown w w3) := Grown.trans G2 g3
  have A3 : Hid (Vc w3 w.heap.size ⟨k, m, g, x, r⟩) := Vc.grown A2 g3
  have B3 : Hid (Vc w3 (w.heap.size + 1) ⟨k, n, h, y, s⟩) := Vc.grown B2 g3
  clear G2 A2 B2 c0 c1 c2 c3 c4 d0 d1 d2 d3 d4
  obtain ⟨c0, c1, c2, c3, c4⟩ := (show Vc w3 w.heap.size ⟨k, m, g, x, r⟩ from A3)
  obtain ⟨d0, d1, d2, d3, d4⟩ := (show Vc w3 (w.heap.size + 1) ⟨k, n, h, y, s⟩ from B3)
  clear g3
  go_wp2_with fail
  go_ret
  exact ⟨by first | rfl | simp [*], G3⟩
set_option maxRecDepth 100000 in
set_option maxHeartbeats 2000000 in
theorem sp_sm_x (a b : Vv) (ha : vok a) (hb : vok b) (hxa : (a.x.size : Int) ≤ 1048576) (hxb : (b.x.size : Int) ≤ 1048576) (na : ¬ nmb a) (hk : a.k = b.k) (ho : FloatKind.f64.format.order a.g b.g = some .eq) (hm : a.m = b.m) (hx : ¬ a.x.toList = b.x.toList) (w : World) : Calls Try.prog 41 #[vv a, vv b] w fun e w' => e = .returned (.bool false) ∧ Grown w w' := by
  have OA := fun w => sp_ok a hxa w
  rw [dc_t ha] at OA
  have OB := fun w => sp_ok b hxb w
  rw [dc_t hb] at OB
  have NA := fun w => sp_num a w
  rw [dc_f na] at NA
  have hx2 : (a.x.toList == b.x.toList) = false := by simpa using hx
  obtain ⟨k, m, g, x, r⟩ := a
  obtain ⟨l, n, h, y, s⟩ := b
  unfold vv at *
  dsimp only at *
  clear ha hb hxa hxb na
  subst hk hm
  go_enter Try.func41, Try.ntmps41
  go_wp2_with fail
  refine (OA _).mono ?_
  rintro e w1 ⟨rfl, g1⟩
  have G1 : Hid (Grown w w1) := Grown.trans (by go_grown) g1
  have A1 : Hid (Vc w1 w.heap.size ⟨k, m, g, x, r⟩) := Vc.grown ((Vc.new w k m g x r 26).grown (Grown.alloc (Grown.refl _) _ _)) g1
  have B1 : Hid (Vc w1 (w.heap.size + 1) ⟨k, m, h, y, s⟩) := by
    have q := Vc.new (w.alloc (.cells #[.int .i64 k, .int .i64 m, .float .f64 g, .string x, .int .i64 r] 26)) k m h y s 26
    rw [World.size_alloc] at q
    exact q.grown g1
  obtain ⟨c0, c1, c2, c3, c4⟩ := (show Vc w1 w.heap.size ⟨k, m, g, x, r⟩ from A1)
  obtain ⟨d0, d1, d2, d3, d4⟩ := (show Vc w1 (w.heap.size + 1) ⟨k, m, h, y, s⟩ from B1)
  clear g1
  go_wp2_with fail
  refine (OB _).mono ?_
  rintro e w2 ⟨rfl, g2⟩
  have G2 : Hid (Grown w w2) := Grown.trans G1 g2
  have A2 : Hid (Vc w2 w.heap.size ⟨k, m, g, x, r⟩) := Vc.grown A1 g2
  have B2 : Hid (Vc w2 (w.heap.size + 1) ⟨k, m, h, y, s⟩) := Vc.grown B1 g2
  clear G1 A1 B1 c0 c1 c2 c3 c4 d0 d1 d2 d3 d4
  obtain ⟨c0, c1, c2, c3, c4⟩ := (show Vc w2 w.heap.size ⟨k, m, g, x, r⟩ from A2)
  obtain ⟨d0, d1, d2, d3, d4⟩ := (show Vc w2 (w.heap.size + 1) ⟨k, m, h, y, s⟩ from B2)
  clear g2
  go_wp2_with fail
  refine (NA _).mono ?_
  rintro e w3 ⟨rfl, g3⟩
  have G3 : Hid (Grown w w3) := Grown.trans G2 g3
  have A3 : Hid (Vc w3 w.heap.size ⟨k, m, g, x, r⟩) := Vc.grown A2 g3
  have B3 : Hid (Vc w3 (w.heap.size + 1) ⟨k, m, h, y, s⟩) := Vc.grown B2 g3
  clear G2 A2 B2 c0 c1 c2 c3 c4 d0 d1 d2 d3 d4
  obtain ⟨c0, c1, c2, c3, c4⟩ := (show Vc w3 w.heap.size ⟨k, m, g, x, r⟩ from A3)
  obtain ⟨d0, d1, d2, d3, d4⟩ := (show Vc w3 (w.heap.size + 1) ⟨k, m, h, y, s⟩ from B3)
  clear g3
  go_wp2_with fail
  go_ret
  exact ⟨by first | rfl | simp [*], G3⟩
set_option maxRecDepth 100000 in
set_option maxHeartbeats 2000000 in
theorem sp_sm_r (a b : Vv) (ha : vok a) (hb : vok b) (hxa : (a.x.size : Int) ≤ 1048576) (hxb : (b.x.size : Int) ≤ 1048576) (na : ¬ nmb a) (hk : a.k = b.k) (ho : FloatKind.f64.format.order a.g b.g = some .eq) (hm : a.m = b.m) (hx : a.x.toList = b.x.toList) (hr : ¬ a.r = b.r) (w : World) : Calls Try.prog 41 #[vv a, vv b] w fun e w' => e = .returned (.bool false) ∧ Grown w w' := by
  have OA := fun w => sp_ok a hxa w
  rw [dc_t ha] at OA
  have OB := fun w => sp_ok b hxb w
  rw [dc_t hb] at OB
  have NA := fun w => sp_num a w
  rw [dc_f na] at NA
  have hx2 : (a.x.toList == b.x.toList) = true := by simpa using hx
  have hr2 : (a.r == b.r) = false := by simpa using hr
  obtain ⟨k, m, g, x, r⟩ := a
  obtain ⟨l, n, h, y, s⟩ := b
  unfold vv at *
  dsimp only at *
  clear ha hb hxa hxb na hx
  subst hk hm
  go_enter Try.func41, Try.ntmps41
  go_wp2_with fail
  refine (OA _).mono ?_
  rintro e w1 ⟨rfl, g1⟩
  have G1 : Hid (Grown w w1) := Grown.trans (by go_grown) g1
  have A1 : Hid (Vc w1 w.heap.size ⟨k, m, g, x, r⟩) := Vc.grown ((Vc.new w k m g x r 26).grown (Grown.alloc (Grown.refl _) _ _)) g1
  have B1 : Hid (Vc w1 (w.heap.size + 1) ⟨k, m, h, y, s⟩) := by
    have q := Vc.new (w.alloc (.cells #[.int .i64 k, .int .i64 m, .float .f64 g, .string x, .int .i64 r] 26)) k m h y s 26
    rw [World.size_alloc] at q
    exact q.grown g1
  obtain ⟨c0, c1, c2, c3, c4⟩ := (show Vc w1 w.heap.size ⟨k, m, g, x, r⟩ from A1)
  obtain ⟨d0, d1, d2, d3, d4⟩ := (show Vc w1 (w.heap.size + 1) ⟨k, m, h, y, s⟩ from B1)
  clear g1
  go_wp2_with fail
  refine (OB _).mono ?_
  rintro e w2 ⟨rfl, g2⟩
  have G2 : Hid (Grown w w2) := Grown.trans G1 g2
  have A2 : Hid (Vc w2 w.heap.size ⟨k, m, g, x, r⟩) := Vc.grown A1 g2
  have B2 : Hid (Vc w2 (w.heap.size + 1) ⟨k, m, h, y, s⟩) := Vc.grown B1 g2
  clear G1 A1 B1 c0 c1 c2 c3 c4 d0 d1 d2 d3 d4
  obtain ⟨c0, c1, c2, c3, c4⟩ := (show Vc w2 w.heap.size ⟨k, m, g, x, r⟩ from A2)
  obtain ⟨d0, d1, d2, d3, d4⟩ := (show Vc w2 (w.heap.size + 1) ⟨k, m, h, y, s⟩ from B2)
  clear g2
  go_wp2_with fail
  refine (NA _).mono ?_
  rintro e w3 ⟨rfl, g3⟩
  have G3 : Hid (Grown w w3) := Grown.trans G2 g3
  have A3 : Hid (Vc w3 w.heap.size ⟨k, m, g, x, r⟩) := Vc.grown A2 g3
  have B3 : Hid (Vc w3 (w.heap.size + 1) ⟨k, m, h, y, s⟩) := Vc.grown B2 g3
  clear G2 A2 B2 c0 c1 c2 c3 c4 d0 d1 d2 d3 d4
  obtain ⟨c0, c1, c2, c3, c4⟩ := (show Vc w3 w.heap.size ⟨k, m, g, x, r⟩ from A3)
  obtain ⟨d0, d1, d2, d3, d4⟩ := (show Vc w3 (w.heap.size + 1) ⟨k, m, h, y, s⟩ from B3)
  clear g3
  go_wp2_with fail
  go_ret
  exact ⟨by first | rfl | simp [*], G3⟩
set_option maxRecDepth 100000 in
set_option maxHeartbeats 2000000 in
theorem sp_sm_e (a b : Vv) (ha : vok a) (hb : vok b) (hxa : (a.x.size : Int) ≤ 1048576) (hxb : (b.x.size : Int) ≤ 1048576) (na : ¬ nmb a) (hk : a.k = b.k) (ho : FloatKind.f64.format.order a.g b.g = some .eq) (hm : a.m = b.m) (hx : a.x.toList = b.x.toList) (hr : a.r = b.r) (w : World) : Calls Try.prog 41 #[vv a, vv b] w fun e w' => e = .returned (.bool true) ∧ Grown w w' := by
  have OA := fun w => sp_ok a hxa w
  rw [dc_t ha] at OA
  have OB := fun w => sp_ok b hxb w
  rw [dc_t hb] at OB
  have NA := fun w => sp_num a w
  rw [dc_f na] at NA
  have hx2 : (a.x.toList == b.x.toList) = true := by simpa using hx
  obtain ⟨k, m, g, x, r⟩ := a
  obtain ⟨l, n, h, y, s⟩ := b
  unfold vv at *
  dsimp only at *
  clear ha hb hxa hxb na hx
  subst hk hm hr
  go_enter Try.func41, Try.ntmps41
  go_wp2_with fail
  refine (OA _).mono ?_
  rintro e w1 ⟨rfl, g1⟩
  have G1 : Hid (Grown w w1) := Grown.trans (by go_grown) g1
  have A1 : Hid (Vc w1 w.heap.size ⟨k, m, g, x, r⟩) := Vc.grown ((Vc.new w k m g x r 26).grown (Grown.alloc (Grown.refl _) _ _)) g1
  have B1 : Hid (Vc w1 (w.heap.size + 1) ⟨k, m, h, y, r⟩) := by
    have q := Vc.new (w.alloc (.cells #[.int .i64 k, .int .i64 m, .float .f64 g, .string x, .int .i64 r] 26)) k m h y r 26
    rw [World.size_alloc] at q
    exact q.grown g1
  obtain ⟨c0, c1, c2, c3, c4⟩ := (show Vc w1 w.heap.size ⟨k, m, g, x, r⟩ from A1)
  obtain ⟨d0, d1, d2, d3, d4⟩ := (show Vc w1 (w.heap.size + 1) ⟨k, m, h, y, r⟩ from B1)
  clear g1
  go_wp2_with fail
  refine (OB _).mono ?_
  rintro e w2 ⟨rfl, g2⟩
  have G2 : Hid (Grown w w2) := Grown.trans G1 g2
  have A2 : Hid (Vc w2 w.heap.size ⟨k, m, g, x, r⟩) := Vc.grown A1 g2
  have B2 : Hid (Vc w2 (w.heap.size + 1) ⟨k, m, h, y, r⟩) := Vc.grown B1 g2
  clear G1 A1 B1 c0 c1 c2 c3 c4 d0 d1 d2 d3 d4
  obtain ⟨c0, c1, c2, c3, c4⟩ := (show Vc w2 w.heap.size ⟨k, m, g, x, r⟩ from A2)
  obtain ⟨d0, d1, d2, d3, d4⟩ := (show Vc w2 (w.heap.size + 1) ⟨k, m, h, y, r⟩ from B2)
  clear g2
  go_wp2_with fail
  refine (NA _).mono ?_
  rintro e w3 ⟨rfl, g3⟩
  have G3 : Hid (Grown w w3) := Grown.trans G2 g3
  have A3 : Hid (Vc w3 w.heap.size ⟨k, m, g, x, r⟩) := Vc.grown A2 g3
  have B3 : Hid (Vc w3 (w.heap.size + 1) ⟨k, m, h, y, r⟩) := Vc.grown B2 g3
  clear G2 A2 B2 c0 c1 c2 c3 c4 d0 d1 d2 d3 d4
  obtain ⟨c0, c1, c2, c3, c4⟩ := (show Vc w3 w.heap.size ⟨k, m, g, x, r⟩ from A3)
  obtain ⟨d0, d1, d2, d3, d4⟩ := (show Vc w3 (w.heap.size + 1) ⟨k, m, h, y, r⟩ from B3)
  clear g3
  go_wp2_with fail
  go_ret
  exact ⟨by first | rfl | simp [*], G3⟩
end Go.Proofs.Ytfpidccjcemcjaa
