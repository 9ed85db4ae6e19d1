import Derived.Test.YtfpidccjcemcjaaUab
namespace Go.Proofs.Ytfpidccjcemcjaa
open Go.ChangeShapes Go.WideShapes Go.ChangeAt Go.RowKit
set_option linter.unusedVariables false
set_option maxRecDepth 100000
set_option maxHeartbeats 4000000 in
theorem sp_key_w_gt (v : Vv) (hx : (v.x.size : Int) ≤ 1048576) (ho : vok v) (hk : v.k = 3) (hg : v.g < 18446744073709551616) (hn : FloatKind.f64.format.order v.g v.g = some .eq) (z : Int) (h1 : FloatKind.f64.format.order v.g 4890909195324358656 = some .lt) (h2 : FloatKind.f64.format.order v.g 14114281232179134464 = some .gt) (hb : (FloatKind.f64.format.order v.g (Flt.floorW v.g) == some .eq) = true) (hz : floatToIntVal .f64 v.g .i64 = some z) (w : World) : Calls Try.prog 10 #[vv v] w fun e w' => e = .returned (va 0 ⟨2, z, 0, ⟨#[]⟩, 0⟩) ∧ Kq w w' := by
  have HO := fun w => sp_ok v hx w
  rw [dc_t ho] at HO
  have HN := fun w => sp_nan_f v.g hn w
  have HL : ∀ w, Calls Try.prog 34 #[.float .f64 v.g] w fun e w' => e = .returned (.float .f64 (Flt.floorW v.g)) ∧ ∃ n, w' = w.drewN n := fun w => (spec_floor v.g hg w hn).mono fun _ _ h => ⟨h.1, 0, h.2⟩
  have HI := fun w => sp_int z w
  have HG := fun w => sp_got ⟨2, z, 0, ⟨#[]⟩, 0⟩ w
  have hc := conv_run hz
  obtain ⟨k, m, g, x, r⟩ := v
  unfold vv at *
  unfold va at *
  dsimp only at *
  clear hx ho hg hn hz
  subst hk
  have hst : ∀ (a : Addr) (n : Nat) (m : Mode) (w : World), (store a (.float .f64 n) m).run Try.prog w = stored Try.prog w a (.float .f64 n) m := fun a n m w => run_store _ _ _ _ _ rfl
  go_enter Try.func10, Try.ntmps10
  go_wp2_with fail
  refine (HO _).mono ?_
  rintro e w1 ⟨rfl, g1'⟩
  have g1 := Kq.of_grown g1'
  clear g1'
  have G1 : Hid (Kq w w1) := Kq.trans (.of_grown (by go_grown)) g1
  have V1 : Hid (Vc w1 w.heap.size ⟨3, m, g, x, r⟩) := Vc.kq ((Vc.new w 3 m g x r 26).grown (Grown.alloc (Grown.refl _) _ _)) g1
  have R1 : Hid (Rv w1 (w.heap.size + 1)) := by
    have h := Rv.new (w.alloc (.cells #[.int .i64 3, .int .i64 m, .float .f64 g, .string x, .int .i64 r] 26)) 28
    rw [World.size_alloc] at h
    exact h.kq g1
  have Z1 : w.heap.size + 1 < w1.heap.size := by have := g1.size; simp at this; omega
  obtain ⟨c0, c1, c2, c3, c4⟩ := (show Vc w1 w.heap.size ⟨3, m, g, x, r⟩ from V1)
  obtain ⟨r0, r1, r2, r3, r4, r5, rz⟩ := (show Rv w1 (w.heap.size + 1) from R1)
  clear g1
  go_wp2_with fail
  refine (HN _).mono ?_
  rintro e w2 ⟨rfl, hw2⟩
  replace hw2 := hw2.symm
  subst hw2
  go_wp2_with fail
  go_quiet (first | (go_at_call 34; exact Calls.quiet_of (HL _)))
  have GD : Hid (Kq w (w1.drewN nq)) := Kq.drewN G1 nq
  have VD : Hid (Vc (w1.drewN nq) w.heap.size ⟨3, m, g, x, r⟩) := Vc.kq V1 (Kq.drewN (Kq.refl _) nq)
  have RD : Hid (Rv (w1.drewN nq) (w.heap.size + 1)) := Rv.kq R1 (Kq.drewN (Kq.refl _) nq)
  have ZD : w.heap.size + 1 < (w1.drewN nq).heap.size := Z1
  clear G1 V1 R1 Z1
  go_wp2_with fail
  refine (HI _).mono ?_
  rintro e w3 ⟨rfl, g3'⟩
  have g3 := Kq.of_grown g3'
  clear g3'
  have G3 : Hid (Kq w w3) := Kq.trans GD g3
  have V3 : Hid (Vc w3 w.heap.size ⟨3, m, g, x, r⟩) := Vc.kq VD g3
  have R3 : Hid (Rv w3 (w.heap.size + 1)) := Rv.kq RD g3
  have Z3 : w.heap.size + 1 < w3.heap.size := Nat.lt_of_lt_of_le ZD g3.size
  clear GD VD RD ZD c0 c1 c2 c3 c4 r0 r1 r2 r3 r4 r5 rz
  obtain ⟨c0, c1, c2, c3, c4⟩ := (show Vc w3 w.heap.size ⟨3, m, g, x, r⟩ from V3)
  obtain ⟨r0, r1, r2, r3, r4, r5, rz⟩ := (show Rv w3 (w.heap.size + 1) from R3)
  clear g3
  go_wp2_with fail
  refine (HG _).mono ?_
  rintro e w4 ⟨rfl, g4'⟩
  have g4 := Kq.of_grown g4'
  clear g4'
  have G4 : Hid (Kq w w4) := Kq.trans G3 g4
  have V4 : Hid (Vc w4 w.heap.size ⟨3, m, g, x, r⟩) := Vc.kq V3 g4
  have R4 : Hid (Rv w4 (w.heap.size + 1)) := Rv.kq R3 g4
  have Z4 : w.heap.size + 1 < w4.heap.size := Nat.lt_of_lt_of_le Z3 g4.size
  clear G3 V3 R3 Z3 c0 c1 c2 c3 c4 r0 r1 r2 r3 r4 r5 rz
  obtain ⟨c0, c1, c2, c3, c4⟩ := (show Vc w4 w.heap.size ⟨3, m, g, x, r⟩ from V4)
  obtain ⟨r0, r1, r2, r3, r4, r5, rz⟩ := (show Rv w4 (w.heap.size + 1) from R4)
  clear g4
  go_wp2_with fail
  obtain ⟨e0, e1, e2, e3, e4, e5⟩ := rv_set' (show Rv w4 (w.heap.size + 1) from R4) 0 2 z 0 ⟨#[]⟩ 0
  have GG : Hid (Kq w (s6 w4 (w.heap.size + 1) 0 2 z 0 ⟨#[]⟩ 0)) := s6_kq G4 (by omega) 0 2 z 0 ⟨#[]⟩ 0
  obtain ⟨WF, hWF⟩ : ∃ WF, WF = s6 w4 (w.heap.size + 1) 0 2 z 0 ⟨#[]⟩ 0 := ⟨_, rfl⟩
  rw [← hWF] at e0 e1 e2 e3 e4 e5 GG
  have hWF' := hWF
  unfold s6 at hWF'
  rw [← hWF']
  clear hWF hWF'
  refine bodyPost_ret (by simp [results, Try.results10, go_sem, e0, e1, e2, e3, e4, e5]; rfl) rfl ?_
  exact ⟨rfl, GG⟩
set_option maxHeartbeats 4000000 in
theorem sp_key_w_eq (v : Vv) (hx : (v.x.size : Int) ≤ 1048576) (ho : vok v) (hk : v.k = 3) (hg : v.g < 18446744073709551616) (hn : FloatKind.f64.format.order v.g v.g = some .eq) (z : Int) (h1 : FloatKind.f64.format.order v.g 4890909195324358656 = some .lt) (h2 : FloatKind.f64.format.order v.g 14114281232179134464 = some .eq) (hb : (FloatKind.f64.format.order v.g (Flt.floorW v.g) == some .eq) = true) (hz : floatToIntVal .f64 v.g .i64 = some z) (w : World) : Calls Try.prog 10 #[vv v] w fun e w' => e = .returned (va 0 ⟨2, z, 0, ⟨#[]⟩, 0⟩) ∧ Kq w w' := by
  have HO := fun w => sp_ok v hx w
  rw [dc_t ho] at HO
  have HN := fun w => sp_nan_f v.g hn w
  have HL : ∀ w, Calls Try.prog 34 #[.float .f64 v.g] w fun e w' => e = .returned (.float .f64 (Flt.floorW v.g)) ∧ ∃ n, w' = w.drewN n := fun w => (spec_floor v.g hg w hn).mono fun _ _ h => ⟨h.1, 0, h.2⟩
  have HI := fun w => sp_int z w
  have HG := fun w => sp_got ⟨2, z, 0, ⟨#[]⟩, 0⟩ w
  have hc := conv_run hz
  obtain ⟨k, m, g, x, r⟩ := v
  unfold vv at *
  unfold va at *
  dsimp only at *
  clear hx ho hg hn hz
  subst hk
  have hst : ∀ (a : Addr) (n : Nat) (m : Mode) (w : World), (store a (.float .f64 n) m).run Try.prog w = stored Try.prog w a (.float .f64 n) m := fun a n m w => run_store _ _ _ _ _ rfl
  go_enter Try.func10, Try.ntmps10
  go_wp2_with fail
  refine (HO _).mono ?_
  rintro e w1 ⟨rfl, g1'⟩
  have g1 := Kq.of_grown g1'
  clear g1'
  have G1 : Hid (Kq w w1) := Kq.trans (.of_grown (by go_grown)) g1
  have V1 : Hid (Vc w1 w.heap.size ⟨3, m, g, x, r⟩) := Vc.kq ((Vc.new w 3 m g x r 26).grown (Grown.alloc (Grown.refl _) _ _)) g1
  have R1 : Hid (Rv w1 (w.heap.size + 1)) := by
    have h := Rv.new (w.alloc (.cells #[.int .i64 3, .int .i64 m, .float .f64 g, .string x, .int .i64 r] 26)) 28
    rw [World.size_alloc] at h
    exact h.kq g1
  have Z1 : w.heap.size + 1 < w1.heap.size := by have := g1.size; simp at this; omega
  obtain ⟨c0, c1, c2, c3, c4⟩ := (show Vc w1 w.heap.size ⟨3, m, g, x, r⟩ from V1)
  obtain ⟨r0, r1, r2, r3, r4, r5, rz⟩ := (show Rv w1 (w.heap.size + 1) from R1)
  clear g1
  go_wp2_with fail
  refine (HN _).mono ?_
  rintro e w2 ⟨rfl, hw2⟩
  replace hw2 := hw2.symm
  subst hw2
  go_wp2_with fail
  go_quiet (first | (go_at_call 34; exact Calls.quiet_of (HL _)))
  have GD : Hid (Kq w (w1.drewN nq)) := Kq.drewN G1 nq
  have VD : Hid (Vc (w1.drewN nq) w.heap.size ⟨3, m, g, x, r⟩) := Vc.kq V1 (Kq.drewN (Kq.refl _) nq)
  have RD : Hid (Rv (w1.drewN nq) (w.heap.size + 1)) := Rv.kq R1 (Kq.drewN (Kq.refl _) nq)
  have ZD : w.heap.size + 1 < (w1.drewN nq).heap.size := Z1
  clear G1 V1 R1 Z1
  go_wp2_with fail
  refine (HI _).mono ?_
  rintro e w3 ⟨rfl, g3'⟩
  have g3 := Kq.of_grown g3'
  clear g3'
  have G3 : Hid (Kq w w3) := Kq.trans GD g3
  have V3 : Hid (Vc w3 w.heap.size ⟨3, m, g, x, r⟩) := Vc.kq VD g3
  have R3 : Hid (Rv w3 (w.heap.size + 1)) := Rv.kq RD g3
  have Z3 : w.heap.size + 1 < w3.heap.size := Nat.lt_of_lt_of_le ZD g3.size
  clear GD VD RD ZD c0 c1 c2 c3 c4 r0 r1 r2 r3 r4 r5 rz
  obtain ⟨c0, c1, c2, c3, c4⟩ := (show Vc w3 w.heap.size ⟨3, m, g, x, r⟩ from V3)
  obtain ⟨r0, r1, r2, r3, r4, r5, rz⟩ := (show Rv w3 (w.heap.size + 1) from R3)
  clear g3
  go_wp2_with fail
  refine (HG _).mono ?_
  rintro e w4 ⟨rfl, g4'⟩
  have g4 := Kq.of_grown g4'
  clear g4'
  have G4 : Hid (Kq w w4) := Kq.trans G3 g4
  have V4 : Hid (Vc w4 w.heap.size ⟨3, m, g, x, r⟩) := Vc.kq V3 g4
  have R4 : Hid (Rv w4 (w.heap.size + 1)) := Rv.kq R3 g4
  have Z4 : w.heap.size + 1 < w4.heap.size := Nat.lt_of_lt_of_le Z3 g4.size
  clear G3 V3 R3 Z3 c0 c1 c2 c3 c4 r0 r1 r2 r3 r4 r5 rz
  obtain ⟨c0, c1, c2, c3, c4⟩ := (show Vc w4 w.heap.size ⟨3, m, g, x, r⟩ from V4)
  obtain ⟨r0, r1, r2, r3, r4, r5, rz⟩ := (show Rv w4 (w.heap.size + 1) from R4)
  clear g4
  go_wp2_with fail
  obtain ⟨e0, e1, e2, e3, e4, e5⟩ := rv_set' (show Rv w4 (w.heap.size + 1) from R4) 0 2 z 0 ⟨#[]⟩ 0
  have GG : Hid (Kq w (s6 w4 (w.heap.size + 1) 0 2 z 0 ⟨#[]⟩ 0)) := s6_kq G4 (by omega) 0 2 z 0 ⟨#[]⟩ 0
  obtain ⟨WF, hWF⟩ : ∃ WF, WF = s6 w4 (w.heap.size + 1) 0 2 z 0 ⟨#[]⟩ 0 := ⟨_, rfl⟩
  rw [← hWF] at e0 e1 e2 e3 e4 e5 GG
  have hWF' := hWF
  unfold s6 at hWF'
  rw [← hWF']
  clear hWF hWF'
  refine bodyPost_ret (by simp [results, Try.results10, go_sem, e0, e1, e2, e3, e4, e5]; rfl) rfl ?_
  exact ⟨rfl, GG⟩
set_option maxHeartbeats 4000000 in
theorem sp_key_f_n (v : Vv) (hx : (v.x.size : Int) ≤ 1048576) (ho : vok v) (hk : v.k = 3) (hg : v.g < 18446744073709551616) (hn : FloatKind.f64.format.order v.g v.g = some .eq) (hb : (FloatKind.f64.format.order v.g (Flt.floorW v.g) == some .eq) = false) (w : World) : Calls Try.prog 10 #[vv v] w fun e w' => e = .returned (va 0 v) ∧ Kq w w' := by
  have HO := fun w => sp_ok v hx w
  rw [dc_t ho] at HO
  have HN := fun w => sp_nan_f v.g hn w
  have HL : ∀ w, Calls Try.prog 34 #[.float .f64 v.g] w fun e w' => e = .returned (.float .f64 (Flt.floorW v.g)) ∧ ∃ n, w' = w.drewN n := fun w => (spec_floor v.g hg w hn).mono fun _ _ h => ⟨h.1, 0, h.2⟩
  have HG := fun w => sp_got v w
  obtain ⟨k, m, g, x, r⟩ := v
  unfold vv at *
  unfold va at *
  dsimp only at *
  clear hx ho hg hn
  subst hk
  have hst : ∀ (a : Addr) (n : Nat) (m : Mode) (w : World), (store a (.float .f64 n) m).run Try.prog w = stored Try.prog w a (.float .f64 n) m := fun a n m w => run_store _ _ _ _ _ rfl
  go_enter Try.func10, Try.ntmps10
  go_wp2_with fail
  refine (HO _).mono ?_
  rintro e w1 ⟨rfl, g1'⟩
  have g1 := Kq.of_grown g1'
  clear g1'
  have G1 : Hid (Kq w w1) := Kq.trans (.of_grown (by go_grown)) g1
  have V1 : Hid (Vc w1 w.heap.size ⟨3, m, g, x, r⟩) := Vc.kq ((Vc.new w 3 m g x r 26).grown (Grown.alloc (Grown.refl _) _ _)) g1
  have R1 : Hid (Rv w1 (w.heap.size + 1)) := by
    have h := Rv.new (w.alloc (.cells #[.int .i64 3, .int .i64 m, .float .f64 g, .string x, .int .i64 r] 26)) 28
    rw [World.size_alloc] at h
    exact h.kq g1
  have Z1 : w.heap.size + 1 < w1.heap.size := by have := g1.size; simp at this; omega
  obtain ⟨c0, c1, c2, c3, c4⟩ := (show Vc w1 w.heap.size ⟨3, m, g, x, r⟩ from V1)
  obtain ⟨r0, r1, r2, r3, r4, r5, rz⟩ := (show Rv w1 (w.heap.size + 1) from R1)
  clear g1
  go_wp2_with fail
  refine (HN _).mono ?_
  rintro e w2 ⟨rfl, hw2⟩
  replace hw2 := hw2.symm
  subst hw2
  go_wp2_with fail
  go_quiet (first | (go_at_call 34; exact Calls.quiet_of (HL _)))
  have GD : Hid (Kq w (w1.drewN nq)) := Kq.drewN G1 nq
  have VD : Hid (Vc (w1.drewN nq) w.heap.size ⟨3, m, g, x, r⟩) := Vc.kq V1 (Kq.drewN (Kq.refl _) nq)
  have RD : Hid (Rv (w1.drewN nq) (w.heap.size + 1)) := Rv.kq R1 (Kq.drewN (Kq.refl _) nq)
  have ZD : w.heap.size + 1 < (w1.drewN nq).heap.size := Z1
  clear G1 V1 R1 Z1
  go_wp2_with fail
  refine (HG _).mono ?_
  rintro e w3 ⟨rfl, g3'⟩
  have g3 := Kq.of_grown g3'
  clear g3'
  have G3 : Hid (Kq w w3) := Kq.trans GD g3
  have V3 : Hid (Vc w3 w.heap.size ⟨3, m, g, x, r⟩) := Vc.kq VD g3
  have R3 : Hid (Rv w3 (w.heap.size + 1)) := Rv.kq RD g3
  have Z3 : w.heap.size + 1 < w3.heap.size := Nat.lt_of_lt_of_le ZD g3.size
  clear GD VD RD ZD c0 c1 c2 c3 c4 r0 r1 r2 r3 r4 r5 rz
  obtain ⟨c0, c1, c2, c3, c4⟩ := (show Vc w3 w.heap.size ⟨3, m, g, x, r⟩ from V3)
  obtain ⟨r0, r1, r2, r3, r4, r5, rz⟩ := (show Rv w3 (w.heap.size + 1) from R3)
  clear g3
  go_wp2_with fail
  obtain ⟨e0, e1, e2, e3, e4, e5⟩ := rv_set' (show Rv w3 (w.heap.size + 1) from R3) 0 3 m g x r
  have GG : Hid (Kq w (s6 w3 (w.heap.size + 1) 0 3 m g x r)) := s6_kq G3 (by omega) 0 3 m g x r
  obtain ⟨WF, hWF⟩ : ∃ WF, WF = s6 w3 (w.heap.size + 1) 0 3 m g x r := ⟨_, rfl⟩
  rw [← hWF] at e0 e1 e2 e3 e4 e5 GG
  have hWF' := hWF
  unfold s6 at hWF'
  rw [← hWF']
  clear hWF hWF'
  refine bodyPost_ret (by simp [results, Try.results10, go_sem, e0, e1, e2, e3, e4, e5]; rfl) rfl ?_
  exact ⟨rfl, GG⟩
set_option maxHeartbeats 4000000 in
theorem sp_key_f_l (v : Vv) (hx : (v.x.size : Int) ≤ 1048576) (ho : vok v) (hk : v.k = 3) (hg : v.g < 18446744073709551616) (hn : FloatKind.f64.format.order v.g v.g = some .eq) (hb : (FloatKind.f64.format.order v.g (Flt.floorW v.g) == some .eq) = true) (h2 : FloatKind.f64.format.order v.g 14114281232179134464 = some .lt) (w : World) : Calls Try.prog 10 #[vv v] w fun e w' => e = .returned (va 0 v) ∧ Kq w w' := by
  have HO := fun w => sp_ok v hx w
  rw [dc_t ho] at HO
  have HN := fun w => sp_nan_f v.g hn w
  have HL : ∀ w, Calls Try.prog 34 #[.float .f64 v.g] w fun e w' => e = .returned (.float .f64 (Flt.floorW v.g)) ∧ ∃ n, w' = w.drewN n := fun w => (spec_floor v.g hg w hn).mono fun _ _ h => ⟨h.1, 0, h.2⟩
  have HG := fun w => sp_got v w
  obtain ⟨k, m, g, x, r⟩ := v
  unfold vv at *
  unfold va at *
  dsimp only at *
  clear hx ho hg hn
  subst hk
  have hst : ∀ (a : Addr) (n : Nat) (m : Mode) (w : World), (store a (.float .f64 n) m).run Try.prog w = stored Try.prog w a (.float .f64 n) m := fun a n m w => run_store _ _ _ _ _ rfl
  go_enter Try.func10, Try.ntmps10
  go_wp2_with fail
  refine (HO _).mono ?_
  rintro e w1 ⟨rfl, g1'⟩
  have g1 := Kq.of_grown g1'
  clear g1'
  have G1 : Hid (Kq w w1) := Kq.trans (.of_grown (by go_grown)) g1
  have V1 : Hid (Vc w1 w.heap.size ⟨3, m, g, x, r⟩) := Vc.kq ((Vc.new w 3 m g x r 26).grown (Grown.alloc (Grown.refl _) _ _)) g1
  have R1 : Hid (Rv w1 (w.heap.size + 1)) := by
    have h := Rv.new (w.alloc (.cells #[.int .i64 3, .int .i64 m, .float .f64 g, .string x, .int .i64 r] 26)) 28
    rw [World.size_alloc] at h
    exact h.kq g1
  have Z1 : w.heap.size + 1 < w1.heap.size := by have := g1.size; simp at this; omega
  obtain ⟨c0, c1, c2, c3, c4⟩ := (show Vc w1 w.heap.size ⟨3, m, g, x, r⟩ from V1)
  obtain ⟨r0, r1, r2, r3, r4, r5, rz⟩ := (show Rv w1 (w.heap.size + 1) from R1)
  clear g1
  go_wp2_with fail
  refine (HN _).mono ?_
  rintro e w2 ⟨rfl, hw2⟩
  replace hw2 := hw2.symm
  subst hw2
  go_wp2_with fail
  go_quiet (first | (go_at_call 34; exact Calls.quiet_of (HL _)))
  have GD : Hid (Kq w (w1.drewN nq)) := Kq.drewN G1 nq
  have VD : Hid (Vc (w1.drewN nq) w.heap.size ⟨3, m, g, x, r⟩) := Vc.kq V1 (Kq.drewN (Kq.refl _) nq)
  have RD : Hid (Rv (w1.drewN nq) (w.heap.size + 1)) := Rv.kq R1 (Kq.drewN (Kq.refl _) nq)
  have ZD : w.heap.size + 1 < (w1.drewN nq).heap.size := Z1
  clear G1 V1 R1 Z1
  go_wp2_with fail
  refine (HG _).mono ?_
  rintro e w3 ⟨rfl, g3'⟩
  have g3 := Kq.of_grown g3'
  clear g3'
  have G3 : Hid (Kq w w3) := Kq.trans GD g3
  have V3 : Hid (Vc w3 w.heap.size ⟨3, m, g, x, r⟩) := Vc.kq VD g3
  have R3 : Hid (Rv w3 (w.heap.size + 1)) := Rv.kq RD g3
  have Z3 : w.heap.size + 1 < w3.heap.size := Nat.lt_of_lt_of_le ZD g3.size
  clear GD VD RD ZD c0 c1 c2 c3 c4 r0 r1 r2 r3 r4 r5 rz
  obtain ⟨c0, c1, c2, c3, c4⟩ := (show Vc w3 w.heap.size ⟨3, m, g, x, r⟩ from V3)
  obtain ⟨r0, r1, r2, r3, r4, r5, rz⟩ := (show Rv w3 (w.heap.size + 1) from R3)
  clear g3
  go_wp2_with fail
  obtain ⟨e0, e1, e2, e3, e4, e5⟩ := rv_set' (show Rv w3 (w.heap.size + 1) from R3) 0 3 m g x r
  have GG : Hid (Kq w (s6 w3 (w.heap.size + 1) 0 3 m g x r)) := s6_kq G3 (by omega) 0 3 m g x r
  obtain ⟨WF, hWF⟩ : ∃ WF, WF = s6 w3 (w.heap.size + 1) 0 3 m g x r := ⟨_, rfl⟩
  rw [← hWF] at e0 e1 e2 e3 e4 e5 GG
  have hWF' := hWF
  unfold s6 at hWF'
  rw [← hWF']
  clear hWF hWF'
  refine bodyPost_ret (by simp [results, Try.results10, go_sem, e0, e1, e2, e3, e4, e5]; rfl) rfl ?_
  exact ⟨rfl, GG⟩
set_option maxHeartbeats 4000000 in
theorem sp_key_f_g (v : Vv) (hx : (v.x.size : Int) ≤ 1048576) (ho : vok v) (hk : v.k = 3) (hg : v.g < 18446744073709551616) (hn : FloatKind.f64.format.order v.g v.g = some .eq) (hb : (FloatKind.f64.format.order v.g (Flt.floorW v.g) == some .eq) = true) (h2 : FloatKind.f64.format.order v.g 14114281232179134464 = some .gt) (h1 : FloatKind.f64.format.order v.g 4890909195324358656 = some .gt) (w : World) : Calls Try.prog 10 #[vv v] w fun e w' => e = .returned (va 0 v) ∧ Kq w w' := by
  have HO := fun w => sp_ok v hx w
  rw [dc_t ho] at HO
  have HN := fun w => sp_nan_f v.g hn w
  have HL : ∀ w, Calls Try.prog 34 #[.float .f64 v.g] w fun e w' => e = .returned (.float .f64 (Flt.floorW v.g)) ∧ ∃ n, w' = w.drewN n := fun w => (spec_floor v.g hg w hn).mono fun _ _ h => ⟨h.1, 0, h.2⟩
  have HG := fun w => sp_got v w
  obtain ⟨k, m, g, x, r⟩ := v
  unfold vv at *
  unfold va at *
  dsimp only at *
  clear hx ho hg hn
  subst hk
  have hst : ∀ (a : Addr) (n : Nat) (m : Mode) (w : World), (store a (.float .f64 n) m).run Try.prog w = stored Try.prog w a (.float .f64 n) m := fun a n m w => run_store _ _ _ _ _ rfl
  go_enter Try.func10, Try.ntmps10
  go_wp2_with fail
  refine (HO _).mono ?_
  rintro e w1 ⟨rfl, g1'⟩
  have g1 := Kq.of_grown g1'
  clear g1'
  have G1 : Hid (Kq w w1) := Kq.trans (.of_grown (by go_grown)) g1
  have V1 : Hid (Vc w1 w.heap.size ⟨3, m, g, x, r⟩) := Vc.kq ((Vc.new w 3 m g x r 26).grown (Grown.alloc (Grown.refl _) _ _)) g1
  have R1 : Hid (Rv w1 (w.heap.size + 1)) := by
    have h := Rv.new (w.alloc (.cells #[.int .i64 3, .int .i64 m, .float .f64 g, .string x, .int .i64 r] 26)) 28
    rw [World.size_alloc] at h
    exact h.kq g1
  have Z1 : w.heap.size + 1 < w1.heap.size := by have := g1.size; simp at this; omega
  obtain ⟨c0, c1, c2, c3, c4⟩ := (show Vc w1 w.heap.size ⟨3, m, g, x, r⟩ from V1)
  obtain ⟨r0, r1, r2, r3, r4, r5, rz⟩ := (show Rv w1 (w.heap.size + 1) from R1)
  clear g1
  go_wp2_with fail
  refine (HN _).mono ?_
  rintro e w2 ⟨rfl, hw2⟩
  replace hw2 := hw2.symm
  subst hw2
  go_wp2_with fail
  go_quiet (first | (go_at_call 34; exact Calls.quiet_of (HL _)))
  have GD : Hid (Kq w (w1.drewN nq)) := Kq.drewN G1 nq
  have VD : Hid (Vc (w1.drewN nq) w.heap.size ⟨3, m, g, x, r⟩) := Vc.kq V1 (Kq.drewN (Kq.refl _) nq)
  have RD : Hid (Rv (w1.drewN nq) (w.heap.size + 1)) := Rv.kq R1 (Kq.drewN (Kq.refl _) nq)
  have ZD : w.heap.size + 1 < (w1.drewN nq).heap.size := Z1
  clear G1 V1 R1 Z1
  go_wp2_with fail
  refine (HG _).mono ?_
  rintro e w3 ⟨rfl, g3'⟩
  have g3 := Kq.of_grown g3'
  clear g3'
  have G3 : Hid (Kq w w3) := Kq.trans GD g3
  have V3 : Hid (Vc w3 w.heap.size ⟨3, m, g, x, r⟩) := Vc.kq VD g3
  have R3 : Hid (Rv w3 (w.heap.size + 1)) := Rv.kq RD g3
  have Z3 : w.heap.size + 1 < w3.heap.size := Nat.lt_of_lt_of_le ZD g3.size
  clear GD VD RD ZD c0 c1 c2 c3 c4 r0 r1 r2 r3 r4 r5 rz
  obtain ⟨c0, c1, c2, c3, c4⟩ := (show Vc w3 w.heap.size ⟨3, m, g, x, r⟩ from V3)
  obtain ⟨r0, r1, r2, r3, r4, r5, rz⟩ := (show Rv w3 (w.heap.size + 1) from R3)
  clear g3
  go_wp2_with fail
  obtain ⟨e0, e1, e2, e3, e4, e5⟩ := rv_set' (show Rv w3 (w.heap.size + 1) from R3) 0 3 m g x r
  have GG : Hid (Kq w (s6 w3 (w.heap.size + 1) 0 3 m g x r)) := s6_kq G3 (by omega) 0 3 m g x r
  obtain ⟨WF, hWF⟩ : ∃ WF, WF = s6 w3 (w.heap.size + 1) 0 3 m g x r := ⟨_, rfl⟩
  rw [← hWF] at e0 e1 e2 e3 e4 e5 GG
  have hWF' := hWF
  unfold s6 at hWF'
  rw [← hWF']
  clear hWF hWF'
  refine bodyPost_ret (by simp [results, Try.results10, go_sem, e0, e1, e2, e3, e4, e5]; rfl) rfl ?_
  exact ⟨rfl, GG⟩
set_option maxHeartbeats 4000000 in
theorem sp_key_f_e (v : Vv) (hx : (v.x.size : Int) ≤ 1048576) (ho : vok v) (hk : v.k = 3) (hg : v.g < 18446744073709551616) (hn : FloatKind.f64.format.order v.g v.g = some .eq) (hb : (FloatKind.f64.format.order v.g (Flt.floorW v.g) == some .eq) = true) (h2 : FloatKind.f64.format.order v.g 14114281232179134464 = some .gt) (h1 : FloatKind.f64.format.order v.g 4890909195324358656 = some .eq) (w : World) : Calls Try.prog 10 #[vv v] w fun e w' => e = .returned (va 0 v) ∧ Kq w w' := by
  have HO := fun w => sp_ok v hx w
  rw [dc_t ho] at HO
  have HN := fun w => sp_nan_f v.g hn w
  have HL : ∀ w, Calls Try.prog 34 #[.float .f64 v.g] w fun e w' => e = .returned (.float .f64 (Flt.floorW v.g)) ∧ ∃ n, w' = w.drewN n := fun w => (spec_floor v.g hg w hn).mono fun _ _ h => ⟨h.1, 0, h.2⟩
  have HG := fun w => sp_got v w
  obtain ⟨k, m, g, x, r⟩ := v
  unfold vv at *
  unfold va at *
  dsimp only at *
  clear hx ho hg hn
  subst hk
  have hst : ∀ (a : Addr) (n : Nat) (m : Mode) (w : World), (store a (.float .f64 n) m).run Try.prog w = stored Try.prog w a (.float .f64 n) m := fun a n m w => run_store _ _ _ _ _ rfl
  go_enter Try.func10, Try.ntmps10
  go_wp2_with fail
  refine (HO _).mono ?_
  rintro e w1 ⟨rfl, g1'⟩
  have g1 := Kq.of_grown g1'
  clear g1'
  have G1 : Hid (Kq w w1) := Kq.trans (.of_grown (by go_grown)) g1
  have V1 : Hid (Vc w1 w.heap.size ⟨3, m, g, x, r⟩) := Vc.kq ((Vc.new w 3 m g x r 26).grown (Grown.alloc (Grown.refl _) _ _)) g1
  have R1 : Hid (Rv w1 (w.heap.size + 1)) := by
    have h := Rv.new (w.alloc (.cells #[.int .i64 3, .int .i64 m, .float .f64 g, .string x, .int .i64 r] 26)) 28
    rw [World.size_alloc] at h
    exact h.kq g1
  have Z1 : w.heap.size + 1 < w1.heap.size := by have := g1.size; simp at this; omega
  obtain ⟨c0, c1, c2, c3, c4⟩ := (show Vc w1 w.heap.size ⟨3, m, g, x, r⟩ from V1)
  obtain ⟨r0, r1, r2, r3, r4, r5, rz⟩ := (show Rv w1 (w.heap.size + 1) from R1)
  clear g1
  go_wp2_with fail
  refine (HN _).mono ?_
  rintro e w2 ⟨rfl, hw2⟩
  replace hw2 := hw2.symm
  subst hw2
  go_wp2_with fail
  go_quiet (first | (go_at_call 34; exact Calls.quiet_of (HL _)))
  have GD : Hid (Kq w (w1.drewN nq)) := Kq.drewN G1 nq
  have VD : Hid (Vc (w1.drewN nq) w.heap.size ⟨3, m, g, x, r⟩) := Vc.kq V1 (Kq.drewN (Kq.refl _) nq)
  have RD : Hid (Rv (w1.drewN nq) (w.heap.size + 1)) := Rv.kq R1 (Kq.drewN (Kq.refl _) nq)
  have ZD : w.heap.size + 1 < (w1.drewN nq).heap.size := Z1
  clear G1 V1 R1 Z1
  go_wp2_with fail
  refine (HG _).mono ?_
  rintro e w3 ⟨rfl, g3'⟩
  have g3 := Kq.of_grown g3'
  clear g3'
  have G3 : Hid (Kq w w3) := Kq.trans GD g3
  have V3 : Hid (Vc w3 w.heap.size ⟨3, m, g, x, r⟩) := Vc.kq VD g3
  have R3 : Hid (Rv w3 (w.heap.size + 1)) := Rv.kq RD g3
  have Z3 : w.heap.size + 1 < w3.heap.size := Nat.lt_of_lt_of_le ZD g3.size
  clear GD VD RD ZD c0 c1 c2 c3 c4 r0 r1 r2 r3 r4 r5 rz
  obtain ⟨c0, c1, c2, c3, c4⟩ := (show Vc w3 w.heap.size ⟨3, m, g, x, r⟩ from V3)
  obtain ⟨r0, r1, r2, r3, r4, r5, rz⟩ := (show Rv w3 (w.heap.size + 1) from R3)
  clear g3
  go_wp2_with fail
  obtain ⟨e0, e1, e2, e3, e4, e5⟩ := rv_set' (show Rv w3 (w.heap.size + 1) from R3) 0 3 m g x r
  have GG : Hid (Kq w (s6 w3 (w.heap.size + 1) 0 3 m g x r)) := s6_kq G3 (by omega) 0 3 m g x r
  obtain ⟨WF, hWF⟩ : ∃ WF, WF = s6 w3 (w.heap.size + 1) 0 3 m g x r := ⟨_, rfl⟩
  rw [← hWF] at e0 e1 e2 e3 e4 e5 GG
  have hWF' := hWF
  unfold s6 at hWF'
  rw [← hWF']
  clear hWF hWF'
  refine bodyPost_ret (by simp [results, Try.results10, go_sem, e0, e1, e2, e3, e4, e5]; rfl) rfl ?_
  exact ⟨rfl, GG⟩
theorem sp_key_whole (v : Vv) (hx : (v.x.size : Int) ≤ 1048576) (ho : vok v) (hk : v.k = 3) (hg : v.g < 18446744073709551616) (z : Int) (hw : wh v.g z) (w : World) : Calls Try.prog 10 #[vv v] w fun e w' => e = .returned (va 0 ⟨2, z, 0, ⟨#[]⟩, 0⟩) ∧ Kq w w' := by
  obtain ⟨hn, h1, h2 | h2, hb, hz⟩ := hw
  · exact sp_key_w_gt v hx ho hk hg hn z h1 h2 hb hz w
  · exact sp_key_w_eq v hx ho hk hg hn z h1 h2 hb hz w
theorem sp_key_flt (v : Vv) (hx : (v.x.size : Int) ≤ 1048576) (ho : vok v) (hk : v.k = 3) (hg : v.g < 18446744073709551616) (hn : FloatKind.f64.format.order v.g v.g = some .eq) (h : ∀ z, ¬ wh v.g z) (w : World) : Calls Try.prog 10 #[vv v] w fun e w' => e = .returned (va 0 v) ∧ Kq w w' := by
  cases hb : (FloatKind.f64.format.order v.g (Flt.floorW v.g) == some .eq)
  · exact sp_key_f_n v hx ho hk hg hn hb w
  rcases Flt.range_facts v.g hg with h0 | ⟨_, ⟨h1 | h1, h2⟩ | ⟨h1, h2⟩ | ⟨h1, h2, z, y, hz, hy⟩⟩
  · rw [hn] at h0; cases h0
  · exact sp_key_f_g v hx ho hk hg hn hb h2 h1 w
  · exact sp_key_f_e v hx ho hk hg hn hb h2 h1 w
  · exact sp_key_f_l v hx ho hk hg hn hb h2 w
  · exact absurd ⟨hn, h1, h2, hb, hz⟩ (h z)
end Go.Proofs.Ytfpidccjcemcjaa
