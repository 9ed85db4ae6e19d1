import Derived.Test.YtndpgnmicikaaaaVao
namespace Go.Proofs.Ytndpgnmicikaaaa
open Go.ChangeShapes Go.WideShapes Go.ChangeAt Go.RowKit
set_option linter.unusedVariables false
attribute [local go_sem] unary_negf
set_option maxRecDepth 100000 in
set_option maxHeartbeats 2000000 in
theorem sp_un_ni (op : Int) (v : Vv) (hx : (v.x.size : Int) ≤ 1048576) (ho : vok v) (hop : op = 19) (hk : v.k = 2) (w : World) : Calls Try.prog 18 #[.int .i64 op, vv v] w fun e w' => e = .returned (va 0 ⟨2, (wrap64 (-v.m)), 0, ⟨#[]⟩, 0⟩) ∧ Grown w w' := by
  have HO := fun w => sp_ok v hx w
  rw [dc_t ho] at HO
  have HI := fun w => sp_int (wrap64 (-v.m)) w
  have HG := fun w => sp_got ⟨2, (wrap64 (-v.m)), 0, ⟨#[]⟩, 0⟩ w
  obtain ⟨k, m, g, x, r⟩ := v
  unfold vv at *
  unfold va at *
  dsimp only at *
  clear hx ho
  subst hop
  subst hk
  have hst : ∀ (a : Addr) (n : Nat) (m : Mode) (w : World), (store a (.float .f64 n) m).run Try.prog w = stored Try.prog w a (.float .f64 n) m := fun a n m w => run_store _ _ _ _ _ rfl
  go_enter Try.func18, Try.ntmps18
  go_wp2_with fail
  refine (HO _).mono ?_
  rintro e w1 ⟨rfl, g1⟩
  have G1 : Hid (Grown w w1) := Grown.trans (by go_grown) g1
  have V1 : Hid (Vc w1 w.heap.size ⟨2, m, g, x, r⟩) := Vc.grown ((Vc.new w 2 m g x r 27).grown (Grown.alloc (Grown.refl _) _ _)) g1
  have R1 : Hid (Rv w1 (w.heap.size + 1)) := by
    have h := Rv.new (w.alloc (.cells #[.int .i64 2, .int .i64 m, .float .f64 g, .string x, .int .i64 r] 27)) 34
    rw [World.size_alloc] at h
    exact h.grown g1
  have Z1 : w.heap.size + 1 < w1.heap.size := by have := g1.2.2; simp at this; omega
  obtain ⟨c0, c1, c2, c3, c4⟩ := (show Vc w1 w.heap.size ⟨2, m, g, x, r⟩ from V1)
  obtain ⟨r0, r1, r2, r3, r4, r5, rz⟩ := (show Rv w1 (w.heap.size + 1) from R1)
  clear g1
  go_wp2_with fail
  refine (HI _).mono ?_
  rintro e w2 ⟨rfl, g2⟩
  have G2 : Hid (Grown w w2) := Grown.trans G1 g2
  have V2 : Hid (Vc w2 w.heap.size ⟨2, m, g, x, r⟩) := Vc.grown V1 g2
  have R2 : Hid (Rv w2 (w.heap.size + 1)) := Rv.grown R1 g2
  have Z2 : w.heap.size + 1 < w2.heap.size := Nat.lt_of_lt_of_le Z1 g2.2.2
  clear G1 V1 R1 Z1 c0 c1 c2 c3 c4 r0 r1 r2 r3 r4 r5 rz
  obtain ⟨c0, c1, c2, c3, c4⟩ := (show Vc w2 w.heap.size ⟨2, m, g, x, r⟩ from V2)
  obtain ⟨r0, r1, r2, r3, r4, r5, rz⟩ := (show Rv w2 (w.heap.size + 1) from R2)
  clear g2
  go_wp2_with fail
  refine (HG _).mono ?_
  rintro e w3 ⟨rfl, g3⟩
  have G3 : Hid (Grown w w3) := Grown.trans G2 g3
  have V3 : Hid (Vc w3 w.heap.size ⟨2, m, g, x, r⟩) := Vc.grown V2 g3
  have R3 : Hid (Rv w3 (w.heap.size + 1)) := Rv.grown R2 g3
  have Z3 : w.heap.size + 1 < w3.heap.size := Nat.lt_of_lt_of_le Z2 g3.2.2
  clear G2 V2 R2 Z2 c0 c1 c2 c3 c4 r0 r1 r2 r3 r4 r5 rz
  obtain ⟨c0, c1, c2, c3, c4⟩ := (show Vc w3 w.heap.size ⟨2, m, g, x, r⟩ from V3)
  obtain ⟨r0, r1, r2, r3, r4, r5, rz⟩ := (show Rv w3 (w.heap.size + 1) from R3)
  clear g3
  go_wp2_with fail
  obtain ⟨e0, e1, e2, e3, e4, e5⟩ := rv_set' (show Rv w3 (w.heap.size + 1) from R3) 0 2 (wrap64 (-m)) 0 ⟨#[]⟩ 0
  have GG : Hid (Grown w (s6 w3 (w.heap.size + 1) 0 2 (wrap64 (-m)) 0 ⟨#[]⟩ 0)) := s6_grown G3 (by omega) 0 2 (wrap64 (-m)) 0 ⟨#[]⟩ 0
  obtain ⟨WF, hWF⟩ : ∃ WF, WF = s6 w3 (w.heap.size + 1) 0 2 (wrap64 (-m)) 0 ⟨#[]⟩ 0 := ⟨_, rfl⟩
  rw [← hWF] at e0 e1 e2 e3 e4 e5 GG
  have hWF' := hWF
  unfold s6 at hWF'
  rw [← hWF']
  clear hWF hWF'
  refine bodyPost_ret (by simp [results, Try.results18, go_sem, e0, e1, e2, e3, e4, e5]; rfl) rfl ?_
  exact ⟨rfl, GG⟩
set_option maxRecDepth 100000 in
set_option maxHeartbeats 2000000 in
theorem sp_un_fi (op : Int) (v : Vv) (hx : (v.x.size : Int) ≤ 1048576) (ho : vok v) (hop : op = 20) (hk : v.k = 2) (w : World) : Calls Try.prog 18 #[.int .i64 op, vv v] w fun e w' => e = .returned (va 0 ⟨2, (bits .xor .i64 (-1) v.m), 0, ⟨#[]⟩, 0⟩) ∧ Grown w w' := by
  have HO := fun w => sp_ok v hx w
  rw [dc_t ho] at HO
  have HI := fun w => sp_int (bits .xor .i64 (-1) v.m) w
  have HG := fun w => sp_got ⟨2, (bits .xor .i64 (-1) v.m), 0, ⟨#[]⟩, 0⟩ w
  obtain ⟨k, m, g, x, r⟩ := v
  unfold vv at *
  unfold va at *
  dsimp only at *
  clear hx ho
  subst hop
  subst hk
  have hst : ∀ (a : Addr) (n : Nat) (m : Mode) (w : World), (store a (.float .f64 n) m).run Try.prog w = stored Try.prog w a (.float .f64 n) m := fun a n m w => run_store _ _ _ _ _ rfl
  go_enter Try.func18, Try.ntmps18
  go_wp2_with fail
  refine (HO _).mono ?_
  rintro e w1 ⟨rfl, g1⟩
  have G1 : Hid (Grown w w1) := Grown.trans (by go_grown) g1
  have V1 : Hid (Vc w1 w.heap.size ⟨2, m, g, x, r⟩) := Vc.grown ((Vc.new w 2 m g x r 27).grown (Grown.alloc (Grown.refl _) _ _)) g1
  have R1 : Hid (Rv w1 (w.heap.size + 1)) := by
    have h := Rv.new (w.alloc (.cells #[.int .i64 2, .int .i64 m, .float .f64 g, .string x, .int .i64 r] 27)) 34
    rw [World.size_alloc] at h
    exact h.grown g1
  have Z1 : w.heap.size + 1 < w1.heap.size := by have := g1.2.2; simp at this; omega
  obtain ⟨c0, c1, c2, c3, c4⟩ := (show Vc w1 w.heap.size ⟨2, m, g, x, r⟩ from V1)
  obtain ⟨r0, r1, r2, r3, r4, r5, rz⟩ := (show Rv w1 (w.heap.size + 1) from R1)
  clear g1
  go_wp2_with fail
  refine (HI _).mono ?_
  rintro e w2 ⟨rfl, g2⟩
  have G2 : Hid (Grown w w2) := Grown.trans G1 g2
  have V2 : Hid (Vc w2 w.heap.size ⟨2, m, g, x, r⟩) := Vc.grown V1 g2
  have R2 : Hid (Rv w2 (w.heap.size + 1)) := Rv.grown R1 g2
  have Z2 : w.heap.size + 1 < w2.heap.size := Nat.lt_of_lt_of_le Z1 g2.2.2
  clear G1 V1 R1 Z1 c0 c1 c2 c3 c4 r0 r1 r2 r3 r4 r5 rz
  obtain ⟨c0, c1, c2, c3, c4⟩ := (show Vc w2 w.heap.size ⟨2, m, g, x, r⟩ from V2)
  obtain ⟨r0, r1, r2, r3, r4, r5, rz⟩ := (show Rv w2 (w.heap.size + 1) from R2)
  clear g2
  go_wp2_with fail
  refine (HG _).mono ?_
  rintro e w3 ⟨rfl, g3⟩
  have G3 : Hid (Grown w w3) := Grown.trans G2 g3
  have V3 : Hid (Vc w3 w.heap.size ⟨2, m, g, x, r⟩) := Vc.grown V2 g3
  have R3 : Hid (Rv w3 (w.heap.size + 1)) := Rv.grown R2 g3
  have Z3 : w.heap.size + 1 < w3.heap.size := Nat.lt_of_lt_of_le Z2 g3.2.2
  clear G2 V2 R2 Z2 c0 c1 c2 c3 c4 r0 r1 r2 r3 r4 r5 rz
  obtain ⟨c0, c1, c2, c3, c4⟩ := (show Vc w3 w.heap.size ⟨2, m, g, x, r⟩ from V3)
  obtain ⟨r0, r1, r2, r3, r4, r5, rz⟩ := (show Rv w3 (w.heap.size + 1) from R3)
  clear g3
  go_wp2_with fail
  obtain ⟨e0, e1, e2, e3, e4, e5⟩ := rv_set' (show Rv w3 (w.heap.size + 1) from R3) 0 2 (bits .xor .i64 (-1) m) 0 ⟨#[]⟩ 0
  have GG : Hid (Grown w (s6 w3 (w.heap.size + 1) 0 2 (bits .xor .i64 (-1) m) 0 ⟨#[]⟩ 0)) := s6_grown G3 (by omega) 0 2 (bits .xor .i64 (-1) m) 0 ⟨#[]⟩ 0
  obtain ⟨WF, hWF⟩ : ∃ WF, WF = s6 w3 (w.heap.size + 1) 0 2 (bits .xor .i64 (-1) m) 0 ⟨#[]⟩ 0 := ⟨_, rfl⟩
  rw [← hWF] at e0 e1 e2 e3 e4 e5 GG
  have hWF' := hWF
  unfold s6 at hWF'
  rw [← hWF']
  clear hWF hWF'
  refine bodyPost_ret (by simp [results, Try.results18, go_sem, e0, e1, e2, e3, e4, e5]; rfl) rfl ?_
  exact ⟨rfl, GG⟩
set_option maxRecDepth 100000 in
set_option maxHeartbeats 2000000 in
theorem sp_un_ls (op : Int) (v : Vv) (hx : (v.x.size : Int) ≤ 1048576) (ho : vok v) (hop : op = 22) (hk : v.k = 4) (w : World) : Calls Try.prog 18 #[.int .i64 op, vv v] w fun e w' => e = .returned (va 0 ⟨2, (v.x.size : Int), 0, ⟨#[]⟩, 0⟩) ∧ Grown w w' := by
  have HO := fun w => sp_ok v hx w
  rw [dc_t ho] at HO
  have HI := fun w => sp_int (v.x.size : Int) w
  have HG := fun w => sp_got ⟨2, (v.x.size : Int), 0, ⟨#[]⟩, 0⟩ w
  obtain ⟨k, m, g, x, r⟩ := v
  unfold vv at *
  unfold va at *
  dsimp only at *
  clear hx ho
  subst hop
  subst hk
  have hst : ∀ (a : Addr) (n : Nat) (m : Mode) (w : World), (store a (.float .f64 n) m).run Try.prog w = stored Try.prog w a (.float .f64 n) m := fun a n m w => run_store _ _ _ _ _ rfl
  go_enter Try.func18, Try.ntmps18
  go_wp2_with fail
  refine (HO _).mono ?_
  rintro e w1 ⟨rfl, g1⟩
  have G1 : Hid (Grown w w1) := Grown.trans (by go_grown) g1
  have V1 : Hid (Vc w1 w.heap.size ⟨4, m, g, x, r⟩) := Vc.grown ((Vc.new w 4 m g x r 27).grown (Grown.alloc (Grown.refl _) _ _)) g1
  have R1 : Hid (Rv w1 (w.heap.size + 1)) := by
    have h := Rv.new (w.alloc (.cells #[.int .i64 4, .int .i64 m, .float .f64 g, .string x, .int .i64 r] 27)) 34
    rw [World.size_alloc] at h
    exact h.grown g1
  have Z1 : w.heap.size + 1 < w1.heap.size := by have := g1.2.2; simp at this; omega
  obtain ⟨c0, c1, c2, c3, c4⟩ := (show Vc w1 w.heap.size ⟨4, m, g, x, r⟩ from V1)
  obtain ⟨r0, r1, r2, r3, r4, r5, rz⟩ := (show Rv w1 (w.heap.size + 1) from R1)
  clear g1
  go_wp2_with fail
  refine (HI _).mono ?_
  rintro e w2 ⟨rfl, g2⟩
  have G2 : Hid (Grown w w2) := Grown.trans G1 g2
  have V2 : Hid (Vc w2 w.heap.size ⟨4, m, g, x, r⟩) := Vc.grown V1 g2
  have R2 : Hid (Rv w2 (w.heap.size + 1)) := Rv.grown R1 g2
  have Z2 : w.heap.size + 1 < w2.heap.size := Nat.lt_of_lt_of_le Z1 g2.2.2
  clear G1 V1 R1 Z1 c0 c1 c2 c3 c4 r0 r1 r2 r3 r4 r5 rz
  obtain ⟨c0, c1, c2, c3, c4⟩ := (show Vc w2 w.heap.size ⟨4, m, g, x, r⟩ from V2)
  obtain ⟨r0, r1, r2, r3, r4, r5, rz⟩ := (show Rv w2 (w.heap.size + 1) from R2)
  clear g2
  go_wp2_with fail
  refine (HG _).mono ?_
  rintro e w3 ⟨rfl, g3⟩
  have G3 : Hid (Grown w w3) := Grown.trans G2 g3
  have V3 : Hid (Vc w3 w.heap.size ⟨4, m, g, x, r⟩) := Vc.grown V2 g3
  have R3 : Hid (Rv w3 (w.heap.size + 1)) := Rv.grown R2 g3
  have Z3 : w.heap.size + 1 < w3.heap.size := Nat.lt_of_lt_of_le Z2 g3.2.2
  clear G2 V2 R2 Z2 c0 c1 c2 c3 c4 r0 r1 r2 r3 r4 r5 rz
  obtain ⟨c0, c1, c2, c3, c4⟩ := (show Vc w3 w.heap.size ⟨4, m, g, x, r⟩ from V3)
  obtain ⟨r0, r1, r2, r3, r4, r5, rz⟩ := (show Rv w3 (w.heap.size + 1) from R3)
  clear g3
  go_wp2_with fail
  obtain ⟨e0, e1, e2, e3, e4, e5⟩ := rv_set' (show Rv w3 (w.heap.size + 1) from R3) 0 2 (x.size : Int) 0 ⟨#[]⟩ 0
  have GG : Hid (Grown w (s6 w3 (w.heap.size + 1) 0 2 (x.size : Int) 0 ⟨#[]⟩ 0)) := s6_grown G3 (by omega) 0 2 (x.size : Int) 0 ⟨#[]⟩ 0
  obtain ⟨WF, hWF⟩ : ∃ WF, WF = s6 w3 (w.heap.size + 1) 0 2 (x.size : Int) 0 ⟨#[]⟩ 0 := ⟨_, rfl⟩
  rw [← hWF] at e0 e1 e2 e3 e4 e5 GG
  have hWF' := hWF
  unfold s6 at hWF'
  rw [← hWF']
  clear hWF hWF'
  refine bodyPost_ret (by simp [results, Try.results18, go_sem, e0, e1, e2, e3, e4, e5]; rfl) rfl ?_
  exact ⟨rfl, GG⟩
set_option maxRecDepth 100000 in
set_option maxHeartbeats 2000000 in
theorem sp_un_nf (op : Int) (v : Vv) (hx : (v.x.size : Int) ≤ 1048576) (ho : vok v) (hop : op = 19) (hk : v.k = 3) (w : World) : Calls Try.prog 18 #[.int .i64 op, vv v] w fun e w' => e = .returned (va 0 ⟨3, 0, (Op.negFloat .f64 v.g), ⟨#[]⟩, 0⟩) ∧ Grown w w' := by
  have HO := fun w => sp_ok v hx w
  rw [dc_t ho] at HO
  have HI := fun w => sp_flt (Op.negFloat .f64 v.g) w
  have HG := fun w => sp_got ⟨3, 0, (Op.negFloat .f64 v.g), ⟨#[]⟩, 0⟩ w
  obtain ⟨k, m, g, x, r⟩ := v
  unfold vv at *
  unfold va at *
  dsimp only at *
  clear hx ho
  subst hop
  subst hk
  have hst : ∀ (a : Addr) (n : Nat) (m : Mode) (w : World), (store a (.float .f64 n) m).run Try.prog w = stored Try.prog w a (.float .f64 n) m := fun a n m w => run_store _ _ _ _ _ rfl
  go_enter Try.func18, Try.ntmps18
  go_wp2_with fail
  refine (HO _).mono ?_
  rintro e w1 ⟨rfl, g1⟩
  have G1 : Hid (Grown w w1) := Grown.trans (by go_grown) g1
  have V1 : Hid (Vc w1 w.heap.size ⟨3, m, g, x, r⟩) := Vc.grown ((Vc.new w 3 m g x r 27).grown (Grown.alloc (Grown.refl _) _ _)) g1
  have R1 : Hid (Rv w1 (w.heap.size + 1)) := by
    have h := Rv.new (w.alloc (.cells #[.int .i64 3, .int .i64 m, .float .f64 g, .string x, .int .i64 r] 27)) 34
    rw [World.size_alloc] at h
    exact h.grown g1
  have Z1 : w.heap.size + 1 < w1.heap.size := by have := g1.2.2; simp at this; omega
  obtain ⟨c0, c1, c2, c3, c4⟩ := (show Vc w1 w.heap.size ⟨3, m, g, x, r⟩ from V1)
  obtain ⟨r0, r1, r2, r3, r4, r5, rz⟩ := (show Rv w1 (w.heap.size + 1) from R1)
  clear g1
  go_wp2_with fail
  refine (HI _).mono ?_
  rintro e w2 ⟨rfl, g2⟩
  have G2 : Hid (Grown w w2) := Grown.trans G1 g2
  have V2 : Hid (Vc w2 w.heap.size ⟨3, m, g, x, r⟩) := Vc.grown V1 g2
  have R2 : Hid (Rv w2 (w.heap.size + 1)) := Rv.grown R1 g2
  have Z2 : w.heap.size + 1 < w2.heap.size := Nat.lt_of_lt_of_le Z1 g2.2.2
  clear G1 V1 R1 Z1 c0 c1 c2 c3 c4 r0 r1 r2 r3 r4 r5 rz
  obtain ⟨c0, c1, c2, c3, c4⟩ := (show Vc w2 w.heap.size ⟨3, m, g, x, r⟩ from V2)
  obtain ⟨r0, r1, r2, r3, r4, r5, rz⟩ := (show Rv w2 (w.heap.size + 1) from R2)
  clear g2
  go_wp2_with fail
  refine (HG _).mono ?_
  rintro e w3 ⟨rfl, g3⟩
  have G3 : Hid (Grown w w3) := Grown.trans G2 g3
  have V3 : Hid (Vc w3 w.heap.size ⟨3, m, g, x, r⟩) := Vc.grown V2 g3
  have R3 : Hid (Rv w3 (w.heap.size + 1)) := Rv.grown R2 g3
  have Z3 : w.heap.size + 1 < w3.heap.size := Nat.lt_of_lt_of_le Z2 g3.2.2
  clear G2 V2 R2 Z2 c0 c1 c2 c3 c4 r0 r1 r2 r3 r4 r5 rz
  obtain ⟨c0, c1, c2, c3, c4⟩ := (show Vc w3 w.heap.size ⟨3, m, g, x, r⟩ from V3)
  obtain ⟨r0, r1, r2, r3, r4, r5, rz⟩ := (show Rv w3 (w.heap.size + 1) from R3)
  clear g3
  go_wp2_with fail
  obtain ⟨e0, e1, e2, e3, e4, e5⟩ := rv_set' (show Rv w3 (w.heap.size + 1) from R3) 0 3 0 (Op.negFloat .f64 g) ⟨#[]⟩ 0
  have GG : Hid (Grown w (s6 w3 (w.heap.size + 1) 0 3 0 (Op.negFloat .f64 g) ⟨#[]⟩ 0)) := s6_grown G3 (by omega) 0 3 0 (Op.negFloat .f64 g) ⟨#[]⟩ 0
  obtain ⟨WF, hWF⟩ : ∃ WF, WF = s6 w3 (w.heap.size + 1) 0 3 0 (Op.negFloat .f64 g) ⟨#[]⟩ 0 := ⟨_, rfl⟩
  rw [← hWF] at e0 e1 e2 e3 e4 e5 GG
  have hWF' := hWF
  unfold s6 at hWF'
  rw [← hWF']
  clear hWF hWF'
  refine bodyPost_ret (by simp [results, Try.results18, go_sem, e0, e1, e2, e3, e4, e5]; rfl) rfl ?_
  exact ⟨rfl, GG⟩
end Go.Proofs.Ytndpgnmicikaaaa
