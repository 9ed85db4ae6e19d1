import Derived.Test.YtladepgpandklaaGreatDoorMVdb
namespace Go.Proofs.YtladepgpandklaaGreatDoor
open Go.ChangeShapes Go.WideShapes Go.ChangeAt Go.RowKit
set_option linter.unusedVariables false
set_option maxRecDepth 100000
set_option maxHeartbeats 2000000 in
theorem sp_fl_1 (x y : Nat) (w : World) : Calls Tryz.prog 20 #[.int .i64 1, .float .f64 x, .float .f64 y] w fun e w' => ∃ g, e = .returned (va 0 ⟨3, 0, g, ⟨#[]⟩, 0⟩) ∧ OR (fo 1 x y) g ∧ Grown w w' := by
  have hA := fun x y w => arith_run (op := .add) (.inl rfl) x y w
  have HF := fun g w => sp_flt g w
  have HG := fun g w => sp_got ⟨3, 0, g, ⟨#[]⟩, 0⟩ w
  unfold vv at HF HG
  unfold va at HG
  dsimp only at HF HG
  unfold va
  dsimp only
  have hst : ∀ (a : Addr) (n : Nat) (m : Mode) (w : World), (store a (.float .f64 n) m).run Tryz.prog w = stored Tryz.prog w a (.float .f64 n) m := fun a n m w => run_store _ _ _ _ _ rfl
  go_enter Tryz.func20, Tryz.ntmps20
  go_wp2_with fail
  have hor := or_afr .add x y (w.alloc (.cells #[.int .i64 0, .int .i64 0, .int .i64 0, .float .f64 0, .string ⟨#[]⟩, .int .i64 0] 28))
  have gr : Grown w (afw .add x y (w.alloc (.cells #[.int .i64 0, .int .i64 0, .int .i64 0, .float .f64 0, .string ⟨#[]⟩, .int .i64 0] 28))) := Grown.trans (Grown.alloc (Grown.refl _) _ _) (afw_grown _ _ _ _)
  have rv : Rv (afw .add x y (w.alloc (.cells #[.int .i64 0, .int .i64 0, .int .i64 0, .float .f64 0, .string ⟨#[]⟩, .int .i64 0] 28))) w.heap.size := Rv.grown (Rv.new w 28) (afw_grown _ _ _ _)
  generalize afr .add x y (w.alloc (.cells #[.int .i64 0, .int .i64 0, .int .i64 0, .float .f64 0, .string ⟨#[]⟩, .int .i64 0] 28)) = g0 at *
  generalize afw .add x y (w.alloc (.cells #[.int .i64 0, .int .i64 0, .int .i64 0, .float .f64 0, .string ⟨#[]⟩, .int .i64 0] 28)) = W0 at *
  have HOR : Hid (OR (floatBits .add .f64 x y) g0) := hor
  have G0 : Hid (Grown w W0) := gr
  have R0 : Hid (Rv W0 w.heap.size) := rv
  clear hor gr rv hA
  refine (HF _ _).mono ?_
  rintro e w1 ⟨rfl, g1⟩
  have G1 : Hid (Grown w w1) := Grown.trans G0 g1
  have R1 : Hid (Rv w1 w.heap.size) := Rv.grown R0 g1
  clear g1 G0 R0
  go_wp2_with fail
  refine (HG _ _).mono ?_
  rintro e w2 ⟨rfl, g2⟩
  have G2 : Hid (Grown w w2) := Grown.trans G1 g2
  have R2 : Hid (Rv w2 w.heap.size) := Rv.grown R1 g2
  clear g2 G1 R1
  have Z2 : w.heap.size < w2.heap.size := by
    have := (show Rv w2 w.heap.size from R2).c0
    unfold World.cell? at this
    cases hh : w2.heap[w.heap.size]? with
    | none => simp [hh] at this
    | some o => exact (Array.getElem?_eq_some_iff.1 hh).1
  obtain ⟨r0, r1, r2, r3, r4, r5, rz⟩ := (show Rv w2 w.heap.size from R2)
  go_wp2_with fail
  obtain ⟨e0, e1, e2, e3, e4, e5⟩ := rv_set' (show Rv w2 w.heap.size from R2) 0 3 0 g0 ⟨#[]⟩ 0
  have GG : Hid (Grown w (s6 w2 w.heap.size 0 3 0 g0 ⟨#[]⟩ 0)) := s6_grown G2 (Nat.le_refl _) 0 3 0 g0 ⟨#[]⟩ 0
  obtain ⟨WF, hWF⟩ : ∃ WF, WF = s6 w2 w.heap.size 0 3 0 g0 ⟨#[]⟩ 0 := ⟨_, rfl⟩
  rw [← hWF] at e0 e1 e2 e3 e4 e5 GG
  have hWF' := hWF
  unfold s6 at hWF'
  rw [← hWF']
  clear hWF hWF'
  refine bodyPost_ret (by simp [results, Tryz.results20, go_sem, e0, e1, e2, e3, e4, e5]; rfl) rfl ?_
  exact ⟨g0, rfl, HOR, GG⟩
set_option maxHeartbeats 2000000 in
theorem sp_fl_2 (x y : Nat) (w : World) : Calls Tryz.prog 20 #[.int .i64 2, .float .f64 x, .float .f64 y] w fun e w' => ∃ g, e = .returned (va 0 ⟨3, 0, g, ⟨#[]⟩, 0⟩) ∧ OR (fo 2 x y) g ∧ Grown w w' := by
  have hA := fun x y w => arith_run (op := .sub) (.inr (.inl rfl)) x y w
  have HF := fun g w => sp_flt g w
  have HG := fun g w => sp_got ⟨3, 0, g, ⟨#[]⟩, 0⟩ w
  unfold vv at HF HG
  unfold va at HG
  dsimp only at HF HG
  unfold va
  dsimp only
  have hst : ∀ (a : Addr) (n : Nat) (m : Mode) (w : World), (store a (.float .f64 n) m).run Tryz.prog w = stored Tryz.prog w a (.float .f64 n) m := fun a n m w => run_store _ _ _ _ _ rfl
  go_enter Tryz.func20, Tryz.ntmps20
  go_wp2_with fail
  have hor := or_afr .sub x y (w.alloc (.cells #[.int .i64 0, .int .i64 0, .int .i64 0, .float .f64 0, .string ⟨#[]⟩, .int .i64 0] 28))
  have gr : Grown w (afw .sub x y (w.alloc (.cells #[.int .i64 0, .int .i64 0, .int .i64 0, .float .f64 0, .string ⟨#[]⟩, .int .i64 0] 28))) := Grown.trans (Grown.alloc (Grown.refl _) _ _) (afw_grown _ _ _ _)
  have rv : Rv (afw .sub x y (w.alloc (.cells #[.int .i64 0, .int .i64 0, .int .i64 0, .float .f64 0, .string ⟨#[]⟩, .int .i64 0] 28))) w.heap.size := Rv.grown (Rv.new w 28) (afw_grown _ _ _ _)
  generalize afr .sub x y (w.alloc (.cells #[.int .i64 0, .int .i64 0, .int .i64 0, .float .f64 0, .string ⟨#[]⟩, .int .i64 0] 28)) = g0 at *
  generalize afw .sub x y (w.alloc (.cells #[.int .i64 0, .int .i64 0, .int .i64 0, .float .f64 0, .string ⟨#[]⟩, .int .i64 0] 28)) = W0 at *
  have HOR : Hid (OR (floatBits .sub .f64 x y) g0) := hor
  have G0 : Hid (Grown w W0) := gr
  have R0 : Hid (Rv W0 w.heap.size) := rv
  clear hor gr rv hA
  refine (HF _ _).mono ?_
  rintro e w1 ⟨rfl, g1⟩
  have G1 : Hid (Grown w w1) := Grown.trans G0 g1
  have R1 : Hid (Rv w1 w.heap.size) := Rv.grown R0 g1
  clear g1 G0 R0
  go_wp2_with fail
  refine (HG _ _).mono ?_
  rintro e w2 ⟨rfl, g2⟩
  have G2 : Hid (Grown w w2) := Grown.trans G1 g2
  have R2 : Hid (Rv w2 w.heap.size) := Rv.grown R1 g2
  clear g2 G1 R1
  have Z2 : w.heap.size < w2.heap.size := by
    have := (show Rv w2 w.heap.size from R2).c0
    unfold World.cell? at this
    cases hh : w2.heap[w.heap.size]? with
    | none => simp [hh] at this
    | some o => exact (Array.getElem?_eq_some_iff.1 hh).1
  obtain ⟨r0, r1, r2, r3, r4, r5, rz⟩ := (show Rv w2 w.heap.size from R2)
  go_wp2_with fail
  obtain ⟨e0, e1, e2, e3, e4, e5⟩ := rv_set' (show Rv w2 w.heap.size from R2) 0 3 0 g0 ⟨#[]⟩ 0
  have GG : Hid (Grown w (s6 w2 w.heap.size 0 3 0 g0 ⟨#[]⟩ 0)) := s6_grown G2 (Nat.le_refl _) 0 3 0 g0 ⟨#[]⟩ 0
  obtain ⟨WF, hWF⟩ : ∃ WF, WF = s6 w2 w.heap.size 0 3 0 g0 ⟨#[]⟩ 0 := ⟨_, rfl⟩
  rw [← hWF] at e0 e1 e2 e3 e4 e5 GG
  have hWF' := hWF
  unfold s6 at hWF'
  rw [← hWF']
  clear hWF hWF'
  refine bodyPost_ret (by simp [results, Tryz.results20, go_sem, e0, e1, e2, e3, e4, e5]; rfl) rfl ?_
  exact ⟨g0, rfl, HOR, GG⟩
set_option maxHeartbeats 2000000 in
theorem sp_fl_3 (x y : Nat) (w : World) : Calls Tryz.prog 20 #[.int .i64 3, .float .f64 x, .float .f64 y] w fun e w' => ∃ g, e = .returned (va 0 ⟨3, 0, g, ⟨#[]⟩, 0⟩) ∧ OR (fo 3 x y) g ∧ Grown w w' := by
  have hA := fun x y w => arith_run (op := .mul) (.inr (.inr (.inl rfl))) x y w
  have HF := fun g w => sp_flt g w
  have HG := fun g w => sp_got ⟨3, 0, g, ⟨#[]⟩, 0⟩ w
  unfold vv at HF HG
  unfold va at HG
  dsimp only at HF HG
  unfold va
  dsimp only
  have hst : ∀ (a : Addr) (n : Nat) (m : Mode) (w : World), (store a (.float .f64 n) m).run Tryz.prog w = stored Tryz.prog w a (.float .f64 n) m := fun a n m w => run_store _ _ _ _ _ rfl
  go_enter Tryz.func20, Tryz.ntmps20
  go_wp2_with fail
  have hor := or_afr .mul x y (w.alloc (.cells #[.int .i64 0, .int .i64 0, .int .i64 0, .float .f64 0, .string ⟨#[]⟩, .int .i64 0] 28))
  have gr : Grown w (afw .mul x y (w.alloc (.cells #[.int .i64 0, .int .i64 0, .int .i64 0, .float .f64 0, .string ⟨#[]⟩, .int .i64 0] 28))) := Grown.trans (Grown.alloc (Grown.refl _) _ _) (afw_grown _ _ _ _)
  have rv : Rv (afw .mul x y (w.alloc (.cells #[.int .i64 0, .int .i64 0, .int .i64 0, .float .f64 0, .string ⟨#[]⟩, .int .i64 0] 28))) w.heap.size := Rv.grown (Rv.new w 28) (afw_grown _ _ _ _)
  generalize afr .mul x y (w.alloc (.cells #[.int .i64 0, .int .i64 0, .int .i64 0, .float .f64 0, .string ⟨#[]⟩, .int .i64 0] 28)) = g0 at *
  generalize afw .mul x y (w.alloc (.cells #[.int .i64 0, .int .i64 0, .int .i64 0, .float .f64 0, .string ⟨#[]⟩, .int .i64 0] 28)) = W0 at *
  have HOR : Hid (OR (floatBits .mul .f64 x y) g0) := hor
  have G0 : Hid (Grown w W0) := gr
  have R0 : Hid (Rv W0 w.heap.size) := rv
  clear hor gr rv hA
  refine (HF _ _).mono ?_
  rintro e w1 ⟨rfl, g1⟩
  have G1 : Hid (Grown w w1) := Grown.trans G0 g1
  have R1 : Hid (Rv w1 w.heap.size) := Rv.grown R0 g1
  clear g1 G0 R0
  go_wp2_with fail
  refine (HG _ _).mono ?_
  rintro e w2 ⟨rfl, g2⟩
  have G2 : Hid (Grown w w2) := Grown.trans G1 g2
  have R2 : Hid (Rv w2 w.heap.size) := Rv.grown R1 g2
  clear g2 G1 R1
  have Z2 : w.heap.size < w2.heap.size := by
    have := (show Rv w2 w.heap.size from R2).c0
    unfold World.cell? at this
    cases hh : w2.heap[w.heap.size]? with
    | none => simp [hh] at this
    | some o => exact (Array.getElem?_eq_some_iff.1 hh).1
  obtain ⟨r0, r1, r2, r3, r4, r5, rz⟩ := (show Rv w2 w.heap.size from R2)
  go_wp2_with fail
  obtain ⟨e0, e1, e2, e3, e4, e5⟩ := rv_set' (show Rv w2 w.heap.size from R2) 0 3 0 g0 ⟨#[]⟩ 0
  have GG : Hid (Grown w (s6 w2 w.heap.size 0 3 0 g0 ⟨#[]⟩ 0)) := s6_grown G2 (Nat.le_refl _) 0 3 0 g0 ⟨#[]⟩ 0
  obtain ⟨WF, hWF⟩ : ∃ WF, WF = s6 w2 w.heap.size 0 3 0 g0 ⟨#[]⟩ 0 := ⟨_, rfl⟩
  rw [← hWF] at e0 e1 e2 e3 e4 e5 GG
  have hWF' := hWF
  unfold s6 at hWF'
  rw [← hWF']
  clear hWF hWF'
  refine bodyPost_ret (by simp [results, Tryz.results20, go_sem, e0, e1, e2, e3, e4, e5]; rfl) rfl ?_
  exact ⟨g0, rfl, HOR, GG⟩
set_option maxHeartbeats 2000000 in
theorem sp_fl_4 (x y : Nat) (w : World) : Calls Tryz.prog 20 #[.int .i64 4, .float .f64 x, .float .f64 y] w fun e w' => ∃ g, e = .returned (va 0 ⟨3, 0, g, ⟨#[]⟩, 0⟩) ∧ OR (fo 4 x y) g ∧ Grown w w' := by
  have hA := fun x y w => arith_run (op := .quo) (.inr (.inr (.inr rfl))) x y w
  have HF := fun g w => sp_flt g w
  have HG := fun g w => sp_got ⟨3, 0, g, ⟨#[]⟩, 0⟩ w
  unfold vv at HF HG
  unfold va at HG
  dsimp only at HF HG
  unfold va
  dsimp only
  have hst : ∀ (a : Addr) (n : Nat) (m : Mode) (w : World), (store a (.float .f64 n) m).run Tryz.prog w = stored Tryz.prog w a (.float .f64 n) m := fun a n m w => run_store _ _ _ _ _ rfl
  go_enter Tryz.func20, Tryz.ntmps20
  go_wp2_with fail
  have hor := or_afr .quo x y (w.alloc (.cells #[.int .i64 0, .int .i64 0, .int .i64 0, .float .f64 0, .string ⟨#[]⟩, .int .i64 0] 28))
  have gr : Grown w (afw .quo x y (w.alloc (.cells #[.int .i64 0, .int .i64 0, .int .i64 0, .float .f64 0, .string ⟨#[]⟩, .int .i64 0] 28))) := Grown.trans (Grown.alloc (Grown.refl _) _ _) (afw_grown _ _ _ _)
  have rv : Rv (afw .quo x y (w.alloc (.cells #[.int .i64 0, .int .i64 0, .int .i64 0, .float .f64 0, .string ⟨#[]⟩, .int .i64 0] 28))) w.heap.size := Rv.grown (Rv.new w 28) (afw_grown _ _ _ _)
  generalize afr .quo x y (w.alloc (.cells #[.int .i64 0, .int .i64 0, .int .i64 0, .float .f64 0, .string ⟨#[]⟩, .int .i64 0] 28)) = g0 at *
  generalize afw .quo x y (w.alloc (.cells #[.int .i64 0, .int .i64 0, .int .i64 0, .float .f64 0, .string ⟨#[]⟩, .int .i64 0] 28)) = W0 at *
  have HOR : Hid (OR (floatBits .quo .f64 x y) g0) := hor
  have G0 : Hid (Grown w W0) := gr
  have R0 : Hid (Rv W0 w.heap.size) := rv
  clear hor gr rv hA
  refine (HF _ _).mono ?_
  rintro e w1 ⟨rfl, g1⟩
  have G1 : Hid (Grown w w1) := Grown.trans G0 g1
  have R1 : Hid (Rv w1 w.heap.size) := Rv.grown R0 g1
  clear g1 G0 R0
  go_wp2_with fail
  refine (HG _ _).mono ?_
  rintro e w2 ⟨rfl, g2⟩
  have G2 : Hid (Grown w w2) := Grown.trans G1 g2
  have R2 : Hid (Rv w2 w.heap.size) := Rv.grown R1 g2
  clear g2 G1 R1
  have Z2 : w.heap.size < w2.heap.size := by
    have := (show Rv w2 w.heap.size from R2).c0
    unfold World.cell? at this
    cases hh : w2.heap[w.heap.size]? with
    | none => simp [hh] at this
    | some o => exact (Array.getElem?_eq_some_iff.1 hh).1
  obtain ⟨r0, r1, r2, r3, r4, r5, rz⟩ := (show Rv w2 w.heap.size from R2)
  go_wp2_with fail
  obtain ⟨e0, e1, e2, e3, e4, e5⟩ := rv_set' (show Rv w2 w.heap.size from R2) 0 3 0 g0 ⟨#[]⟩ 0
  have GG : Hid (Grown w (s6 w2 w.heap.size 0 3 0 g0 ⟨#[]⟩ 0)) := s6_grown G2 (Nat.le_refl _) 0 3 0 g0 ⟨#[]⟩ 0
  obtain ⟨WF, hWF⟩ : ∃ WF, WF = s6 w2 w.heap.size 0 3 0 g0 ⟨#[]⟩ 0 := ⟨_, rfl⟩
  rw [← hWF] at e0 e1 e2 e3 e4 e5 GG
  have hWF' := hWF
  unfold s6 at hWF'
  rw [← hWF']
  clear hWF hWF'
  refine bodyPost_ret (by simp [results, Tryz.results20, go_sem, e0, e1, e2, e3, e4, e5]; rfl) rfl ?_
  exact ⟨g0, rfl, HOR, GG⟩
set_option maxHeartbeats 2000000 in
theorem sp_fl_5 (x y : Nat) (w : World) : Calls Tryz.prog 20 #[.int .i64 5, .float .f64 x, .float .f64 y] w fun e w' => ∃ g, e = .returned (va 0 ⟨3, 0, g, ⟨#[]⟩, 0⟩) ∧ OR (fo 5 x y) g ∧ Grown w w' := by
  have hA := fun x y w => arith_run (op := .quo) (.inr (.inr (.inr rfl))) x y w
  have HF := fun g w => sp_flt g w
  have HG := fun g w => sp_got ⟨3, 0, g, ⟨#[]⟩, 0⟩ w
  unfold vv at HF HG
  unfold va at HG
  dsimp only at HF HG
  unfold va
  dsimp only
  have hst : ∀ (a : Addr) (n : Nat) (m : Mode) (w : World), (store a (.float .f64 n) m).run Tryz.prog w = stored Tryz.prog w a (.float .f64 n) m := fun a n m w => run_store _ _ _ _ _ rfl
  go_enter Tryz.func20, Tryz.ntmps20
  go_wp2_with fail
  have hor := or_afr .quo x y (w.alloc (.cells #[.int .i64 0, .int .i64 0, .int .i64 0, .float .f64 0, .string ⟨#[]⟩, .int .i64 0] 28))
  have gr : Grown w (afw .quo x y (w.alloc (.cells #[.int .i64 0, .int .i64 0, .int .i64 0, .float .f64 0, .string ⟨#[]⟩, .int .i64 0] 28))) := Grown.trans (Grown.alloc (Grown.refl _) _ _) (afw_grown _ _ _ _)
  have rv : Rv (afw .quo x y (w.alloc (.cells #[.int .i64 0, .int .i64 0, .int .i64 0, .float .f64 0, .string ⟨#[]⟩, .int .i64 0] 28))) w.heap.size := Rv.grown (Rv.new w 28) (afw_grown _ _ _ _)
  generalize afr .quo x y (w.alloc (.cells #[.int .i64 0, .int .i64 0, .int .i64 0, .float .f64 0, .string ⟨#[]⟩, .int .i64 0] 28)) = g0 at *
  generalize afw .quo x y (w.alloc (.cells #[.int .i64 0, .int .i64 0, .int .i64 0, .float .f64 0, .string ⟨#[]⟩, .int .i64 0] 28)) = W0 at *
  have HOR : Hid (OR (floatBits .quo .f64 x y) g0) := hor
  have G0 : Hid (Grown w W0) := gr
  have R0 : Hid (Rv W0 w.heap.size) := rv
  clear hor gr rv hA
  refine (sp_floor_or _ _ HOR _).mono ?_
  rintro e w1 ⟨q0, rfl, hy, g1⟩
  have G1 : Hid (Grown w w1) := Grown.trans G0 g1
  have R1 : Hid (Rv w1 w.heap.size) := Rv.grown R0 g1
  clear g1 G0 R0
  have HQ : Hid (OR ((floatBits .quo .f64 x y).map Flt.floorW) q0) := hy
  clear hy HOR
  go_wp2_with fail
  refine (HF _ _).mono ?_
  rintro e w2 ⟨rfl, g2⟩
  have G2 : Hid (Grown w w2) := Grown.trans G1 g2
  have R2 : Hid (Rv w2 w.heap.size) := Rv.grown R1 g2
  clear g2 G1 R1
  go_wp2_with fail
  refine (HG _ _).mono ?_
  rintro e w3 ⟨rfl, g3⟩
  have G3 : Hid (Grown w w3) := Grown.trans G2 g3
  have R3 : Hid (Rv w3 w.heap.size) := Rv.grown R2 g3
  clear g3 G2 R2
  have Z3 : w.heap.size < w3.heap.size := by
    have := (show Rv w3 w.heap.size from R3).c0
    unfold World.cell? at this
    cases hh : w3.heap[w.heap.size]? with
    | none => simp [hh] at this
    | some o => exact (Array.getElem?_eq_some_iff.1 hh).1
  obtain ⟨r0, r1, r2, r3, r4, r5, rz⟩ := (show Rv w3 w.heap.size from R3)
  go_wp2_with fail
  obtain ⟨e0, e1, e2, e3, e4, e5⟩ := rv_set' (show Rv w3 w.heap.size from R3) 0 3 0 q0 ⟨#[]⟩ 0
  have GG : Hid (Grown w (s6 w3 w.heap.size 0 3 0 q0 ⟨#[]⟩ 0)) := s6_grown G3 (Nat.le_refl _) 0 3 0 q0 ⟨#[]⟩ 0
  obtain ⟨WF, hWF⟩ : ∃ WF, WF = s6 w3 w.heap.size 0 3 0 q0 ⟨#[]⟩ 0 := ⟨_, rfl⟩
  rw [← hWF] at e0 e1 e2 e3 e4 e5 GG
  have hWF' := hWF
  unfold s6 at hWF'
  rw [← hWF']
  clear hWF hWF'
  refine bodyPost_ret (by simp [results, Tryz.results20, go_sem, e0, e1, e2, e3, e4, e5]; rfl) rfl ?_
  exact ⟨q0, rfl, HQ, GG⟩
set_option maxHeartbeats 2000000 in
theorem sp_fl_6 (x y : Nat) (w : World) : Calls Tryz.prog 20 #[.int .i64 6, .float .f64 x, .float .f64 y] w fun e w' => ∃ g, e = .returned (va 0 ⟨3, 0, g, ⟨#[]⟩, 0⟩) ∧ OR (fo 6 x y) g ∧ Grown w w' := by
  have hA := fun x y w => arith_run (op := .quo) (.inr (.inr (.inr rfl))) x y w
  have hM := fun x y w => arith_run (op := .mul) (.inr (.inr (.inl rfl))) x y w
  have hS := fun x y w => arith_run (op := .sub) (.inr (.inl rfl)) x y w
  have HF := fun g w => sp_flt g w
  have HG := fun g w => sp_got ⟨3, 0, g, ⟨#[]⟩, 0⟩ w
  unfold vv at HF HG
  unfold va at HG
  dsimp only at HF HG
  unfold va
  dsimp only
  have hst : ∀ (a : Addr) (n : Nat) (m : Mode) (w : World), (store a (.float .f64 n) m).run Tryz.prog w = stored Tryz.prog w a (.float .f64 n) m := fun a n m w => run_store _ _ _ _ _ rfl
  go_enter Tryz.func20, Tryz.ntmps20
  go_wp2_with fail
  have hor := or_afr .quo x y (w.alloc (.cells #[.int .i64 0, .int .i64 0, .int .i64 0, .float .f64 0, .string ⟨#[]⟩, .int .i64 0] 28))
  have gr : Grown w (afw .quo x y (w.alloc (.cells #[.int .i64 0, .int .i64 0, .int .i64 0, .float .f64 0, .string ⟨#[]⟩, .int .i64 0] 28))) := Grown.trans (Grown.alloc (Grown.refl _) _ _) (afw_grown _ _ _ _)
  have rv : Rv (afw .quo x y (w.alloc (.cells #[.int .i64 0, .int .i64 0, .int .i64 0, .float .f64 0, .string ⟨#[]⟩, .int .i64 0] 28))) w.heap.size := Rv.grown (Rv.new w 28) (afw_grown _ _ _ _)
  generalize afr .quo x y (w.alloc (.cells #[.int .i64 0, .int .i64 0, .int .i64 0, .float .f64 0, .string ⟨#[]⟩, .int .i64 0] 28)) = g0 at *
  generalize afw .quo x y (w.alloc (.cells #[.int .i64 0, .int .i64 0, .int .i64 0, .float .f64 0, .string ⟨#[]⟩, .int .i64 0] 28)) = W0 at *
  have HOR : Hid (OR (floatBits .quo .f64 x y) g0) := hor
  have G0 : Hid (Grown w W0) := gr
  have R0 : Hid (Rv W0 w.heap.size) := rv
  clear hor gr rv hA
  refine (sp_floor_or _ _ HOR _).mono ?_
  rintro e w1 ⟨q0, rfl, hy, g1⟩
  have G1 : Hid (Grown w w1) := Grown.trans G0 g1
  have R1 : Hid (Rv w1 w.heap.size) := Rv.grown R0 g1
  clear g1 G0 R0
  have HQ : Hid (OR ((floatBits .quo .f64 x y).map Flt.floorW) q0) := hy
  clear hy HOR
  go_wp2_with fail
  have o1 := or_mul y w1 (show OR ((floatBits .quo .f64 x y).map Flt.floorW) q0 from HQ)
  have o2 := or_sub x (afw .mul q0 y w1) o1
  have gr : Grown w (afw .sub x (afr .mul q0 y w1) (afw .mul q0 y w1)) := Grown.trans G1 (Grown.trans (afw_grown _ _ _ _) (afw_grown _ _ _ _))
  have rv : Rv (afw .sub x (afr .mul q0 y w1) (afw .mul q0 y w1)) w.heap.size := Rv.grown R1 (Grown.trans (afw_grown _ _ _ _) (afw_grown _ _ _ _))
  generalize afr .sub x (afr .mul q0 y w1) (afw .mul q0 y w1) = g9 at *
  generalize afw .sub x (afr .mul q0 y w1) (afw .mul q0 y w1) = W9 at *
  have HO2 : Hid (OR ((((floatBits .quo .f64 x y).bind fun r => floatBits .mul .f64 (Flt.floorW r) y)).bind fun p => floatBits .sub .f64 x p) g9) := o2
  have G9 : Hid (Grown w W9) := gr
  have R9 : Hid (Rv W9 w.heap.size) := rv
  clear o1 o2 gr rv HQ G1 R1 hM hS
  refine (HF _ _).mono ?_
  rintro e w10 ⟨rfl, g10⟩
  have G10 : Hid (Grown w w10) := Grown.trans G9 g10
  have R10 : Hid (Rv w10 w.heap.size) := Rv.grown R9 g10
  clear g10 G9 R9
  go_wp2_with fail
  refine (HG _ _).mono ?_
  rintro e w11 ⟨rfl, g11⟩
  have G11 : Hid (Grown w w11) := Grown.trans G10 g11
  have R11 : Hid (Rv w11 w.heap.size) := Rv.grown R10 g11
  clear g11 G10 R10
  have Z11 : w.heap.size < w11.heap.size := by
    have := (show Rv w11 w.heap.size from R11).c0
    unfold World.cell? at this
    cases hh : w11.heap[w.heap.size]? with
    | none => simp [hh] at this
    | some o => exact (Array.getElem?_eq_some_iff.1 hh).1
  obtain ⟨r0, r1, r2, r3, r4, r5, rz⟩ := (show Rv w11 w.heap.size from R11)
  go_wp2_with fail
  obtain ⟨e0, e1, e2, e3, e4, e5⟩ := rv_set' (show Rv w11 w.heap.size from R11) 0 3 0 g9 ⟨#[]⟩ 0
  have GG : Hid (Grown w (s6 w11 w.heap.size 0 3 0 g9 ⟨#[]⟩ 0)) := s6_grown G11 (Nat.le_refl _) 0 3 0 g9 ⟨#[]⟩ 0
  obtain ⟨WF, hWF⟩ : ∃ WF, WF = s6 w11 w.heap.size 0 3 0 g9 ⟨#[]⟩ 0 := ⟨_, rfl⟩
  rw [← hWF] at e0 e1 e2 e3 e4 e5 GG
  have hWF' := hWF
  unfold s6 at hWF'
  rw [← hWF']
  clear hWF hWF'
  refine bodyPost_ret (by simp [results, Tryz.results20, go_sem, e0, e1, e2, e3, e4, e5]; rfl) rfl ?_
  exact ⟨g9, rfl, HO2, GG⟩
set_option maxHeartbeats 2000000 in
theorem sp_fl_x (op : Int) (n1 : ¬ op = 1) (n2 : ¬ op = 2) (n3 : ¬ op = 3) (n4 : ¬ op = 4) (n5 : ¬ op = 5) (n6 : ¬ op = 6) (x y : Nat) (w : World) : Calls Tryz.prog 20 #[.int .i64 op, .float .f64 x, .float .f64 y] w fun e w' => e = .returned (va 1 ⟨0, 0, 0, ⟨#[]⟩, 0⟩) ∧ Grown w w' := by
  have HF := fun w => sp_fail 1 w
  unfold va at *
  dsimp only at *
  have hst : ∀ (a : Addr) (n : Nat) (m : Mode) (w : World), (store a (.float .f64 n) m).run Tryz.prog w = stored Tryz.prog w a (.float .f64 n) m := fun a n m w => run_store _ _ _ _ _ rfl
  go_enter Tryz.func20, Tryz.ntmps20
  go_wp2_with fail
  refine (HF _).mono ?_
  rintro e w1 ⟨rfl, g1⟩
  have G1 : Hid (Grown w w1) := Grown.trans (Grown.alloc (Grown.refl _) _ _) g1
  have R1 : Hid (Rv w1 w.heap.size) := Rv.grown (Rv.new w 28) g1
  obtain ⟨r0, r1, r2, r3, r4, r5, rz⟩ := (show Rv w1 w.heap.size from R1)
  clear g1 HF
  go_wp2_with fail
  obtain ⟨e0, e1, e2, e3, e4, e5⟩ := rv_set' (show Rv w1 w.heap.size from R1) 1 0 0 0 ⟨#[]⟩ 0
  have GG : Hid (Grown w (s6 w1 w.heap.size 1 0 0 0 ⟨#[]⟩ 0)) := s6_grown G1 (Nat.le_refl _) 1 0 0 0 ⟨#[]⟩ 0
  obtain ⟨WF, hWF⟩ : ∃ WF, WF = s6 w1 w.heap.size 1 0 0 0 ⟨#[]⟩ 0 := ⟨_, rfl⟩
  rw [← hWF] at e0 e1 e2 e3 e4 e5 GG
  have hWF' := hWF
  unfold s6 at hWF'
  rw [← hWF']
  clear hWF hWF'
  refine bodyPost_ret (by simp [results, Tryz.results20, go_sem, e0, e1, e2, e3, e4, e5]; rfl) rfl ?_
  exact ⟨rfl, GG⟩
end Go.Proofs.YtladepgpandklaaGreatDoor
