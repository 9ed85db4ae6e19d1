import Derived.Test.YtladepgpandklaaGreatDoorMVdi
namespace Go.Proofs.YtladepgpandklaaGreatDoor
open Go.ChangeShapes Go.WideShapes Go.ChangeAt Go.RowKit
set_option linter.unusedVariables false
set_option maxRecDepth 100000
theorem div_zero_im (a : Int) (w : World) : Calls Tryz.prog 65 #[.int .i64 a, .int .i64 0] w fun e w' => ∃ z m, e = .returned (.agg #[.int .i64 1, .int .i64 z, .int .i64 m]) ∧ Grown w w' := by
  go_enter Tryz.func65, Tryz.ntmps65
  go_wp2_with fail
  go_returns
  exact ⟨_, _, rfl, by go_grown⟩
set_option maxHeartbeats 2000000 in
theorem im_div_5z (a : Int) (w : World) : Calls Tryz.prog 51 #[.int .i64 5, .int .i64 a, .int .i64 0] w fun e w' => e = .returned (va 2 ⟨0, 0, 0, ⟨#[]⟩, 0⟩) ∧ Grown w w' := by
  have HD := div_zero_im a
  have HF := fun w => im_fail 2 w
  unfold va at HF
  dsimp only at HF
  unfold va
  dsimp only
  have hst : ∀ (a : Addr) (n : Nat) (m : Mode) (w : World), (store a (.float .f64 n) m).run Tryz.prog w = stored Tryz.prog w a (.float .f64 n) m := fun a n m w => run_store _ _ _ _ _ rfl
  go_enter Tryz.func51, Tryz.ntmps51
  go_wp2_with fail
  refine (HD _).mono ?_
  rintro e w1 ⟨z, m, rfl, g1⟩
  have G1 : Hid (Grown w w1) := Grown.trans (by go_grown) g1
  have R1 : Hid (Rv w1 w.heap.size) := Rv.grown (Rv.new w 28) g1
  clear g1
  go_wp2_with fail
  refine (HF _).mono ?_
  rintro e w2 ⟨rfl, g2⟩
  have G2 : Hid (Grown w w2) := Grown.trans G1 (Grown.trans (by go_grown) g2)
  have R2 : Hid (Rv w2 w.heap.size) := Rv.grown R1 (Grown.trans (by go_grown) g2)
  clear g2 G1 R1
  obtain ⟨r0, r1, r2, r3, r4, r5, rz⟩ := (show Rv w2 w.heap.size from R2)
  go_wp2_with fail
  obtain ⟨e0, e1, e2, e3, e4, e5⟩ := rv_set' (show Rv w2 w.heap.size from R2) 2 0 0 0 ⟨#[]⟩ 0
  have GG : Hid (Grown w (s6 w2 (w.heap.size) 2 0 0 0 ⟨#[]⟩ 0)) := s6_grown G2 (by omega) 2 0 0 0 ⟨#[]⟩ 0
  obtain ⟨WF, hWF⟩ : ∃ WF, WF = s6 w2 (w.heap.size) 2 0 0 0 ⟨#[]⟩ 0 := ⟨_, rfl⟩
  rw [← hWF] at e0 e1 e2 e3 e4 e5 GG
  have hWF' := hWF
  unfold s6 at hWF'
  rw [← hWF']
  clear hWF hWF'
  refine bodyPost_ret (by simp [results, Tryz.results51, go_sem, e0, e1, e2, e3, e4, e5]; rfl) rfl ?_
  exact ⟨rfl, GG⟩
set_option maxHeartbeats 2000000 in
theorem im_div_5 (a b z m : Int) (HD : ∀ w, Calls Tryz.prog 65 #[.int .i64 a, .int .i64 b] w fun e w' => e = .returned (.agg #[.int .i64 0, .int .i64 z, .int .i64 m]) ∧ Grown w w') (w : World) : Calls Tryz.prog 51 #[.int .i64 5, .int .i64 a, .int .i64 b] w fun e w' => e = .returned (va 0 ⟨2, z, 0, ⟨#[]⟩, 0⟩) ∧ Grown w w' := by
  have HI := fun w => im_int z w
  unfold va at HI
  dsimp only at HI
  unfold va
  dsimp only
  have hst : ∀ (a : Addr) (n : Nat) (m : Mode) (w : World), (store a (.float .f64 n) m).run Tryz.prog w = stored Tryz.prog w a (.float .f64 n) m := fun a n m w => run_store _ _ _ _ _ rfl
  go_enter Tryz.func51, Tryz.ntmps51
  go_wp2_with fail
  refine (HD _).mono ?_
  rintro e w1 ⟨rfl, g1⟩
  have G1 : Hid (Grown w w1) := Grown.trans (by go_grown) g1
  have R1 : Hid (Rv w1 w.heap.size) := Rv.grown (Rv.new w 28) g1
  clear g1
  go_wp2_with fail
  refine (HI _).mono ?_
  rintro e w2 ⟨rfl, g2⟩
  have G2 : Hid (Grown w w2) := Grown.trans G1 (Grown.trans (by go_grown) g2)
  have R2 : Hid (Rv w2 w.heap.size) := Rv.grown R1 (Grown.trans (by go_grown) g2)
  clear g2 G1 R1
  obtain ⟨r0, r1, r2, r3, r4, r5, rz⟩ := (show Rv w2 w.heap.size from R2)
  go_wp2_with fail
  obtain ⟨e0, e1, e2, e3, e4, e5⟩ := rv_set' (show Rv w2 w.heap.size from R2) 0 2 z 0 ⟨#[]⟩ 0
  have GG : Hid (Grown w (s6 w2 (w.heap.size) 0 2 z 0 ⟨#[]⟩ 0)) := s6_grown G2 (by omega) 0 2 z 0 ⟨#[]⟩ 0
  obtain ⟨WF, hWF⟩ : ∃ WF, WF = s6 w2 (w.heap.size) 0 2 z 0 ⟨#[]⟩ 0 := ⟨_, rfl⟩
  rw [← hWF] at e0 e1 e2 e3 e4 e5 GG
  have hWF' := hWF
  unfold s6 at hWF'
  rw [← hWF']
  clear hWF hWF'
  refine bodyPost_ret (by simp [results, Tryz.results51, go_sem, e0, e1, e2, e3, e4, e5]; rfl) rfl ?_
  exact ⟨rfl, GG⟩
set_option maxHeartbeats 2000000 in
theorem im_div_6z (a : Int) (w : World) : Calls Tryz.prog 51 #[.int .i64 6, .int .i64 a, .int .i64 0] w fun e w' => e = .returned (va 2 ⟨0, 0, 0, ⟨#[]⟩, 0⟩) ∧ Grown w w' := by
  have HD := div_zero_im a
  have HF := fun w => im_fail 2 w
  unfold va at HF
  dsimp only at HF
  unfold va
  dsimp only
  have hst : ∀ (a : Addr) (n : Nat) (m : Mode) (w : World), (store a (.float .f64 n) m).run Tryz.prog w = stored Tryz.prog w a (.float .f64 n) m := fun a n m w => run_store _ _ _ _ _ rfl
  go_enter Tryz.func51, Tryz.ntmps51
  go_wp2_with fail
  refine (HD _).mono ?_
  rintro e w1 ⟨z, m, rfl, g1⟩
  have G1 : Hid (Grown w w1) := Grown.trans (by go_grown) g1
  have R1 : Hid (Rv w1 w.heap.size) := Rv.grown (Rv.new w 28) g1
  clear g1
  go_wp2_with fail
  refine (HF _).mono ?_
  rintro e w2 ⟨rfl, g2⟩
  have G2 : Hid (Grown w w2) := Grown.trans G1 (Grown.trans (by go_grown) g2)
  have R2 : Hid (Rv w2 w.heap.size) := Rv.grown R1 (Grown.trans (by go_grown) g2)
  clear g2 G1 R1
  obtain ⟨r0, r1, r2, r3, r4, r5, rz⟩ := (show Rv w2 w.heap.size from R2)
  go_wp2_with fail
  obtain ⟨e0, e1, e2, e3, e4, e5⟩ := rv_set' (show Rv w2 w.heap.size from R2) 2 0 0 0 ⟨#[]⟩ 0
  have GG : Hid (Grown w (s6 w2 (w.heap.size) 2 0 0 0 ⟨#[]⟩ 0)) := s6_grown G2 (by omega) 2 0 0 0 ⟨#[]⟩ 0
  obtain ⟨WF, hWF⟩ : ∃ WF, WF = s6 w2 (w.heap.size) 2 0 0 0 ⟨#[]⟩ 0 := ⟨_, rfl⟩
  rw [← hWF] at e0 e1 e2 e3 e4 e5 GG
  have hWF' := hWF
  unfold s6 at hWF'
  rw [← hWF']
  clear hWF hWF'
  refine bodyPost_ret (by simp [results, Tryz.results51, go_sem, e0, e1, e2, e3, e4, e5]; rfl) rfl ?_
  exact ⟨rfl, GG⟩
set_option maxHeartbeats 2000000 in
theorem im_div_6 (a b z m : Int) (HD : ∀ w, Calls Tryz.prog 65 #[.int .i64 a, .int .i64 b] w fun e w' => e = .returned (.agg #[.int .i64 0, .int .i64 z, .int .i64 m]) ∧ Grown w w') (w : World) : Calls Tryz.prog 51 #[.int .i64 6, .int .i64 a, .int .i64 b] w fun e w' => e = .returned (va 0 ⟨2, m, 0, ⟨#[]⟩, 0⟩) ∧ Grown w w' := by
  have HI := fun w => im_int m w
  unfold va at HI
  dsimp only at HI
  unfold va
  dsimp only
  have hst : ∀ (a : Addr) (n : Nat) (m : Mode) (w : World), (store a (.float .f64 n) m).run Tryz.prog w = stored Tryz.prog w a (.float .f64 n) m := fun a n m w => run_store _ _ _ _ _ rfl
  go_enter Tryz.func51, Tryz.ntmps51
  go_wp2_with fail
  refine (HD _).mono ?_
  rintro e w1 ⟨rfl, g1⟩
  have G1 : Hid (Grown w w1) := Grown.trans (by go_grown) g1
  have R1 : Hid (Rv w1 w.heap.size) := Rv.grown (Rv.new w 28) g1
  clear g1
  go_wp2_with fail
  refine (HI _).mono ?_
  rintro e w2 ⟨rfl, g2⟩
  have G2 : Hid (Grown w w2) := Grown.trans G1 (Grown.trans (by go_grown) g2)
  have R2 : Hid (Rv w2 w.heap.size) := Rv.grown R1 (Grown.trans (by go_grown) g2)
  clear g2 G1 R1
  obtain ⟨r0, r1, r2, r3, r4, r5, rz⟩ := (show Rv w2 w.heap.size from R2)
  go_wp2_with fail
  obtain ⟨e0, e1, e2, e3, e4, e5⟩ := rv_set' (show Rv w2 w.heap.size from R2) 0 2 m 0 ⟨#[]⟩ 0
  have GG : Hid (Grown w (s6 w2 (w.heap.size) 0 2 m 0 ⟨#[]⟩ 0)) := s6_grown G2 (by omega) 0 2 m 0 ⟨#[]⟩ 0
  obtain ⟨WF, hWF⟩ : ∃ WF, WF = s6 w2 (w.heap.size) 0 2 m 0 ⟨#[]⟩ 0 := ⟨_, rfl⟩
  rw [← hWF] at e0 e1 e2 e3 e4 e5 GG
  have hWF' := hWF
  unfold s6 at hWF'
  rw [← hWF']
  clear hWF hWF'
  refine bodyPost_ret (by simp [results, Tryz.results51, go_sem, e0, e1, e2, e3, e4, e5]; rfl) rfl ?_
  exact ⟨rfl, GG⟩
set_option maxHeartbeats 2000000 in
theorem im_io_5z (a : Int) (w : World) : Calls Tryz.prog 30 #[.int .i64 5, .int .i64 a, .int .i64 0] w fun e w' => e = .returned (va 2 ⟨0, 0, 0, ⟨#[]⟩, 0⟩) ∧ Grown w w' := by
  have HV := fun w => im_div_5z a w
  unfold va at HV
  dsimp only at HV
  unfold va
  dsimp only
  have hst : ∀ (a : Addr) (n : Nat) (m : Mode) (w : World), (store a (.float .f64 n) m).run Tryz.prog w = stored Tryz.prog w a (.float .f64 n) m := fun a n m w => run_store _ _ _ _ _ rfl
  go_enter Tryz.func30, Tryz.ntmps30
  go_wp2_with fail
  refine (HV _).mono ?_
  rintro e w1 ⟨rfl, g1⟩
  have G1 : Hid (Grown w w1) := Grown.trans (by go_grown) g1
  have R1 : Hid (Rv w1 w.heap.size) := Rv.grown (Rv.new w 28) g1
  clear g1
  obtain ⟨r0, r1, r2, r3, r4, r5, rz⟩ := (show Rv w1 w.heap.size from R1)
  go_wp2_with fail
  obtain ⟨e0, e1, e2, e3, e4, e5⟩ := rv_set' (show Rv w1 w.heap.size from R1) 2 0 0 0 ⟨#[]⟩ 0
  have GG : Hid (Grown w (s6 w1 (w.heap.size) 2 0 0 0 ⟨#[]⟩ 0)) := s6_grown G1 (by omega) 2 0 0 0 ⟨#[]⟩ 0
  obtain ⟨WF, hWF⟩ : ∃ WF, WF = s6 w1 (w.heap.size) 2 0 0 0 ⟨#[]⟩ 0 := ⟨_, rfl⟩
  rw [← hWF] at e0 e1 e2 e3 e4 e5 GG
  have hWF' := hWF
  unfold s6 at hWF'
  rw [← hWF']
  clear hWF hWF'
  refine bodyPost_ret (by simp [results, Tryz.results30, go_sem, e0, e1, e2, e3, e4, e5]; rfl) rfl ?_
  exact ⟨rfl, GG⟩
set_option maxHeartbeats 2000000 in
theorem im_io_5 (a b z m : Int) (HD : ∀ w, Calls Tryz.prog 65 #[.int .i64 a, .int .i64 b] w fun e w' => e = .returned (.agg #[.int .i64 0, .int .i64 z, .int .i64 m]) ∧ Grown w w') (w : World) : Calls Tryz.prog 30 #[.int .i64 5, .int .i64 a, .int .i64 b] w fun e w' => e = .returned (va 0 ⟨2, z, 0, ⟨#[]⟩, 0⟩) ∧ Grown w w' := by
  have HV := fun w => im_div_5 a b z m HD w
  unfold va at HV
  dsimp only at HV
  unfold va
  dsimp only
  have hst : ∀ (a : Addr) (n : Nat) (m : Mode) (w : World), (store a (.float .f64 n) m).run Tryz.prog w = stored Tryz.prog w a (.float .f64 n) m := fun a n m w => run_store _ _ _ _ _ rfl
  go_enter Tryz.func30, Tryz.ntmps30
  go_wp2_with fail
  refine (HV _).mono ?_
  rintro e w1 ⟨rfl, g1⟩
  have G1 : Hid (Grown w w1) := Grown.trans (by go_grown) g1
  have R1 : Hid (Rv w1 w.heap.size) := Rv.grown (Rv.new w 28) g1
  clear g1
  obtain ⟨r0, r1, r2, r3, r4, r5, rz⟩ := (show Rv w1 w.heap.size from R1)
  go_wp2_with fail
  obtain ⟨e0, e1, e2, e3, e4, e5⟩ := rv_set' (show Rv w1 w.heap.size from R1) 0 2 z 0 ⟨#[]⟩ 0
  have GG : Hid (Grown w (s6 w1 (w.heap.size) 0 2 z 0 ⟨#[]⟩ 0)) := s6_grown G1 (by omega) 0 2 z 0 ⟨#[]⟩ 0
  obtain ⟨WF, hWF⟩ : ∃ WF, WF = s6 w1 (w.heap.size) 0 2 z 0 ⟨#[]⟩ 0 := ⟨_, rfl⟩
  rw [← hWF] at e0 e1 e2 e3 e4 e5 GG
  have hWF' := hWF
  unfold s6 at hWF'
  rw [← hWF']
  clear hWF hWF'
  refine bodyPost_ret (by simp [results, Tryz.results30, go_sem, e0, e1, e2, e3, e4, e5]; rfl) rfl ?_
  exact ⟨rfl, GG⟩
set_option maxHeartbeats 2000000 in
theorem im_io_6z (a : Int) (w : World) : Calls Tryz.prog 30 #[.int .i64 6, .int .i64 a, .int .i64 0] w fun e w' => e = .returned (va 2 ⟨0, 0, 0, ⟨#[]⟩, 0⟩) ∧ Grown w w' := by
  have HV := fun w => im_div_6z a w
  unfold va at HV
  dsimp only at HV
  unfold va
  dsimp only
  have hst : ∀ (a : Addr) (n : Nat) (m : Mode) (w : World), (store a (.float .f64 n) m).run Tryz.prog w = stored Tryz.prog w a (.float .f64 n) m := fun a n m w => run_store _ _ _ _ _ rfl
  go_enter Tryz.func30, Tryz.ntmps30
  go_wp2_with fail
  refine (HV _).mono ?_
  rintro e w1 ⟨rfl, g1⟩
  have G1 : Hid (Grown w w1) := Grown.trans (by go_grown) g1
  have R1 : Hid (Rv w1 w.heap.size) := Rv.grown (Rv.new w 28) g1
  clear g1
  obtain ⟨r0, r1, r2, r3, r4, r5, rz⟩ := (show Rv w1 w.heap.size from R1)
  go_wp2_with fail
  obtain ⟨e0, e1, e2, e3, e4, e5⟩ := rv_set' (show Rv w1 w.heap.size from R1) 2 0 0 0 ⟨#[]⟩ 0
  have GG : Hid (Grown w (s6 w1 (w.heap.size) 2 0 0 0 ⟨#[]⟩ 0)) := s6_grown G1 (by omega) 2 0 0 0 ⟨#[]⟩ 0
  obtain ⟨WF, hWF⟩ : ∃ WF, WF = s6 w1 (w.heap.size) 2 0 0 0 ⟨#[]⟩ 0 := ⟨_, rfl⟩
  rw [← hWF] at e0 e1 e2 e3 e4 e5 GG
  have hWF' := hWF
  unfold s6 at hWF'
  rw [← hWF']
  clear hWF hWF'
  refine bodyPost_ret (by simp [results, Tryz.results30, go_sem, e0, e1, e2, e3, e4, e5]; rfl) rfl ?_
  exact ⟨rfl, GG⟩
set_option maxHeartbeats 2000000 in
theorem im_io_6 (a b z m : Int) (HD : ∀ w, Calls Tryz.prog 65 #[.int .i64 a, .int .i64 b] w fun e w' => e = .returned (.agg #[.int .i64 0, .int .i64 z, .int .i64 m]) ∧ Grown w w') (w : World) : Calls Tryz.prog 30 #[.int .i64 6, .int .i64 a, .int .i64 b] w fun e w' => e = .returned (va 0 ⟨2, m, 0, ⟨#[]⟩, 0⟩) ∧ Grown w w' := by
  have HV := fun w => im_div_6 a b z m HD w
  unfold va at HV
  dsimp only at HV
  unfold va
  dsimp only
  have hst : ∀ (a : Addr) (n : Nat) (m : Mode) (w : World), (store a (.float .f64 n) m).run Tryz.prog w = stored Tryz.prog w a (.float .f64 n) m := fun a n m w => run_store _ _ _ _ _ rfl
  go_enter Tryz.func30, Tryz.ntmps30
  go_wp2_with fail
  refine (HV _).mono ?_
  rintro e w1 ⟨rfl, g1⟩
  have G1 : Hid (Grown w w1) := Grown.trans (by go_grown) g1
  have R1 : Hid (Rv w1 w.heap.size) := Rv.grown (Rv.new w 28) g1
  clear g1
  obtain ⟨r0, r1, r2, r3, r4, r5, rz⟩ := (show Rv w1 w.heap.size from R1)
  go_wp2_with fail
  obtain ⟨e0, e1, e2, e3, e4, e5⟩ := rv_set' (show Rv w1 w.heap.size from R1) 0 2 m 0 ⟨#[]⟩ 0
  have GG : Hid (Grown w (s6 w1 (w.heap.size) 0 2 m 0 ⟨#[]⟩ 0)) := s6_grown G1 (by omega) 0 2 m 0 ⟨#[]⟩ 0
  obtain ⟨WF, hWF⟩ : ∃ WF, WF = s6 w1 (w.heap.size) 0 2 m 0 ⟨#[]⟩ 0 := ⟨_, rfl⟩
  rw [← hWF] at e0 e1 e2 e3 e4 e5 GG
  have hWF' := hWF
  unfold s6 at hWF'
  rw [← hWF']
  clear hWF hWF'
  refine bodyPost_ret (by simp [results, Tryz.results30, go_sem, e0, e1, e2, e3, e4, e5]; rfl) rfl ?_
  exact ⟨rfl, GG⟩
set_option maxHeartbeats 2000000 in
theorem im_io_10n (a b : Int) (h0 : b < 0) (w : World) : Calls Tryz.prog 30 #[.int .i64 10, .int .i64 a, .int .i64 b] w fun e w' => e = .returned (va 3 ⟨0, 0, 0, ⟨#[]⟩, 0⟩) ∧ Grown w w' := by
  have HV := fun w => im_sh_10n a b h0 w
  unfold va at HV
  dsimp only at HV
  unfold va
  dsimp only
  have hst : ∀ (a : Addr) (n : Nat) (m : Mode) (w : World), (store a (.float .f64 n) m).run Tryz.prog w = stored Tryz.prog w a (.float .f64 n) m := fun a n m w => run_store _ _ _ _ _ rfl
  go_enter Tryz.func30, Tryz.ntmps30
  go_wp2_with fail
  refine (HV _).mono ?_
  rintro e w1 ⟨rfl, g1⟩
  have G1 : Hid (Grown w w1) := Grown.trans (by go_grown) g1
  have R1 : Hid (Rv w1 w.heap.size) := Rv.grown (Rv.new w 28) g1
  clear g1
  obtain ⟨r0, r1, r2, r3, r4, r5, rz⟩ := (show Rv w1 w.heap.size from R1)
  go_wp2_with fail
  obtain ⟨e0, e1, e2, e3, e4, e5⟩ := rv_set' (show Rv w1 w.heap.size from R1) 3 0 0 0 ⟨#[]⟩ 0
  have GG : Hid (Grown w (s6 w1 (w.heap.size) 3 0 0 0 ⟨#[]⟩ 0)) := s6_grown G1 (by omega) 3 0 0 0 ⟨#[]⟩ 0
  obtain ⟨WF, hWF⟩ : ∃ WF, WF = s6 w1 (w.heap.size) 3 0 0 0 ⟨#[]⟩ 0 := ⟨_, rfl⟩
  rw [← hWF] at e0 e1 e2 e3 e4 e5 GG
  have hWF' := hWF
  unfold s6 at hWF'
  rw [← hWF']
  clear hWF hWF'
  refine bodyPost_ret (by simp [results, Tryz.results30, go_sem, e0, e1, e2, e3, e4, e5]; rfl) rfl ?_
  exact ⟨rfl, GG⟩
set_option maxHeartbeats 2000000 in
theorem im_io_10 (a b : Int) (hb : -9223372036854775808 ≤ b ∧ b ≤ 9223372036854775807) (h0 : ¬ b < 0) (w : World) : Calls Tryz.prog 30 #[.int .i64 10, .int .i64 a, .int .i64 b] w fun e w' => e = .returned (va 0 ⟨2, (shz 10 a b), 0, ⟨#[]⟩, 0⟩) ∧ Grown w w' := by
  have HV := fun w => im_sh_10 a b _ hb h0 (sh_im10 a b h0) w
  unfold va at HV
  dsimp only at HV
  unfold va
  dsimp only
  have hst : ∀ (a : Addr) (n : Nat) (m : Mode) (w : World), (store a (.float .f64 n) m).run Tryz.prog w = stored Tryz.prog w a (.float .f64 n) m := fun a n m w => run_store _ _ _ _ _ rfl
  go_enter Tryz.func30, Tryz.ntmps30
  go_wp2_with fail
  refine (HV _).mono ?_
  rintro e w1 ⟨rfl, g1⟩
  have G1 : Hid (Grown w w1) := Grown.trans (by go_grown) g1
  have R1 : Hid (Rv w1 w.heap.size) := Rv.grown (Rv.new w 28) g1
  clear g1
  obtain ⟨r0, r1, r2, r3, r4, r5, rz⟩ := (show Rv w1 w.heap.size from R1)
  go_wp2_with fail
  obtain ⟨e0, e1, e2, e3, e4, e5⟩ := rv_set' (show Rv w1 w.heap.size from R1) 0 2 (shz 10 a b) 0 ⟨#[]⟩ 0
  have GG : Hid (Grown w (s6 w1 (w.heap.size) 0 2 (shz 10 a b) 0 ⟨#[]⟩ 0)) := s6_grown G1 (by omega) 0 2 (shz 10 a b) 0 ⟨#[]⟩ 0
  obtain ⟨WF, hWF⟩ : ∃ WF, WF = s6 w1 (w.heap.size) 0 2 (shz 10 a b) 0 ⟨#[]⟩ 0 := ⟨_, rfl⟩
  rw [← hWF] at e0 e1 e2 e3 e4 e5 GG
  have hWF' := hWF
  unfold s6 at hWF'
  rw [← hWF']
  clear hWF hWF'
  refine bodyPost_ret (by simp [results, Tryz.results30, go_sem, e0, e1, e2, e3, e4, e5]; rfl) rfl ?_
  exact ⟨rfl, GG⟩
set_option maxHeartbeats 2000000 in
theorem im_io_11n (a b : Int) (h0 : b < 0) (w : World) : Calls Tryz.prog 30 #[.int .i64 11, .int .i64 a, .int .i64 b] w fun e w' => e = .returned (va 3 ⟨0, 0, 0, ⟨#[]⟩, 0⟩) ∧ Grown w w' := by
  have HV := fun w => im_sh_11n a b h0 w
  unfold va at HV
  dsimp only at HV
  unfold va
  dsimp only
  have hst : ∀ (a : Addr) (n : Nat) (m : Mode) (w : World), (store a (.float .f64 n) m).run Tryz.prog w = stored Tryz.prog w a (.float .f64 n) m := fun a n m w => run_store _ _ _ _ _ rfl
  go_enter Tryz.func30, Tryz.ntmps30
  go_wp2_with fail
  refine (HV _).mono ?_
  rintro e w1 ⟨rfl, g1⟩
  have G1 : Hid (Grown w w1) := Grown.trans (by go_grown) g1
  have R1 : Hid (Rv w1 w.heap.size) := Rv.grown (Rv.new w 28) g1
  clear g1
  obtain ⟨r0, r1, r2, r3, r4, r5, rz⟩ := (show Rv w1 w.heap.size from R1)
  go_wp2_with fail
  obtain ⟨e0, e1, e2, e3, e4, e5⟩ := rv_set' (show Rv w1 w.heap.size from R1) 3 0 0 0 ⟨#[]⟩ 0
  have GG : Hid (Grown w (s6 w1 (w.heap.size) 3 0 0 0 ⟨#[]⟩ 0)) := s6_grown G1 (by omega) 3 0 0 0 ⟨#[]⟩ 0
  obtain ⟨WF, hWF⟩ : ∃ WF, WF = s6 w1 (w.heap.size) 3 0 0 0 ⟨#[]⟩ 0 := ⟨_, rfl⟩
  rw [← hWF] at e0 e1 e2 e3 e4 e5 GG
  have hWF' := hWF
  unfold s6 at hWF'
  rw [← hWF']
  clear hWF hWF'
  refine bodyPost_ret (by simp [results, Tryz.results30, go_sem, e0, e1, e2, e3, e4, e5]; rfl) rfl ?_
  exact ⟨rfl, GG⟩
set_option maxHeartbeats 2000000 in
theorem im_io_11 (a b : Int) (hb : -9223372036854775808 ≤ b ∧ b ≤ 9223372036854775807) (h0 : ¬ b < 0) (w : World) : Calls Tryz.prog 30 #[.int .i64 11, .int .i64 a, .int .i64 b] w fun e w' => e = .returned (va 0 ⟨2, (shz 11 a b), 0, ⟨#[]⟩, 0⟩) ∧ Grown w w' := by
  have HV := fun w => im_sh_11 a b _ hb h0 (sh_im11 a b h0) w
  unfold va at HV
  dsimp only at HV
  unfold va
  dsimp only
  have hst : ∀ (a : Addr) (n : Nat) (m : Mode) (w : World), (store a (.float .f64 n) m).run Tryz.prog w = stored Tryz.prog w a (.float .f64 n) m := fun a n m w => run_store _ _ _ _ _ rfl
  go_enter Tryz.func30, Tryz.ntmps30
  go_wp2_with fail
  refine (HV _).mono ?_
  rintro e w1 ⟨rfl, g1⟩
  have G1 : Hid (Grown w w1) := Grown.trans (by go_grown) g1
  have R1 : Hid (Rv w1 w.heap.size) := Rv.grown (Rv.new w 28) g1
  clear g1
  obtain ⟨r0, r1, r2, r3, r4, r5, rz⟩ := (show Rv w1 w.heap.size from R1)
  go_wp2_with fail
  obtain ⟨e0, e1, e2, e3, e4, e5⟩ := rv_set' (show Rv w1 w.heap.size from R1) 0 2 (shz 11 a b) 0 ⟨#[]⟩ 0
  have GG : Hid (Grown w (s6 w1 (w.heap.size) 0 2 (shz 11 a b) 0 ⟨#[]⟩ 0)) := s6_grown G1 (by omega) 0 2 (shz 11 a b) 0 ⟨#[]⟩ 0
  obtain ⟨WF, hWF⟩ : ∃ WF, WF = s6 w1 (w.heap.size) 0 2 (shz 11 a b) 0 ⟨#[]⟩ 0 := ⟨_, rfl⟩
  rw [← hWF] at e0 e1 e2 e3 e4 e5 GG
  have hWF' := hWF
  unfold s6 at hWF'
  rw [← hWF']
  clear hWF hWF'
  refine bodyPost_ret (by simp [results, Tryz.results30, go_sem, e0, e1, e2, e3, e4, e5]; rfl) rfl ?_
  exact ⟨rfl, GG⟩
set_option maxHeartbeats 2000000 in
theorem im_io_x (op a b : Int) (n1 : ¬ op = 1) (n2 : ¬ op = 2) (n3 : ¬ op = 3) (n5 : ¬ op = 5) (n6 : ¬ op = 6) (n7 : ¬ op = 7) (n8 : ¬ op = 8) (n9 : ¬ op = 9) (n10 : ¬ op = 10) (n11 : ¬ op = 11) (w : World) : Calls Tryz.prog 30 #[.int .i64 op, .int .i64 a, .int .i64 b] w fun e w' => e = .returned (va 1 ⟨0, 0, 0, ⟨#[]⟩, 0⟩) ∧ Grown w w' := by
  have HF := fun w => im_fail 1 w
  unfold va at HF
  dsimp only at HF
  have q1 : (op == 1) = false := by simpa using n1
  have q2 : (op == 2) = false := by simpa using n2
  have q3 : (op == 3) = false := by simpa using n3
  have q5 : (op == 5) = false := by simpa using n5
  have q6 : (op == 6) = false := by simpa using n6
  have q7 : (op == 7) = false := by simpa using n7
  have q8 : (op == 8) = false := by simpa using n8
  have q9 : (op == 9) = false := by simpa using n9
  have q10 : (op == 10) = false := by simpa using n10
  have q11 : (op == 11) = false := by simpa using n11
  unfold va
  dsimp only
  have hst : ∀ (a : Addr) (n : Nat) (m : Mode) (w : World), (store a (.float .f64 n) m).run Tryz.prog w = stored Tryz.prog w a (.float .f64 n) m := fun a n m w => run_store _ _ _ _ _ rfl
  go_enter Tryz.func30, Tryz.ntmps30
  go_wp2_with fail
  refine (HF _).mono ?_
  rintro e w1 ⟨rfl, g1⟩
  have G1 : Hid (Grown w w1) := Grown.trans (by go_grown) g1
  have R1 : Hid (Rv w1 w.heap.size) := Rv.grown (Rv.new w 28) g1
  clear g1
  obtain ⟨r0, r1, r2, r3, r4, r5, rz⟩ := (show Rv w1 w.heap.size from R1)
  go_wp2_with fail
  obtain ⟨e0, e1, e2, e3, e4, e5⟩ := rv_set' (show Rv w1 w.heap.size from R1) 1 0 0 0 ⟨#[]⟩ 0
  have GG : Hid (Grown w (s6 w1 (w.heap.size) 1 0 0 0 ⟨#[]⟩ 0)) := s6_grown G1 (by omega) 1 0 0 0 ⟨#[]⟩ 0
  obtain ⟨WF, hWF⟩ : ∃ WF, WF = s6 w1 (w.heap.size) 1 0 0 0 ⟨#[]⟩ 0 := ⟨_, rfl⟩
  rw [← hWF] at e0 e1 e2 e3 e4 e5 GG
  have hWF' := hWF
  unfold s6 at hWF'
  rw [← hWF']
  clear hWF hWF'
  refine bodyPost_ret (by simp [results, Tryz.results30, go_sem, e0, e1, e2, e3, e4, e5]; rfl) rfl ?_
  exact ⟨rfl, GG⟩
end Go.Proofs.YtladepgpandklaaGreatDoor
