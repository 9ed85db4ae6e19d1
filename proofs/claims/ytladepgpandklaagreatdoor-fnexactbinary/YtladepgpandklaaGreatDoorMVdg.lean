import Derived.Test.YtladepgpandklaaGreatDoorMVdf
namespace Go.Proofs.YtladepgpandklaaGreatDoor
open Go.ChangeShapes Go.WideShapes Go.ChangeAt Go.RowKit
set_option linter.unusedVariables false
set_option maxRecDepth 100000
set_option maxHeartbeats 2000000 in
theorem sp_io_1 (a b : Int) (w : World) : Calls Tryz.prog 18 #[.int .i64 1, .int .i64 a, .int .i64 b] w fun e w' => e = .returned (va 0 ⟨2, (wrap64 (a + b)), 0, ⟨#[]⟩, 0⟩) ∧ Grown w w' := by
  have HI := fun w => sp_int (wrap64 (a + b)) w
  have HG := fun w => sp_got ⟨2, (wrap64 (a + b)), 0, ⟨#[]⟩, 0⟩ w
  unfold vv at HI HG
  unfold va at HG
  dsimp only at HI HG
  unfold va
  dsimp only
  have hst : ∀ (a : Addr) (n : Nat) (m : Mode) (w : World), (store a (.float .f64 n) m).run Tryz.prog w = stored Tryz.prog w a (.float .f64 n) m := fun a n m w => run_store _ _ _ _ _ rfl
  go_enter Tryz.func18, Tryz.ntmps18
  go_wp2_with fail
  refine (HI _).mono ?_
  rintro e w1 ⟨rfl, g1⟩
  have G1 : Hid (Grown w w1) := Grown.trans (by go_grown) g1
  have R1 : Hid (Rv w1 w.heap.size) := Rv.grown (Rv.new w 28) g1
  clear g1
  go_wp2_with fail
  refine (HG _).mono ?_
  rintro e w2 ⟨rfl, g2⟩
  have G2 : Hid (Grown w w2) := Grown.trans G1 g2
  have R2 : Hid (Rv w2 w.heap.size) := Rv.grown R1 g2
  clear g2 G1 R1
  obtain ⟨r0, r1, r2, r3, r4, r5, rz⟩ := (show Rv w2 w.heap.size from R2)
  go_wp2_with fail
  obtain ⟨e0, e1, e2, e3, e4, e5⟩ := rv_set' (show Rv w2 w.heap.size from R2) 0 2 (wrap64 (a + b)) 0 ⟨#[]⟩ 0
  have GG : Hid (Grown w (s6 w2 (w.heap.size) 0 2 (wrap64 (a + b)) 0 ⟨#[]⟩ 0)) := s6_grown G2 (by omega) 0 2 (wrap64 (a + b)) 0 ⟨#[]⟩ 0
  obtain ⟨WF, hWF⟩ : ∃ WF, WF = s6 w2 (w.heap.size) 0 2 (wrap64 (a + b)) 0 ⟨#[]⟩ 0 := ⟨_, rfl⟩
  rw [← hWF] at e0 e1 e2 e3 e4 e5 GG
  have hWF' := hWF
  unfold s6 at hWF'
  rw [← hWF']
  clear hWF hWF'
  refine bodyPost_ret (by simp [results, Tryz.results18, go_sem, e0, e1, e2, e3, e4, e5]; rfl) rfl ?_
  exact ⟨rfl, GG⟩
set_option maxHeartbeats 2000000 in
theorem sp_io_2 (a b : Int) (w : World) : Calls Tryz.prog 18 #[.int .i64 2, .int .i64 a, .int .i64 b] w fun e w' => e = .returned (va 0 ⟨2, (wrap64 (a - b)), 0, ⟨#[]⟩, 0⟩) ∧ Grown w w' := by
  have HI := fun w => sp_int (wrap64 (a - b)) w
  have HG := fun w => sp_got ⟨2, (wrap64 (a - b)), 0, ⟨#[]⟩, 0⟩ w
  unfold vv at HI HG
  unfold va at HG
  dsimp only at HI HG
  unfold va
  dsimp only
  have hst : ∀ (a : Addr) (n : Nat) (m : Mode) (w : World), (store a (.float .f64 n) m).run Tryz.prog w = stored Tryz.prog w a (.float .f64 n) m := fun a n m w => run_store _ _ _ _ _ rfl
  go_enter Tryz.func18, Tryz.ntmps18
  go_wp2_with fail
  refine (HI _).mono ?_
  rintro e w1 ⟨rfl, g1⟩
  have G1 : Hid (Grown w w1) := Grown.trans (by go_grown) g1
  have R1 : Hid (Rv w1 w.heap.size) := Rv.grown (Rv.new w 28) g1
  clear g1
  go_wp2_with fail
  refine (HG _).mono ?_
  rintro e w2 ⟨rfl, g2⟩
  have G2 : Hid (Grown w w2) := Grown.trans G1 g2
  have R2 : Hid (Rv w2 w.heap.size) := Rv.grown R1 g2
  clear g2 G1 R1
  obtain ⟨r0, r1, r2, r3, r4, r5, rz⟩ := (show Rv w2 w.heap.size from R2)
  go_wp2_with fail
  obtain ⟨e0, e1, e2, e3, e4, e5⟩ := rv_set' (show Rv w2 w.heap.size from R2) 0 2 (wrap64 (a - b)) 0 ⟨#[]⟩ 0
  have GG : Hid (Grown w (s6 w2 (w.heap.size) 0 2 (wrap64 (a - b)) 0 ⟨#[]⟩ 0)) := s6_grown G2 (by omega) 0 2 (wrap64 (a - b)) 0 ⟨#[]⟩ 0
  obtain ⟨WF, hWF⟩ : ∃ WF, WF = s6 w2 (w.heap.size) 0 2 (wrap64 (a - b)) 0 ⟨#[]⟩ 0 := ⟨_, rfl⟩
  rw [← hWF] at e0 e1 e2 e3 e4 e5 GG
  have hWF' := hWF
  unfold s6 at hWF'
  rw [← hWF']
  clear hWF hWF'
  refine bodyPost_ret (by simp [results, Tryz.results18, go_sem, e0, e1, e2, e3, e4, e5]; rfl) rfl ?_
  exact ⟨rfl, GG⟩
set_option maxHeartbeats 2000000 in
theorem sp_io_3 (a b : Int) (w : World) : Calls Tryz.prog 18 #[.int .i64 3, .int .i64 a, .int .i64 b] w fun e w' => e = .returned (va 0 ⟨2, (wrap64 (a * b)), 0, ⟨#[]⟩, 0⟩) ∧ Grown w w' := by
  have HI := fun w => sp_int (wrap64 (a * b)) w
  have HG := fun w => sp_got ⟨2, (wrap64 (a * b)), 0, ⟨#[]⟩, 0⟩ w
  unfold vv at HI HG
  unfold va at HG
  dsimp only at HI HG
  unfold va
  dsimp only
  have hst : ∀ (a : Addr) (n : Nat) (m : Mode) (w : World), (store a (.float .f64 n) m).run Tryz.prog w = stored Tryz.prog w a (.float .f64 n) m := fun a n m w => run_store _ _ _ _ _ rfl
  go_enter Tryz.func18, Tryz.ntmps18
  go_wp2_with fail
  refine (HI _).mono ?_
  rintro e w1 ⟨rfl, g1⟩
  have G1 : Hid (Grown w w1) := Grown.trans (by go_grown) g1
  have R1 : Hid (Rv w1 w.heap.size) := Rv.grown (Rv.new w 28) g1
  clear g1
  go_wp2_with fail
  refine (HG _).mono ?_
  rintro e w2 ⟨rfl, g2⟩
  have G2 : Hid (Grown w w2) := Grown.trans G1 g2
  have R2 : Hid (Rv w2 w.heap.size) := Rv.grown R1 g2
  clear g2 G1 R1
  obtain ⟨r0, r1, r2, r3, r4, r5, rz⟩ := (show Rv w2 w.heap.size from R2)
  go_wp2_with fail
  obtain ⟨e0, e1, e2, e3, e4, e5⟩ := rv_set' (show Rv w2 w.heap.size from R2) 0 2 (wrap64 (a * b)) 0 ⟨#[]⟩ 0
  have GG : Hid (Grown w (s6 w2 (w.heap.size) 0 2 (wrap64 (a * b)) 0 ⟨#[]⟩ 0)) := s6_grown G2 (by omega) 0 2 (wrap64 (a * b)) 0 ⟨#[]⟩ 0
  obtain ⟨WF, hWF⟩ : ∃ WF, WF = s6 w2 (w.heap.size) 0 2 (wrap64 (a * b)) 0 ⟨#[]⟩ 0 := ⟨_, rfl⟩
  rw [← hWF] at e0 e1 e2 e3 e4 e5 GG
  have hWF' := hWF
  unfold s6 at hWF'
  rw [← hWF']
  clear hWF hWF'
  refine bodyPost_ret (by simp [results, Tryz.results18, go_sem, e0, e1, e2, e3, e4, e5]; rfl) rfl ?_
  exact ⟨rfl, GG⟩
set_option maxHeartbeats 2000000 in
theorem sp_io_7 (a b : Int) (w : World) : Calls Tryz.prog 18 #[.int .i64 7, .int .i64 a, .int .i64 b] w fun e w' => e = .returned (va 0 ⟨2, (bits .and .i64 a b), 0, ⟨#[]⟩, 0⟩) ∧ Grown w w' := by
  have HI := fun w => sp_int (bits .and .i64 a b) w
  have HG := fun w => sp_got ⟨2, (bits .and .i64 a b), 0, ⟨#[]⟩, 0⟩ w
  unfold vv at HI HG
  unfold va at HG
  dsimp only at HI HG
  unfold va
  dsimp only
  have hst : ∀ (a : Addr) (n : Nat) (m : Mode) (w : World), (store a (.float .f64 n) m).run Tryz.prog w = stored Tryz.prog w a (.float .f64 n) m := fun a n m w => run_store _ _ _ _ _ rfl
  go_enter Tryz.func18, Tryz.ntmps18
  go_wp2_with fail
  refine (HI _).mono ?_
  rintro e w1 ⟨rfl, g1⟩
  have G1 : Hid (Grown w w1) := Grown.trans (by go_grown) g1
  have R1 : Hid (Rv w1 w.heap.size) := Rv.grown (Rv.new w 28) g1
  clear g1
  go_wp2_with fail
  refine (HG _).mono ?_
  rintro e w2 ⟨rfl, g2⟩
  have G2 : Hid (Grown w w2) := Grown.trans G1 g2
  have R2 : Hid (Rv w2 w.heap.size) := Rv.grown R1 g2
  clear g2 G1 R1
  obtain ⟨r0, r1, r2, r3, r4, r5, rz⟩ := (show Rv w2 w.heap.size from R2)
  go_wp2_with fail
  obtain ⟨e0, e1, e2, e3, e4, e5⟩ := rv_set' (show Rv w2 w.heap.size from R2) 0 2 (bits .and .i64 a b) 0 ⟨#[]⟩ 0
  have GG : Hid (Grown w (s6 w2 (w.heap.size) 0 2 (bits .and .i64 a b) 0 ⟨#[]⟩ 0)) := s6_grown G2 (by omega) 0 2 (bits .and .i64 a b) 0 ⟨#[]⟩ 0
  obtain ⟨WF, hWF⟩ : ∃ WF, WF = s6 w2 (w.heap.size) 0 2 (bits .and .i64 a b) 0 ⟨#[]⟩ 0 := ⟨_, rfl⟩
  rw [← hWF] at e0 e1 e2 e3 e4 e5 GG
  have hWF' := hWF
  unfold s6 at hWF'
  rw [← hWF']
  clear hWF hWF'
  refine bodyPost_ret (by simp [results, Tryz.results18, go_sem, e0, e1, e2, e3, e4, e5]; rfl) rfl ?_
  exact ⟨rfl, GG⟩
set_option maxHeartbeats 2000000 in
theorem sp_io_8 (a b : Int) (w : World) : Calls Tryz.prog 18 #[.int .i64 8, .int .i64 a, .int .i64 b] w fun e w' => e = .returned (va 0 ⟨2, (bits .or .i64 a b), 0, ⟨#[]⟩, 0⟩) ∧ Grown w w' := by
  have HI := fun w => sp_int (bits .or .i64 a b) w
  have HG := fun w => sp_got ⟨2, (bits .or .i64 a b), 0, ⟨#[]⟩, 0⟩ w
  unfold vv at HI HG
  unfold va at HG
  dsimp only at HI HG
  unfold va
  dsimp only
  have hst : ∀ (a : Addr) (n : Nat) (m : Mode) (w : World), (store a (.float .f64 n) m).run Tryz.prog w = stored Tryz.prog w a (.float .f64 n) m := fun a n m w => run_store _ _ _ _ _ rfl
  go_enter Tryz.func18, Tryz.ntmps18
  go_wp2_with fail
  refine (HI _).mono ?_
  rintro e w1 ⟨rfl, g1⟩
  have G1 : Hid (Grown w w1) := Grown.trans (by go_grown) g1
  have R1 : Hid (Rv w1 w.heap.size) := Rv.grown (Rv.new w 28) g1
  clear g1
  go_wp2_with fail
  refine (HG _).mono ?_
  rintro e w2 ⟨rfl, g2⟩
  have G2 : Hid (Grown w w2) := Grown.trans G1 g2
  have R2 : Hid (Rv w2 w.heap.size) := Rv.grown R1 g2
  clear g2 G1 R1
  obtain ⟨r0, r1, r2, r3, r4, r5, rz⟩ := (show Rv w2 w.heap.size from R2)
  go_wp2_with fail
  obtain ⟨e0, e1, e2, e3, e4, e5⟩ := rv_set' (show Rv w2 w.heap.size from R2) 0 2 (bits .or .i64 a b) 0 ⟨#[]⟩ 0
  have GG : Hid (Grown w (s6 w2 (w.heap.size) 0 2 (bits .or .i64 a b) 0 ⟨#[]⟩ 0)) := s6_grown G2 (by omega) 0 2 (bits .or .i64 a b) 0 ⟨#[]⟩ 0
  obtain ⟨WF, hWF⟩ : ∃ WF, WF = s6 w2 (w.heap.size) 0 2 (bits .or .i64 a b) 0 ⟨#[]⟩ 0 := ⟨_, rfl⟩
  rw [← hWF] at e0 e1 e2 e3 e4 e5 GG
  have hWF' := hWF
  unfold s6 at hWF'
  rw [← hWF']
  clear hWF hWF'
  refine bodyPost_ret (by simp [results, Tryz.results18, go_sem, e0, e1, e2, e3, e4, e5]; rfl) rfl ?_
  exact ⟨rfl, GG⟩
set_option maxHeartbeats 2000000 in
theorem sp_io_9 (a b : Int) (w : World) : Calls Tryz.prog 18 #[.int .i64 9, .int .i64 a, .int .i64 b] w fun e w' => e = .returned (va 0 ⟨2, (bits .xor .i64 a b), 0, ⟨#[]⟩, 0⟩) ∧ Grown w w' := by
  have HI := fun w => sp_int (bits .xor .i64 a b) w
  have HG := fun w => sp_got ⟨2, (bits .xor .i64 a b), 0, ⟨#[]⟩, 0⟩ w
  unfold vv at HI HG
  unfold va at HG
  dsimp only at HI HG
  unfold va
  dsimp only
  have hst : ∀ (a : Addr) (n : Nat) (m : Mode) (w : World), (store a (.float .f64 n) m).run Tryz.prog w = stored Tryz.prog w a (.float .f64 n) m := fun a n m w => run_store _ _ _ _ _ rfl
  go_enter Tryz.func18, Tryz.ntmps18
  go_wp2_with fail
  refine (HI _).mono ?_
  rintro e w1 ⟨rfl, g1⟩
  have G1 : Hid (Grown w w1) := Grown.trans (by go_grown) g1
  have R1 : Hid (Rv w1 w.heap.size) := Rv.grown (Rv.new w 28) g1
  clear g1
  go_wp2_with fail
  refine (HG _).mono ?_
  rintro e w2 ⟨rfl, g2⟩
  have G2 : Hid (Grown w w2) := Grown.trans G1 g2
  have R2 : Hid (Rv w2 w.heap.size) := Rv.grown R1 g2
  clear g2 G1 R1
  obtain ⟨r0, r1, r2, r3, r4, r5, rz⟩ := (show Rv w2 w.heap.size from R2)
  go_wp2_with fail
  obtain ⟨e0, e1, e2, e3, e4, e5⟩ := rv_set' (show Rv w2 w.heap.size from R2) 0 2 (bits .xor .i64 a b) 0 ⟨#[]⟩ 0
  have GG : Hid (Grown w (s6 w2 (w.heap.size) 0 2 (bits .xor .i64 a b) 0 ⟨#[]⟩ 0)) := s6_grown G2 (by omega) 0 2 (bits .xor .i64 a b) 0 ⟨#[]⟩ 0
  obtain ⟨WF, hWF⟩ : ∃ WF, WF = s6 w2 (w.heap.size) 0 2 (bits .xor .i64 a b) 0 ⟨#[]⟩ 0 := ⟨_, rfl⟩
  rw [← hWF] at e0 e1 e2 e3 e4 e5 GG
  have hWF' := hWF
  unfold s6 at hWF'
  rw [← hWF']
  clear hWF hWF'
  refine bodyPost_ret (by simp [results, Tryz.results18, go_sem, e0, e1, e2, e3, e4, e5]; rfl) rfl ?_
  exact ⟨rfl, GG⟩
set_option maxHeartbeats 2000000 in
theorem im_io_1 (a b : Int) (w : World) : Calls Tryz.prog 30 #[.int .i64 1, .int .i64 a, .int .i64 b] w fun e w' => e = .returned (va 0 ⟨2, (wrap64 (a + b)), 0, ⟨#[]⟩, 0⟩) ∧ Grown w w' := by
  have HI := fun w => im_int (wrap64 (a + b)) w
  unfold va at HI
  dsimp only at HI
  unfold va
  dsimp only
  have hst : ∀ (a : Addr) (n : Nat) (m : Mode) (w : World), (store a (.float .f64 n) m).run Tryz.prog w = stored Tryz.prog w a (.float .f64 n) m := fun a n m w => run_store _ _ _ _ _ rfl
  go_enter Tryz.func30, Tryz.ntmps30
  go_wp2_with fail
  refine (HI _).mono ?_
  rintro e w1 ⟨rfl, g1⟩
  have G1 : Hid (Grown w w1) := Grown.trans (by go_grown) g1
  have R1 : Hid (Rv w1 w.heap.size) := Rv.grown (Rv.new w 28) g1
  clear g1
  obtain ⟨r0, r1, r2, r3, r4, r5, rz⟩ := (show Rv w1 w.heap.size from R1)
  go_wp2_with fail
  obtain ⟨e0, e1, e2, e3, e4, e5⟩ := rv_set' (show Rv w1 w.heap.size from R1) 0 2 (wrap64 (a + b)) 0 ⟨#[]⟩ 0
  have GG : Hid (Grown w (s6 w1 (w.heap.size) 0 2 (wrap64 (a + b)) 0 ⟨#[]⟩ 0)) := s6_grown G1 (by omega) 0 2 (wrap64 (a + b)) 0 ⟨#[]⟩ 0
  obtain ⟨WF, hWF⟩ : ∃ WF, WF = s6 w1 (w.heap.size) 0 2 (wrap64 (a + b)) 0 ⟨#[]⟩ 0 := ⟨_, rfl⟩
  rw [← hWF] at e0 e1 e2 e3 e4 e5 GG
  have hWF' := hWF
  unfold s6 at hWF'
  rw [← hWF']
  clear hWF hWF'
  refine bodyPost_ret (by simp [results, Tryz.results30, go_sem, e0, e1, e2, e3, e4, e5]; rfl) rfl ?_
  exact ⟨rfl, GG⟩
set_option maxHeartbeats 2000000 in
theorem im_io_2 (a b : Int) (w : World) : Calls Tryz.prog 30 #[.int .i64 2, .int .i64 a, .int .i64 b] w fun e w' => e = .returned (va 0 ⟨2, (wrap64 (a - b)), 0, ⟨#[]⟩, 0⟩) ∧ Grown w w' := by
  have HI := fun w => im_int (wrap64 (a - b)) w
  unfold va at HI
  dsimp only at HI
  unfold va
  dsimp only
  have hst : ∀ (a : Addr) (n : Nat) (m : Mode) (w : World), (store a (.float .f64 n) m).run Tryz.prog w = stored Tryz.prog w a (.float .f64 n) m := fun a n m w => run_store _ _ _ _ _ rfl
  go_enter Tryz.func30, Tryz.ntmps30
  go_wp2_with fail
  refine (HI _).mono ?_
  rintro e w1 ⟨rfl, g1⟩
  have G1 : Hid (Grown w w1) := Grown.trans (by go_grown) g1
  have R1 : Hid (Rv w1 w.heap.size) := Rv.grown (Rv.new w 28) g1
  clear g1
  obtain ⟨r0, r1, r2, r3, r4, r5, rz⟩ := (show Rv w1 w.heap.size from R1)
  go_wp2_with fail
  obtain ⟨e0, e1, e2, e3, e4, e5⟩ := rv_set' (show Rv w1 w.heap.size from R1) 0 2 (wrap64 (a - b)) 0 ⟨#[]⟩ 0
  have GG : Hid (Grown w (s6 w1 (w.heap.size) 0 2 (wrap64 (a - b)) 0 ⟨#[]⟩ 0)) := s6_grown G1 (by omega) 0 2 (wrap64 (a - b)) 0 ⟨#[]⟩ 0
  obtain ⟨WF, hWF⟩ : ∃ WF, WF = s6 w1 (w.heap.size) 0 2 (wrap64 (a - b)) 0 ⟨#[]⟩ 0 := ⟨_, rfl⟩
  rw [← hWF] at e0 e1 e2 e3 e4 e5 GG
  have hWF' := hWF
  unfold s6 at hWF'
  rw [← hWF']
  clear hWF hWF'
  refine bodyPost_ret (by simp [results, Tryz.results30, go_sem, e0, e1, e2, e3, e4, e5]; rfl) rfl ?_
  exact ⟨rfl, GG⟩
set_option maxHeartbeats 2000000 in
theorem im_io_3 (a b : Int) (w : World) : Calls Tryz.prog 30 #[.int .i64 3, .int .i64 a, .int .i64 b] w fun e w' => e = .returned (va 0 ⟨2, (wrap64 (a * b)), 0, ⟨#[]⟩, 0⟩) ∧ Grown w w' := by
  have HI := fun w => im_int (wrap64 (a * b)) w
  unfold va at HI
  dsimp only at HI
  unfold va
  dsimp only
  have hst : ∀ (a : Addr) (n : Nat) (m : Mode) (w : World), (store a (.float .f64 n) m).run Tryz.prog w = stored Tryz.prog w a (.float .f64 n) m := fun a n m w => run_store _ _ _ _ _ rfl
  go_enter Tryz.func30, Tryz.ntmps30
  go_wp2_with fail
  refine (HI _).mono ?_
  rintro e w1 ⟨rfl, g1⟩
  have G1 : Hid (Grown w w1) := Grown.trans (by go_grown) g1
  have R1 : Hid (Rv w1 w.heap.size) := Rv.grown (Rv.new w 28) g1
  clear g1
  obtain ⟨r0, r1, r2, r3, r4, r5, rz⟩ := (show Rv w1 w.heap.size from R1)
  go_wp2_with fail
  obtain ⟨e0, e1, e2, e3, e4, e5⟩ := rv_set' (show Rv w1 w.heap.size from R1) 0 2 (wrap64 (a * b)) 0 ⟨#[]⟩ 0
  have GG : Hid (Grown w (s6 w1 (w.heap.size) 0 2 (wrap64 (a * b)) 0 ⟨#[]⟩ 0)) := s6_grown G1 (by omega) 0 2 (wrap64 (a * b)) 0 ⟨#[]⟩ 0
  obtain ⟨WF, hWF⟩ : ∃ WF, WF = s6 w1 (w.heap.size) 0 2 (wrap64 (a * b)) 0 ⟨#[]⟩ 0 := ⟨_, rfl⟩
  rw [← hWF] at e0 e1 e2 e3 e4 e5 GG
  have hWF' := hWF
  unfold s6 at hWF'
  rw [← hWF']
  clear hWF hWF'
  refine bodyPost_ret (by simp [results, Tryz.results30, go_sem, e0, e1, e2, e3, e4, e5]; rfl) rfl ?_
  exact ⟨rfl, GG⟩
set_option maxHeartbeats 2000000 in
theorem im_io_7 (a b : Int) (w : World) : Calls Tryz.prog 30 #[.int .i64 7, .int .i64 a, .int .i64 b] w fun e w' => e = .returned (va 0 ⟨2, (bits .and .i64 a b), 0, ⟨#[]⟩, 0⟩) ∧ Grown w w' := by
  have HI := fun w => im_int (bits .and .i64 a b) w
  unfold va at HI
  dsimp only at HI
  unfold va
  dsimp only
  have hst : ∀ (a : Addr) (n : Nat) (m : Mode) (w : World), (store a (.float .f64 n) m).run Tryz.prog w = stored Tryz.prog w a (.float .f64 n) m := fun a n m w => run_store _ _ _ _ _ rfl
  go_enter Tryz.func30, Tryz.ntmps30
  go_wp2_with fail
  refine (HI _).mono ?_
  rintro e w1 ⟨rfl, g1⟩
  have G1 : Hid (Grown w w1) := Grown.trans (by go_grown) g1
  have R1 : Hid (Rv w1 w.heap.size) := Rv.grown (Rv.new w 28) g1
  clear g1
  obtain ⟨r0, r1, r2, r3, r4, r5, rz⟩ := (show Rv w1 w.heap.size from R1)
  go_wp2_with fail
  obtain ⟨e0, e1, e2, e3, e4, e5⟩ := rv_set' (show Rv w1 w.heap.size from R1) 0 2 (bits .and .i64 a b) 0 ⟨#[]⟩ 0
  have GG : Hid (Grown w (s6 w1 (w.heap.size) 0 2 (bits .and .i64 a b) 0 ⟨#[]⟩ 0)) := s6_grown G1 (by omega) 0 2 (bits .and .i64 a b) 0 ⟨#[]⟩ 0
  obtain ⟨WF, hWF⟩ : ∃ WF, WF = s6 w1 (w.heap.size) 0 2 (bits .and .i64 a b) 0 ⟨#[]⟩ 0 := ⟨_, rfl⟩
  rw [← hWF] at e0 e1 e2 e3 e4 e5 GG
  have hWF' := hWF
  unfold s6 at hWF'
  rw [← hWF']
  clear hWF hWF'
  refine bodyPost_ret (by simp [results, Tryz.results30, go_sem, e0, e1, e2, e3, e4, e5]; rfl) rfl ?_
  exact ⟨rfl, GG⟩
set_option maxHeartbeats 2000000 in
theorem im_io_8 (a b : Int) (w : World) : Calls Tryz.prog 30 #[.int .i64 8, .int .i64 a, .int .i64 b] w fun e w' => e = .returned (va 0 ⟨2, (bits .or .i64 a b), 0, ⟨#[]⟩, 0⟩) ∧ Grown w w' := by
  have HI := fun w => im_int (bits .or .i64 a b) w
  unfold va at HI
  dsimp only at HI
  unfold va
  dsimp only
  have hst : ∀ (a : Addr) (n : Nat) (m : Mode) (w : World), (store a (.float .f64 n) m).run Tryz.prog w = stored Tryz.prog w a (.float .f64 n) m := fun a n m w => run_store _ _ _ _ _ rfl
  go_enter Tryz.func30, Tryz.ntmps30
  go_wp2_with fail
  refine (HI _).mono ?_
  rintro e w1 ⟨rfl, g1⟩
  have G1 : Hid (Grown w w1) := Grown.trans (by go_grown) g1
  have R1 : Hid (Rv w1 w.heap.size) := Rv.grown (Rv.new w 28) g1
  clear g1
  obtain ⟨r0, r1, r2, r3, r4, r5, rz⟩ := (show Rv w1 w.heap.size from R1)
  go_wp2_with fail
  obtain ⟨e0, e1, e2, e3, e4, e5⟩ := rv_set' (show Rv w1 w.heap.size from R1) 0 2 (bits .or .i64 a b) 0 ⟨#[]⟩ 0
  have GG : Hid (Grown w (s6 w1 (w.heap.size) 0 2 (bits .or .i64 a b) 0 ⟨#[]⟩ 0)) := s6_grown G1 (by omega) 0 2 (bits .or .i64 a b) 0 ⟨#[]⟩ 0
  obtain ⟨WF, hWF⟩ : ∃ WF, WF = s6 w1 (w.heap.size) 0 2 (bits .or .i64 a b) 0 ⟨#[]⟩ 0 := ⟨_, rfl⟩
  rw [← hWF] at e0 e1 e2 e3 e4 e5 GG
  have hWF' := hWF
  unfold s6 at hWF'
  rw [← hWF']
  clear hWF hWF'
  refine bodyPost_ret (by simp [results, Tryz.results30, go_sem, e0, e1, e2, e3, e4, e5]; rfl) rfl ?_
  exact ⟨rfl, GG⟩
set_option maxHeartbeats 2000000 in
theorem im_io_9 (a b : Int) (w : World) : Calls Tryz.prog 30 #[.int .i64 9, .int .i64 a, .int .i64 b] w fun e w' => e = .returned (va 0 ⟨2, (bits .xor .i64 a b), 0, ⟨#[]⟩, 0⟩) ∧ Grown w w' := by
  have HI := fun w => im_int (bits .xor .i64 a b) w
  unfold va at HI
  dsimp only at HI
  unfold va
  dsimp only
  have hst : ∀ (a : Addr) (n : Nat) (m : Mode) (w : World), (store a (.float .f64 n) m).run Tryz.prog w = stored Tryz.prog w a (.float .f64 n) m := fun a n m w => run_store _ _ _ _ _ rfl
  go_enter Tryz.func30, Tryz.ntmps30
  go_wp2_with fail
  refine (HI _).mono ?_
  rintro e w1 ⟨rfl, g1⟩
  have G1 : Hid (Grown w w1) := Grown.trans (by go_grown) g1
  have R1 : Hid (Rv w1 w.heap.size) := Rv.grown (Rv.new w 28) g1
  clear g1
  obtain ⟨r0, r1, r2, r3, r4, r5, rz⟩ := (show Rv w1 w.heap.size from R1)
  go_wp2_with fail
  obtain ⟨e0, e1, e2, e3, e4, e5⟩ := rv_set' (show Rv w1 w.heap.size from R1) 0 2 (bits .xor .i64 a b) 0 ⟨#[]⟩ 0
  have GG : Hid (Grown w (s6 w1 (w.heap.size) 0 2 (bits .xor .i64 a b) 0 ⟨#[]⟩ 0)) := s6_grown G1 (by omega) 0 2 (bits .xor .i64 a b) 0 ⟨#[]⟩ 0
  obtain ⟨WF, hWF⟩ : ∃ WF, WF = s6 w1 (w.heap.size) 0 2 (bits .xor .i64 a b) 0 ⟨#[]⟩ 0 := ⟨_, rfl⟩
  rw [← hWF] at e0 e1 e2 e3 e4 e5 GG
  have hWF' := hWF
  unfold s6 at hWF'
  rw [← hWF']
  clear hWF hWF'
  refine bodyPost_ret (by simp [results, Tryz.results30, go_sem, e0, e1, e2, e3, e4, e5]; rfl) rfl ?_
  exact ⟨rfl, GG⟩
end Go.Proofs.YtladepgpandklaaGreatDoor
