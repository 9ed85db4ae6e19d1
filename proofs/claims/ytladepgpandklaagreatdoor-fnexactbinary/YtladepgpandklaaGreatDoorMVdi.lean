import Derived.Test.YtladepgpandklaaGreatDoorMVdf
namespace Go.Proofs.YtladepgpandklaaGreatDoor
open Go.ChangeShapes Go.WideShapes Go.ChangeAt Go.RowKit
set_option linter.unusedVariables false
set_option maxRecDepth 100000
theorem shl_im (a b : Int) (h0 : ¬ b < 0) (h1 : ¬ 63 < b) (w : World) : Calls Tryz.prog 66 #[.int .i64 a, .int .i64 b] w fun e w' => e = .returned (.int .i64 (wrap64 (a * 2 ^ b.toNat))) ∧ w' = w := by
  have g1 : ¬ b < -63 := by omega
  have g2 : 0 ≤ b := by omega
  go_enter Tryz.func66, Tryz.ntmps66
  go_wp2_with fail
  go_ret
  exact ⟨rfl, rfl⟩
theorem sh0_im (a b : Int) (h1 : 63 < b ∨ b < -63) (w : World) : Calls Tryz.prog 66 #[.int .i64 a, .int .i64 b] w fun e w' => e = .returned (.int .i64 0) ∧ w' = w := by
  by_cases h2 : 63 < b
  · clear h1
    go_enter Tryz.func66, Tryz.ntmps66
    go_wp2_with fail
    go_ret
    exact ⟨rfl, rfl⟩
  have h3 : b < -63 := by omega
  clear h1
  go_enter Tryz.func66, Tryz.ntmps66
  go_wp2_with fail
  go_ret
  exact ⟨rfl, rfl⟩
theorem shr0 (a : Int) : wrap64 (IntKind.u64.wrap a / 2 ^ (0 : Int).toNat) = wrap64 (a * 2 ^ (0 : Int).toNat) := by
  simp [IntKind.wrap, IntKind.signed, IntKind.bits]
  unfold wrap64
  omega
theorem shr_im (a b : Int) (h0 : ¬ b < 0) (h1 : ¬ 63 < b) (w : World) : Calls Tryz.prog 66 #[.int .i64 a, .int .i64 (-b)] w fun e w' => e = .returned (.int .i64 (wrap64 (IntKind.u64.wrap a / 2 ^ b.toNat))) ∧ w' = w := by
  by_cases hp : b = 0
  · subst hp
    rw [shr0]
    exact shl_im a 0 (by omega) (by omega) w
  have g1 : ¬ -b < -63 := by omega
  have g2 : -b < 0 := by omega
  have g3 : ¬ 63 < -b := by omega
  have g4 : ¬ 0 ≤ -b := by omega
  go_enter Tryz.func66, Tryz.ntmps66
  go_wp2_with fail
  go_ret
  exact ⟨rfl, rfl⟩
/-- what a shift gives -/
noncomputable def shz (op a b : Int) : Int := if 63 < b then 0 else if op = 10 then wrap64 (a * 2 ^ b.toNat) else wrap64 (IntKind.u64.wrap a / 2 ^ b.toNat)
theorem sh_im10 (a b : Int) (h0 : ¬ b < 0) (w : World) : Calls Tryz.prog 66 #[.int .i64 a, .int .i64 b] w fun e w' => e = .returned (.int .i64 (shz 10 a b)) ∧ w' = w := by
  unfold shz
  split
  · exact sh0_im a b (by omega) w
  · exact shl_im a b h0 (by assumption) w
theorem sh_im11 (a b : Int) (h0 : ¬ b < 0) (w : World) : Calls Tryz.prog 66 #[.int .i64 a, .int .i64 (-b)] w fun e w' => e = .returned (.int .i64 (shz 11 a b)) ∧ w' = w := by
  unfold shz
  split
  · exact sh0_im a (-b) (by omega) w
  · exact shr_im a b h0 (by assumption) w
set_option maxHeartbeats 2000000 in
theorem sp_io_10n (a b : Int) (h0 : b < 0) (w : World) : Calls Tryz.prog 18 #[.int .i64 10, .int .i64 a, .int .i64 b] w fun e w' => e = .returned (va 3 ⟨0, 0, 0, ⟨#[]⟩, 0⟩) ∧ Grown w w' := by
  have HF := fun w => sp_fail 3 w
  unfold va at HF
  dsimp only at HF
  unfold va
  dsimp only
  have hst : ∀ (a : Addr) (n : Nat) (m : Mode) (w : World), (store a (.float .f64 n) m).run Tryz.prog w = stored Tryz.prog w a (.float .f64 n) m := fun a n m w => run_store _ _ _ _ _ rfl
  go_enter Tryz.func18, Tryz.ntmps18
  go_wp2_with fail
  refine (HF _).mono ?_
  rintro e w1 ⟨rfl, g1⟩
  have G1 : Hid (Grown w w1) := Grown.trans (by go_grown) g1
  have R1 : Hid (Rv w1 w.heap.size) := Rv.grown (Rv.new w 28) g1
  clear g1
  obtain ⟨r0, r1, r2, r3, r4, r5, rz⟩ := (show Rv w1 w.heap.size from R1)
  go_wp2_with fail
  obtain ⟨e0, e1, e2, e3, e4, e5⟩ := rv_set' (show Rv w1 w.heap.size from R1) 3 0 0 0 ⟨#[]⟩ 0
  have GG : Hid (Grown w (s6 w1 (w.heap.size) 3 0 0 0 ⟨#[]⟩ 0)) := s6_grown G1 (by omega) 3 0 0 0 ⟨#[]⟩ 0
  obtain ⟨WF, hWF⟩ : ∃ WF, WF = s6 w1 (w.heap.size) 3 0 0 0 ⟨#[]⟩ 0 := ⟨_, rfl⟩
  rw [← hWF] at e0 e1 e2 e3 e4 e5 GG
  have hWF' := hWF
  unfold s6 at hWF'
  rw [← hWF']
  clear hWF hWF'
  refine bodyPost_ret (by simp [results, Tryz.results18, go_sem, e0, e1, e2, e3, e4, e5]; rfl) rfl ?_
  exact ⟨rfl, GG⟩
set_option maxHeartbeats 2000000 in
theorem sp_io_10g (a b : Int) (h0 : ¬ b < 0) (h1 : 63 < b) (w : World) : Calls Tryz.prog 18 #[.int .i64 10, .int .i64 a, .int .i64 b] w fun e w' => e = .returned (va 0 ⟨2, 0, 0, ⟨#[]⟩, 0⟩) ∧ Grown w w' := by
  have HI := fun w => sp_int 0 w
  have HG := fun w => sp_got ⟨2, 0, 0, ⟨#[]⟩, 0⟩ w
  unfold vv at HI HG
  unfold va at HG
  dsimp only at HI HG
  unfold va
  dsimp only
  have hst : ∀ (a : Addr) (n : Nat) (m : Mode) (w : World), (store a (.float .f64 n) m).run Tryz.prog w = stored Tryz.prog w a (.float .f64 n) m := fun a n m w => run_store _ _ _ _ _ rfl
  go_enter Tryz.func18, Tryz.ntmps18
  go_wp2_with fail
  refine (HI _).mono ?_
  rintro e w1 ⟨rfl, g1⟩
  have G1 : Hid (Grown w w1) := Grown.trans (by go_grown) g1
  have R1 : Hid (Rv w1 w.heap.size) := Rv.grown (Rv.new w 28) g1
  clear g1
  go_wp2_with fail
  refine (HG _).mono ?_
  rintro e w2 ⟨rfl, g2⟩
  have G2 : Hid (Grown w w2) := Grown.trans G1 g2
  have R2 : Hid (Rv w2 w.heap.size) := Rv.grown R1 g2
  clear g2 G1 R1
  obtain ⟨r0, r1, r2, r3, r4, r5, rz⟩ := (show Rv w2 w.heap.size from R2)
  go_wp2_with fail
  obtain ⟨e0, e1, e2, e3, e4, e5⟩ := rv_set' (show Rv w2 w.heap.size from R2) 0 2 0 0 ⟨#[]⟩ 0
  have GG : Hid (Grown w (s6 w2 (w.heap.size) 0 2 0 0 ⟨#[]⟩ 0)) := s6_grown G2 (by omega) 0 2 0 0 ⟨#[]⟩ 0
  obtain ⟨WF, hWF⟩ : ∃ WF, WF = s6 w2 (w.heap.size) 0 2 0 0 ⟨#[]⟩ 0 := ⟨_, rfl⟩
  rw [← hWF] at e0 e1 e2 e3 e4 e5 GG
  have hWF' := hWF
  unfold s6 at hWF'
  rw [← hWF']
  clear hWF hWF'
  refine bodyPost_ret (by simp [results, Tryz.results18, go_sem, e0, e1, e2, e3, e4, e5]; rfl) rfl ?_
  exact ⟨rfl, GG⟩
set_option maxHeartbeats 2000000 in
theorem sp_io_10s (a b : Int) (h0 : ¬ b < 0) (h1 : ¬ 63 < b) (w : World) : Calls Tryz.prog 18 #[.int .i64 10, .int .i64 a, .int .i64 b] w fun e w' => e = .returned (va 0 ⟨2, (wrap64 (a * 2 ^ b.toNat)), 0, ⟨#[]⟩, 0⟩) ∧ Grown w w' := by
  have hub : IntKind.u64.wrap b = b := by simp [IntKind.wrap, IntKind.signed, IntKind.bits]; omega
  have HI := fun w => sp_int (wrap64 (a * 2 ^ b.toNat)) w
  have HG := fun w => sp_got ⟨2, (wrap64 (a * 2 ^ b.toNat)), 0, ⟨#[]⟩, 0⟩ w
  unfold vv at HI HG
  unfold va at HG
  dsimp only at HI HG
  unfold va
  dsimp only
  have hst : ∀ (a : Addr) (n : Nat) (m : Mode) (w : World), (store a (.float .f64 n) m).run Tryz.prog w = stored Tryz.prog w a (.float .f64 n) m := fun a n m w => run_store _ _ _ _ _ rfl
  go_enter Tryz.func18, Tryz.ntmps18
  go_wp2_with fail
  refine (HI _).mono ?_
  rintro e w1 ⟨rfl, g1⟩
  have G1 : Hid (Grown w w1) := Grown.trans (by go_grown) g1
  have R1 : Hid (Rv w1 w.heap.size) := Rv.grown (Rv.new w 28) g1
  clear g1
  go_wp2_with fail
  refine (HG _).mono ?_
  rintro e w2 ⟨rfl, g2⟩
  have G2 : Hid (Grown w w2) := Grown.trans G1 g2
  have R2 : Hid (Rv w2 w.heap.size) := Rv.grown R1 g2
  clear g2 G1 R1
  obtain ⟨r0, r1, r2, r3, r4, r5, rz⟩ := (show Rv w2 w.heap.size from R2)
  go_wp2_with fail
  obtain ⟨e0, e1, e2, e3, e4, e5⟩ := rv_set' (show Rv w2 w.heap.size from R2) 0 2 (wrap64 (a * 2 ^ b.toNat)) 0 ⟨#[]⟩ 0
  have GG : Hid (Grown w (s6 w2 (w.heap.size) 0 2 (wrap64 (a * 2 ^ b.toNat)) 0 ⟨#[]⟩ 0)) := s6_grown G2 (by omega) 0 2 (wrap64 (a * 2 ^ b.toNat)) 0 ⟨#[]⟩ 0
  obtain ⟨WF, hWF⟩ : ∃ WF, WF = s6 w2 (w.heap.size) 0 2 (wrap64 (a * 2 ^ b.toNat)) 0 ⟨#[]⟩ 0 := ⟨_, rfl⟩
  rw [← hWF] at e0 e1 e2 e3 e4 e5 GG
  have hWF' := hWF
  unfold s6 at hWF'
  rw [← hWF']
  clear hWF hWF'
  refine bodyPost_ret (by simp [results, Tryz.results18, go_sem, e0, e1, e2, e3, e4, e5]; rfl) rfl ?_
  exact ⟨rfl, GG⟩
theorem sp_io_10 (a b : Int) (h0 : ¬ b < 0) (w : World) : Calls Tryz.prog 18 #[.int .i64 10, .int .i64 a, .int .i64 b] w fun e w' => e = .returned (va 0 ⟨2, (shz 10 a b), 0, ⟨#[]⟩, 0⟩) ∧ Grown w w' := by
  unfold shz
  split
  · exact sp_io_10g a b h0 (by assumption) w
  · exact sp_io_10s a b h0 (by assumption) w
set_option maxHeartbeats 2000000 in
theorem im_sh_10n (a b : Int) (h0 : b < 0) (w : World) : Calls Tryz.prog 52 #[.int .i64 10, .int .i64 a, .int .i64 b] w fun e w' => e = .returned (va 3 ⟨0, 0, 0, ⟨#[]⟩, 0⟩) ∧ Grown w w' := by
  have HF := fun w => im_fail 3 w
  unfold va at HF
  dsimp only at HF
  unfold va
  dsimp only
  have hst : ∀ (a : Addr) (n : Nat) (m : Mode) (w : World), (store a (.float .f64 n) m).run Tryz.prog w = stored Tryz.prog w a (.float .f64 n) m := fun a n m w => run_store _ _ _ _ _ rfl
  go_enter Tryz.func52, Tryz.ntmps52
  go_wp2_with fail
  refine (HF _).mono ?_
  rintro e w1 ⟨rfl, g1⟩
  have G1 : Hid (Grown w w1) := Grown.trans (by go_grown) g1
  have R1 : Hid (Rv w1 w.heap.size) := Rv.grown (Rv.new w 28) g1
  clear g1
  obtain ⟨r0, r1, r2, r3, r4, r5, rz⟩ := (show Rv w1 w.heap.size from R1)
  go_wp2_with fail
  obtain ⟨e0, e1, e2, e3, e4, e5⟩ := rv_set' (show Rv w1 w.heap.size from R1) 3 0 0 0 ⟨#[]⟩ 0
  have GG : Hid (Grown w (s6 w1 (w.heap.size) 3 0 0 0 ⟨#[]⟩ 0)) := s6_grown G1 (by omega) 3 0 0 0 ⟨#[]⟩ 0
  obtain ⟨WF, hWF⟩ : ∃ WF, WF = s6 w1 (w.heap.size) 3 0 0 0 ⟨#[]⟩ 0 := ⟨_, rfl⟩
  rw [← hWF] at e0 e1 e2 e3 e4 e5 GG
  have hWF' := hWF
  unfold s6 at hWF'
  rw [← hWF']
  clear hWF hWF'
  refine bodyPost_ret (by simp [results, Tryz.results52, go_sem, e0, e1, e2, e3, e4, e5]; rfl) rfl ?_
  exact ⟨rfl, GG⟩
set_option maxHeartbeats 2000000 in
theorem im_sh_10 (a b z : Int) (hb : -9223372036854775808 ≤ b ∧ b ≤ 9223372036854775807) (h0 : ¬ b < 0) (HZ : ∀ w, Calls Tryz.prog 66 #[.int .i64 a, .int .i64 b] w fun e w' => e = .returned (.int .i64 z) ∧ w' = w) (w : World) : Calls Tryz.prog 52 #[.int .i64 10, .int .i64 a, .int .i64 b] w fun e w' => e = .returned (va 0 ⟨2, z, 0, ⟨#[]⟩, 0⟩) ∧ Grown w w' := by
  have HI := fun w => im_int z w
  unfold va at HI
  dsimp only at HI
  unfold va
  dsimp only
  have hst : ∀ (a : Addr) (n : Nat) (m : Mode) (w : World), (store a (.float .f64 n) m).run Tryz.prog w = stored Tryz.prog w a (.float .f64 n) m := fun a n m w => run_store _ _ _ _ _ rfl
  go_enter Tryz.func52, Tryz.ntmps52
  go_wp2_with fail
  refine (HZ _).mono ?_
  rintro e w9 ⟨rfl, rfl⟩
  go_wp2_with fail
  refine (HI _).mono ?_
  rintro e w1 ⟨rfl, g1⟩
  have G1 : Hid (Grown w w1) := Grown.trans (by go_grown) g1
  have R1 : Hid (Rv w1 w.heap.size) := Rv.grown (Rv.new w 28) g1
  clear g1
  obtain ⟨r0, r1, r2, r3, r4, r5, rz⟩ := (show Rv w1 w.heap.size from R1)
  go_wp2_with fail
  obtain ⟨e0, e1, e2, e3, e4, e5⟩ := rv_set' (show Rv w1 w.heap.size from R1) 0 2 z 0 ⟨#[]⟩ 0
  have GG : Hid (Grown w (s6 w1 (w.heap.size) 0 2 z 0 ⟨#[]⟩ 0)) := s6_grown G1 (by omega) 0 2 z 0 ⟨#[]⟩ 0
  obtain ⟨WF, hWF⟩ : ∃ WF, WF = s6 w1 (w.heap.size) 0 2 z 0 ⟨#[]⟩ 0 := ⟨_, rfl⟩
  rw [← hWF] at e0 e1 e2 e3 e4 e5 GG
  have hWF' := hWF
  unfold s6 at hWF'
  rw [← hWF']
  clear hWF hWF'
  refine bodyPost_ret (by simp [results, Tryz.results52, go_sem, e0, e1, e2, e3, e4, e5]; rfl) rfl ?_
  exact ⟨rfl, GG⟩
set_option maxHeartbeats 2000000 in
theorem sp_io_11n (a b : Int) (h0 : b < 0) (w : World) : Calls Tryz.prog 18 #[.int .i64 11, .int .i64 a, .int .i64 b] w fun e w' => e = .returned (va 3 ⟨0, 0, 0, ⟨#[]⟩, 0⟩) ∧ Grown w w' := by
  have HF := fun w => sp_fail 3 w
  unfold va at HF
  dsimp only at HF
  unfold va
  dsimp only
  have hst : ∀ (a : Addr) (n : Nat) (m : Mode) (w : World), (store a (.float .f64 n) m).run Tryz.prog w = stored Tryz.prog w a (.float .f64 n) m := fun a n m w => run_store _ _ _ _ _ rfl
  go_enter Tryz.func18, Tryz.ntmps18
  go_wp2_with fail
  refine (HF _).mono ?_
  rintro e w1 ⟨rfl, g1⟩
  have G1 : Hid (Grown w w1) := Grown.trans (by go_grown) g1
  have R1 : Hid (Rv w1 w.heap.size) := Rv.grown (Rv.new w 28) g1
  clear g1
  obtain ⟨r0, r1, r2, r3, r4, r5, rz⟩ := (show Rv w1 w.heap.size from R1)
  go_wp2_with fail
  obtain ⟨e0, e1, e2, e3, e4, e5⟩ := rv_set' (show Rv w1 w.heap.size from R1) 3 0 0 0 ⟨#[]⟩ 0
  have GG : Hid (Grown w (s6 w1 (w.heap.size) 3 0 0 0 ⟨#[]⟩ 0)) := s6_grown G1 (by omega) 3 0 0 0 ⟨#[]⟩ 0
  obtain ⟨WF, hWF⟩ : ∃ WF, WF = s6 w1 (w.heap.size) 3 0 0 0 ⟨#[]⟩ 0 := ⟨_, rfl⟩
  rw [← hWF] at e0 e1 e2 e3 e4 e5 GG
  have hWF' := hWF
  unfold s6 at hWF'
  rw [← hWF']
  clear hWF hWF'
  refine bodyPost_ret (by simp [results, Tryz.results18, go_sem, e0, e1, e2, e3, e4, e5]; rfl) rfl ?_
  exact ⟨rfl, GG⟩
set_option maxHeartbeats 2000000 in
theorem sp_io_11g (a b : Int) (h0 : ¬ b < 0) (h1 : 63 < b) (w : World) : Calls Tryz.prog 18 #[.int .i64 11, .int .i64 a, .int .i64 b] w fun e w' => e = .returned (va 0 ⟨2, 0, 0, ⟨#[]⟩, 0⟩) ∧ Grown w w' := by
  have HI := fun w => sp_int 0 w
  have HG := fun w => sp_got ⟨2, 0, 0, ⟨#[]⟩, 0⟩ w
  unfold vv at HI HG
  unfold va at HG
  dsimp only at HI HG
  unfold va
  dsimp only
  have hst : ∀ (a : Addr) (n : Nat) (m : Mode) (w : World), (store a (.float .f64 n) m).run Tryz.prog w = stored Tryz.prog w a (.float .f64 n) m := fun a n m w => run_store _ _ _ _ _ rfl
  go_enter Tryz.func18, Tryz.ntmps18
  go_wp2_with fail
  refine (HI _).mono ?_
  rintro e w1 ⟨rfl, g1⟩
  have G1 : Hid (Grown w w1) := Grown.trans (by go_grown) g1
  have R1 : Hid (Rv w1 w.heap.size) := Rv.grown (Rv.new w 28) g1
  clear g1
  go_wp2_with fail
  refine (HG _).mono ?_
  rintro e w2 ⟨rfl, g2⟩
  have G2 : Hid (Grown w w2) := Grown.trans G1 g2
  have R2 : Hid (Rv w2 w.heap.size) := Rv.grown R1 g2
  clear g2 G1 R1
  obtain ⟨r0, r1, r2, r3, r4, r5, rz⟩ := (show Rv w2 w.heap.size from R2)
  go_wp2_with fail
  obtain ⟨e0, e1, e2, e3, e4, e5⟩ := rv_set' (show Rv w2 w.heap.size from R2) 0 2 0 0 ⟨#[]⟩ 0
  have GG : Hid (Grown w (s6 w2 (w.heap.size) 0 2 0 0 ⟨#[]⟩ 0)) := s6_grown G2 (by omega) 0 2 0 0 ⟨#[]⟩ 0
  obtain ⟨WF, hWF⟩ : ∃ WF, WF = s6 w2 (w.heap.size) 0 2 0 0 ⟨#[]⟩ 0 := ⟨_, rfl⟩
  rw [← hWF] at e0 e1 e2 e3 e4 e5 GG
  have hWF' := hWF
  unfold s6 at hWF'
  rw [← hWF']
  clear hWF hWF'
  refine bodyPost_ret (by simp [results, Tryz.results18, go_sem, e0, e1, e2, e3, e4, e5]; rfl) rfl ?_
  exact ⟨rfl, GG⟩
set_option maxHeartbeats 2000000 in
theorem sp_io_11s (a b : Int) (h0 : ¬ b < 0) (h1 : ¬ 63 < b) (w : World) : Calls Tryz.prog 18 #[.int .i64 11, .int .i64 a, .int .i64 b] w fun e w' => e = .returned (va 0 ⟨2, (wrap64 (IntKind.u64.wrap a / 2 ^ b.toNat)), 0, ⟨#[]⟩, 0⟩) ∧ Grown w w' := by
  have hub : IntKind.u64.wrap b = b := by simp [IntKind.wrap, IntKind.signed, IntKind.bits]; omega
  have HI := fun w => sp_int (wrap64 (IntKind.u64.wrap a / 2 ^ b.toNat)) w
  have HG := fun w => sp_got ⟨2, (wrap64 (IntKind.u64.wrap a / 2 ^ b.toNat)), 0, ⟨#[]⟩, 0⟩ w
  unfold vv at HI HG
  unfold va at HG
  dsimp only at HI HG
  unfold va
  dsimp only
  have hst : ∀ (a : Addr) (n : Nat) (m : Mode) (w : World), (store a (.float .f64 n) m).run Tryz.prog w = stored Tryz.prog w a (.float .f64 n) m := fun a n m w => run_store _ _ _ _ _ rfl
  go_enter Tryz.func18, Tryz.ntmps18
  go_wp2_with fail
  refine (HI _).mono ?_
  rintro e w1 ⟨rfl, g1⟩
  have G1 : Hid (Grown w w1) := Grown.trans (by go_grown) g1
  have R1 : Hid (Rv w1 w.heap.size) := Rv.grown (Rv.new w 28) g1
  clear g1
  go_wp2_with fail
  refine (HG _).mono ?_
  rintro e w2 ⟨rfl, g2⟩
  have G2 : Hid (Grown w w2) := Grown.trans G1 g2
  have R2 : Hid (Rv w2 w.heap.size) := Rv.grown R1 g2
  clear g2 G1 R1
  obtain ⟨r0, r1, r2, r3, r4, r5, rz⟩ := (show Rv w2 w.heap.size from R2)
  go_wp2_with fail
  obtain ⟨e0, e1, e2, e3, e4, e5⟩ := rv_set' (show Rv w2 w.heap.size from R2) 0 2 (wrap64 (IntKind.u64.wrap a / 2 ^ b.toNat)) 0 ⟨#[]⟩ 0
  have GG : Hid (Grown w (s6 w2 (w.heap.size) 0 2 (wrap64 (IntKind.u64.wrap a / 2 ^ b.toNat)) 0 ⟨#[]⟩ 0)) := s6_grown G2 (by omega) 0 2 (wrap64 (IntKind.u64.wrap a / 2 ^ b.toNat)) 0 ⟨#[]⟩ 0
  obtain ⟨WF, hWF⟩ : ∃ WF, WF = s6 w2 (w.heap.size) 0 2 (wrap64 (IntKind.u64.wrap a / 2 ^ b.toNat)) 0 ⟨#[]⟩ 0 := ⟨_, rfl⟩
  rw [← hWF] at e0 e1 e2 e3 e4 e5 GG
  have hWF' := hWF
  unfold s6 at hWF'
  rw [← hWF']
  clear hWF hWF'
  refine bodyPost_ret (by simp [results, Tryz.results18, go_sem, e0, e1, e2, e3, e4, e5]; rfl) rfl ?_
  exact ⟨rfl, GG⟩
theorem sp_io_11 (a b : Int) (h0 : ¬ b < 0) (w : World) : Calls Tryz.prog 18 #[.int .i64 11, .int .i64 a, .int .i64 b] w fun e w' => e = .returned (va 0 ⟨2, (shz 11 a b), 0, ⟨#[]⟩, 0⟩) ∧ Grown w w' := by
  unfold shz
  split
  · exact sp_io_11g a b h0 (by assumption) w
  · exact sp_io_11s a b h0 (by assumption) w
set_option maxHeartbeats 2000000 in
theorem im_sh_11n (a b : Int) (h0 : b < 0) (w : World) : Calls Tryz.prog 52 #[.int .i64 11, .int .i64 a, .int .i64 b] w fun e w' => e = .returned (va 3 ⟨0, 0, 0, ⟨#[]⟩, 0⟩) ∧ Grown w w' := by
  have HF := fun w => im_fail 3 w
  unfold va at HF
  dsimp only at HF
  unfold va
  dsimp only
  have hst : ∀ (a : Addr) (n : Nat) (m : Mode) (w : World), (store a (.float .f64 n) m).run Tryz.prog w = stored Tryz.prog w a (.float .f64 n) m := fun a n m w => run_store _ _ _ _ _ rfl
  go_enter Tryz.func52, Tryz.ntmps52
  go_wp2_with fail
  refine (HF _).mono ?_
  rintro e w1 ⟨rfl, g1⟩
  have G1 : Hid (Grown w w1) := Grown.trans (by go_grown) g1
  have R1 : Hid (Rv w1 w.heap.size) := Rv.grown (Rv.new w 28) g1
  clear g1
  obtain ⟨r0, r1, r2, r3, r4, r5, rz⟩ := (show Rv w1 w.heap.size from R1)
  go_wp2_with fail
  obtain ⟨e0, e1, e2, e3, e4, e5⟩ := rv_set' (show Rv w1 w.heap.size from R1) 3 0 0 0 ⟨#[]⟩ 0
  have GG : Hid (Grown w (s6 w1 (w.heap.size) 3 0 0 0 ⟨#[]⟩ 0)) := s6_grown G1 (by omega) 3 0 0 0 ⟨#[]⟩ 0
  obtain ⟨WF, hWF⟩ : ∃ WF, WF = s6 w1 (w.heap.size) 3 0 0 0 ⟨#[]⟩ 0 := ⟨_, rfl⟩
  rw [← hWF] at e0 e1 e2 e3 e4 e5 GG
  have hWF' := hWF
  unfold s6 at hWF'
  rw [← hWF']
  clear hWF hWF'
  refine bodyPost_ret (by simp [results, Tryz.results52, go_sem, e0, e1, e2, e3, e4, e5]; rfl) rfl ?_
  exact ⟨rfl, GG⟩
set_option maxHeartbeats 2000000 in
theorem im_sh_11 (a b z : Int) (hb : -9223372036854775808 ≤ b ∧ b ≤ 9223372036854775807) (h0 : ¬ b < 0) (HZ : ∀ w, Calls Tryz.prog 66 #[.int .i64 a, .int .i64 (-b)] w fun e w' => e = .returned (.int .i64 z) ∧ w' = w) (w : World) : Calls Tryz.prog 52 #[.int .i64 11, .int .i64 a, .int .i64 b] w fun e w' => e = .returned (va 0 ⟨2, z, 0, ⟨#[]⟩, 0⟩) ∧ Grown w w' := by
  have hn : wrap64 (-b) = -b := wrap_id (by omega) (by omega)
  have HI := fun w => im_int z w
  unfold va at HI
  dsimp only at HI
  unfold va
  dsimp only
  have hst : ∀ (a : Addr) (n : Nat) (m : Mode) (w : World), (store a (.float .f64 n) m).run Tryz.prog w = stored Tryz.prog w a (.float .f64 n) m := fun a n m w => run_store _ _ _ _ _ rfl
  go_enter Tryz.func52, Tryz.ntmps52
  go_wp2_with fail
  refine (HZ _).mono ?_
  rintro e w9 ⟨rfl, rfl⟩
  go_wp2_with fail
  refine (HI _).mono ?_
  rintro e w1 ⟨rfl, g1⟩
  have G1 : Hid (Grown w w1) := Grown.trans (by go_grown) g1
  have R1 : Hid (Rv w1 w.heap.size) := Rv.grown (Rv.new w 28) g1
  clear g1
  obtain ⟨r0, r1, r2, r3, r4, r5, rz⟩ := (show Rv w1 w.heap.size from R1)
  go_wp2_with fail
  obtain ⟨e0, e1, e2, e3, e4, e5⟩ := rv_set' (show Rv w1 w.heap.size from R1) 0 2 z 0 ⟨#[]⟩ 0
  have GG : Hid (Grown w (s6 w1 (w.heap.size) 0 2 z 0 ⟨#[]⟩ 0)) := s6_grown G1 (by omega) 0 2 z 0 ⟨#[]⟩ 0
  obtain ⟨WF, hWF⟩ : ∃ WF, WF = s6 w1 (w.heap.size) 0 2 z 0 ⟨#[]⟩ 0 := ⟨_, rfl⟩
  rw [← hWF] at e0 e1 e2 e3 e4 e5 GG
  have hWF' := hWF
  unfold s6 at hWF'
  rw [← hWF']
  clear hWF hWF'
  refine bodyPost_ret (by simp [results, Tryz.results52, go_sem, e0, e1, e2, e3, e4, e5]; rfl) rfl ?_
  exact ⟨rfl, GG⟩
end Go.Proofs.YtladepgpandklaaGreatDoor
