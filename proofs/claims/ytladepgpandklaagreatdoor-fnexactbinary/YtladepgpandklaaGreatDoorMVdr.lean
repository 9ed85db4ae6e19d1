import Derived.Test.YtladepgpandklaaGreatDoorMReg
namespace Go.Proofs.YtladepgpandklaaGreatDoor
open Go.ChangeShapes Go.WideShapes Go.ChangeAt Go.RowKit
set_option linter.unusedVariables false
set_option maxRecDepth 100000
set_option maxHeartbeats 4000000 in
theorem sp_b_o_15_0 (a b : Vv) (ha : vok a) (hb : vok b) (hxa : (a.x.size : Int) ≤ 1048576) (hxb : (b.x.size : Int) ≤ 1048576) (HZ : (∀ w, Calls Tryz.prog 17 #[vv a, vv b] w fun e w' => e = .returned (.int .i64 (-1)) ∧ Grown w w')) (w : World) : Calls Tryz.prog 5 #[.int .i64 15, vv a, vv b] w fun e w' => e = .returned (va 0 ⟨1, 1, 0, ⟨#[]⟩, 0⟩) ∧ Kq w w' := by
  have OA := fun w => sp_ok a hxa w
  rw [dc_t ha] at OA
  have OB := fun w => sp_ok b hxb w
  rw [dc_t hb] at OB
  have HB := fun w => sp_bool_true w
  have HG := fun w => sp_got ⟨1, 1, 0, ⟨#[]⟩, 0⟩ w
  obtain ⟨k, m, g, x, r⟩ := a
  obtain ⟨l, n, h, y, s⟩ := b
  unfold vv at *
  try unfold va at *
  try dsimp only at *
  clear ha hb hxa hxb
  have hst : ∀ (a : Addr) (n : Nat) (m : Mode) (w : World), (store a (.float .f64 n) m).run Tryz.prog w = stored Tryz.prog w a (.float .f64 n) m := fun a n m w => run_store _ _ _ _ _ rfl
  go_enter Tryz.func5, Tryz.ntmps5
  go_wp2_with fail
  refine (OA _).mono ?_
  rintro e w1 ⟨rfl, g1⟩
  have S1 : Hid (Bw w w1 w.heap.size ⟨k, m, g, x, r⟩ ⟨l, n, h, y, s⟩) := Bw.step (Bw.new w _ _ _ _ _ _ _ _ _ _ _ _) (.of_grown g1)
  clear g1
  obtain ⟨_, ⟨c0, c1, c2, c3, c4⟩, ⟨d0, d1, d2, d3, d4⟩, ⟨r0, r1, r2, r3, r4, r5, rz⟩⟩ := (show Bw w w1 w.heap.size ⟨k, m, g, x, r⟩ ⟨l, n, h, y, s⟩ from S1)
  go_wp2_with fail
  refine (OB _).mono ?_
  rintro e w2 ⟨rfl, g2⟩
  have S2 : Hid (Bw w w2 w.heap.size ⟨k, m, g, x, r⟩ ⟨l, n, h, y, s⟩) := Bw.step S1 (.of_grown g2)
  clear g2 S1 c0 c1 c2 c3 c4 d0 d1 d2 d3 d4 r0 r1 r2 r3 r4 r5 rz
  obtain ⟨_, ⟨c0, c1, c2, c3, c4⟩, ⟨d0, d1, d2, d3, d4⟩, ⟨r0, r1, r2, r3, r4, r5, rz⟩⟩ := (show Bw w w2 w.heap.size ⟨k, m, g, x, r⟩ ⟨l, n, h, y, s⟩ from S2)
  go_wp2_with fail
  refine (HZ _).mono ?_
  rintro e w3 ⟨rfl, g3⟩
  have S3 : Hid (Bw w w3 w.heap.size ⟨k, m, g, x, r⟩ ⟨l, n, h, y, s⟩) := Bw.step S2 (.of_grown g3)
  clear g3 S2 c0 c1 c2 c3 c4 d0 d1 d2 d3 d4 r0 r1 r2 r3 r4 r5 rz
  obtain ⟨_, ⟨c0, c1, c2, c3, c4⟩, ⟨d0, d1, d2, d3, d4⟩, ⟨r0, r1, r2, r3, r4, r5, rz⟩⟩ := (show Bw w w3 w.heap.size ⟨k, m, g, x, r⟩ ⟨l, n, h, y, s⟩ from S3)
  go_wp2_with fail
  refine (HB _).mono ?_
  rintro e w4 ⟨rfl, g4⟩
  have S4 : Hid (Bw w w4 w.heap.size ⟨k, m, g, x, r⟩ ⟨l, n, h, y, s⟩) := Bw.step S3 (.of_grown g4)
  clear g4 S3 c0 c1 c2 c3 c4 d0 d1 d2 d3 d4 r0 r1 r2 r3 r4 r5 rz
  obtain ⟨_, ⟨c0, c1, c2, c3, c4⟩, ⟨d0, d1, d2, d3, d4⟩, ⟨r0, r1, r2, r3, r4, r5, rz⟩⟩ := (show Bw w w4 w.heap.size ⟨k, m, g, x, r⟩ ⟨l, n, h, y, s⟩ from S4)
  go_wp2_with fail
  refine (HG _).mono ?_
  rintro e w5 ⟨rfl, g5⟩
  have S5 : Hid (Bw w w5 w.heap.size ⟨k, m, g, x, r⟩ ⟨l, n, h, y, s⟩) := Bw.step S4 (.of_grown g5)
  clear g5 S4 c0 c1 c2 c3 c4 d0 d1 d2 d3 d4 r0 r1 r2 r3 r4 r5 rz
  obtain ⟨_, ⟨c0, c1, c2, c3, c4⟩, ⟨d0, d1, d2, d3, d4⟩, ⟨r0, r1, r2, r3, r4, r5, rz⟩⟩ := (show Bw w w5 w.heap.size ⟨k, m, g, x, r⟩ ⟨l, n, h, y, s⟩ from S5)
  go_wp2_with fail
  obtain ⟨e0, e1, e2, e3, e4, e5⟩ := rv_set' (show Bw w w5 w.heap.size ⟨k, m, g, x, r⟩ ⟨l, n, h, y, s⟩ from S5).r 0 1 1 0 ⟨#[]⟩ 0
  have GF : Hid (Kq w (s6 w5 (w.heap.size + 2) 0 1 1 0 ⟨#[]⟩ 0)) := s6_kq (show Bw w w5 w.heap.size ⟨k, m, g, x, r⟩ ⟨l, n, h, y, s⟩ from S5).kq (by omega) 0 1 1 0 ⟨#[]⟩ 0
  obtain ⟨WF, hWF⟩ : ∃ WF, WF = s6 w5 (w.heap.size + 2) 0 1 1 0 ⟨#[]⟩ 0 := ⟨_, rfl⟩
  rw [← hWF] at e0 e1 e2 e3 e4 e5 GF
  have hWF' := hWF
  unfold s6 at hWF'
  rw [← hWF']
  clear hWF hWF'
  refine bodyPost_ret (by simp [results, Tryz.results5, go_sem, e0, e1, e2, e3, e4, e5]; rfl) rfl ?_
  exact ⟨rfl, GF⟩
set_option maxHeartbeats 4000000 in
theorem sp_b_o_15_1 (a b : Vv) (ha : vok a) (hb : vok b) (hxa : (a.x.size : Int) ≤ 1048576) (hxb : (b.x.size : Int) ≤ 1048576) (HZ : (∀ w, Calls Tryz.prog 17 #[vv a, vv b] w fun e w' => e = .returned (.int .i64 0) ∧ Grown w w')) (w : World) : Calls Tryz.prog 5 #[.int .i64 15, vv a, vv b] w fun e w' => e = .returned (va 0 ⟨1, 0, 0, ⟨#[]⟩, 0⟩) ∧ Kq w w' := by
  have OA := fun w => sp_ok a hxa w
  rw [dc_t ha] at OA
  have OB := fun w => sp_ok b hxb w
  rw [dc_t hb] at OB
  have HB := fun w => sp_bool_false w
  have HG := fun w => sp_got ⟨1, 0, 0, ⟨#[]⟩, 0⟩ w
  obtain ⟨k, m, g, x, r⟩ := a
  obtain ⟨l, n, h, y, s⟩ := b
  unfold vv at *
  try unfold va at *
  try dsimp only at *
  clear ha hb hxa hxb
  have hst : ∀ (a : Addr) (n : Nat) (m : Mode) (w : World), (store a (.float .f64 n) m).run Tryz.prog w = stored Tryz.prog w a (.float .f64 n) m := fun a n m w => run_store _ _ _ _ _ rfl
  go_enter Tryz.func5, Tryz.ntmps5
  go_wp2_with fail
  refine (OA _).mono ?_
  rintro e w1 ⟨rfl, g1⟩
  have S1 : Hid (Bw w w1 w.heap.size ⟨k, m, g, x, r⟩ ⟨l, n, h, y, s⟩) := Bw.step (Bw.new w _ _ _ _ _ _ _ _ _ _ _ _) (.of_grown g1)
  clear g1
  obtain ⟨_, ⟨c0, c1, c2, c3, c4⟩, ⟨d0, d1, d2, d3, d4⟩, ⟨r0, r1, r2, r3, r4, r5, rz⟩⟩ := (show Bw w w1 w.heap.size ⟨k, m, g, x, r⟩ ⟨l, n, h, y, s⟩ from S1)
  go_wp2_with fail
  refine (OB _).mono ?_
  rintro e w2 ⟨rfl, g2⟩
  have S2 : Hid (Bw w w2 w.heap.size ⟨k, m, g, x, r⟩ ⟨l, n, h, y, s⟩) := Bw.step S1 (.of_grown g2)
  clear g2 S1 c0 c1 c2 c3 c4 d0 d1 d2 d3 d4 r0 r1 r2 r3 r4 r5 rz
  obtain ⟨_, ⟨c0, c1, c2, c3, c4⟩, ⟨d0, d1, d2, d3, d4⟩, ⟨r0, r1, r2, r3, r4, r5, rz⟩⟩ := (show Bw w w2 w.heap.size ⟨k, m, g, x, r⟩ ⟨l, n, h, y, s⟩ from S2)
  go_wp2_with fail
  refine (HZ _).mono ?_
  rintro e w3 ⟨rfl, g3⟩
  have S3 : Hid (Bw w w3 w.heap.size ⟨k, m, g, x, r⟩ ⟨l, n, h, y, s⟩) := Bw.step S2 (.of_grown g3)
  clear g3 S2 c0 c1 c2 c3 c4 d0 d1 d2 d3 d4 r0 r1 r2 r3 r4 r5 rz
  obtain ⟨_, ⟨c0, c1, c2, c3, c4⟩, ⟨d0, d1, d2, d3, d4⟩, ⟨r0, r1, r2, r3, r4, r5, rz⟩⟩ := (show Bw w w3 w.heap.size ⟨k, m, g, x, r⟩ ⟨l, n, h, y, s⟩ from S3)
  go_wp2_with fail
  refine (HB _).mono ?_
  rintro e w4 ⟨rfl, g4⟩
  have S4 : Hid (Bw w w4 w.heap.size ⟨k, m, g, x, r⟩ ⟨l, n, h, y, s⟩) := Bw.step S3 (.of_grown g4)
  clear g4 S3 c0 c1 c2 c3 c4 d0 d1 d2 d3 d4 r0 r1 r2 r3 r4 r5 rz
  obtain ⟨_, ⟨c0, c1, c2, c3, c4⟩, ⟨d0, d1, d2, d3, d4⟩, ⟨r0, r1, r2, r3, r4, r5, rz⟩⟩ := (show Bw w w4 w.heap.size ⟨k, m, g, x, r⟩ ⟨l, n, h, y, s⟩ from S4)
  go_wp2_with fail
  refine (HG _).mono ?_
  rintro e w5 ⟨rfl, g5⟩
  have S5 : Hid (Bw w w5 w.heap.size ⟨k, m, g, x, r⟩ ⟨l, n, h, y, s⟩) := Bw.step S4 (.of_grown g5)
  clear g5 S4 c0 c1 c2 c3 c4 d0 d1 d2 d3 d4 r0 r1 r2 r3 r4 r5 rz
  obtain ⟨_, ⟨c0, c1, c2, c3, c4⟩, ⟨d0, d1, d2, d3, d4⟩, ⟨r0, r1, r2, r3, r4, r5, rz⟩⟩ := (show Bw w w5 w.heap.size ⟨k, m, g, x, r⟩ ⟨l, n, h, y, s⟩ from S5)
  go_wp2_with fail
  obtain ⟨e0, e1, e2, e3, e4, e5⟩ := rv_set' (show Bw w w5 w.heap.size ⟨k, m, g, x, r⟩ ⟨l, n, h, y, s⟩ from S5).r 0 1 0 0 ⟨#[]⟩ 0
  have GF : Hid (Kq w (s6 w5 (w.heap.size + 2) 0 1 0 0 ⟨#[]⟩ 0)) := s6_kq (show Bw w w5 w.heap.size ⟨k, m, g, x, r⟩ ⟨l, n, h, y, s⟩ from S5).kq (by omega) 0 1 0 0 ⟨#[]⟩ 0
  obtain ⟨WF, hWF⟩ : ∃ WF, WF = s6 w5 (w.heap.size + 2) 0 1 0 0 ⟨#[]⟩ 0 := ⟨_, rfl⟩
  rw [← hWF] at e0 e1 e2 e3 e4 e5 GF
  have hWF' := hWF
  unfold s6 at hWF'
  rw [← hWF']
  clear hWF hWF'
  refine bodyPost_ret (by simp [results, Tryz.results5, go_sem, e0, e1, e2, e3, e4, e5]; rfl) rfl ?_
  exact ⟨rfl, GF⟩
set_option maxHeartbeats 4000000 in
theorem sp_b_o_15_2 (a b : Vv) (ha : vok a) (hb : vok b) (hxa : (a.x.size : Int) ≤ 1048576) (hxb : (b.x.size : Int) ≤ 1048576) (HZ : (∀ w, Calls Tryz.prog 17 #[vv a, vv b] w fun e w' => e = .returned (.int .i64 1) ∧ Grown w w')) (w : World) : Calls Tryz.prog 5 #[.int .i64 15, vv a, vv b] w fun e w' => e = .returned (va 0 ⟨1, 0, 0, ⟨#[]⟩, 0⟩) ∧ Kq w w' := by
  have OA := fun w => sp_ok a hxa w
  rw [dc_t ha] at OA
  have OB := fun w => sp_ok b hxb w
  rw [dc_t hb] at OB
  have HB := fun w => sp_bool_false w
  have HG := fun w => sp_got ⟨1, 0, 0, ⟨#[]⟩, 0⟩ w
  obtain ⟨k, m, g, x, r⟩ := a
  obtain ⟨l, n, h, y, s⟩ := b
  unfold vv at *
  try unfold va at *
  try dsimp only at *
  clear ha hb hxa hxb
  have hst : ∀ (a : Addr) (n : Nat) (m : Mode) (w : World), (store a (.float .f64 n) m).run Tryz.prog w = stored Tryz.prog w a (.float .f64 n) m := fun a n m w => run_store _ _ _ _ _ rfl
  go_enter Tryz.func5, Tryz.ntmps5
  go_wp2_with fail
  refine (OA _).mono ?_
  rintro e w1 ⟨rfl, g1⟩
  have S1 : Hid (Bw w w1 w.heap.size ⟨k, m, g, x, r⟩ ⟨l, n, h, y, s⟩) := Bw.step (Bw.new w _ _ _ _ _ _ _ _ _ _ _ _) (.of_grown g1)
  clear g1
  obtain ⟨_, ⟨c0, c1, c2, c3, c4⟩, ⟨d0, d1, d2, d3, d4⟩, ⟨r0, r1, r2, r3, r4, r5, rz⟩⟩ := (show Bw w w1 w.heap.size ⟨k, m, g, x, r⟩ ⟨l, n, h, y, s⟩ from S1)
  go_wp2_with fail
  refine (OB _).mono ?_
  rintro e w2 ⟨rfl, g2⟩
  have S2 : Hid (Bw w w2 w.heap.size ⟨k, m, g, x, r⟩ ⟨l, n, h, y, s⟩) := Bw.step S1 (.of_grown g2)
  clear g2 S1 c0 c1 c2 c3 c4 d0 d1 d2 d3 d4 r0 r1 r2 r3 r4 r5 rz
  obtain ⟨_, ⟨c0, c1, c2, c3, c4⟩, ⟨d0, d1, d2, d3, d4⟩, ⟨r0, r1, r2, r3, r4, r5, rz⟩⟩ := (show Bw w w2 w.heap.size ⟨k, m, g, x, r⟩ ⟨l, n, h, y, s⟩ from S2)
  go_wp2_with fail
  refine (HZ _).mono ?_
  rintro e w3 ⟨rfl, g3⟩
  have S3 : Hid (Bw w w3 w.heap.size ⟨k, m, g, x, r⟩ ⟨l, n, h, y, s⟩) := Bw.step S2 (.of_grown g3)
  clear g3 S2 c0 c1 c2 c3 c4 d0 d1 d2 d3 d4 r0 r1 r2 r3 r4 r5 rz
  obtain ⟨_, ⟨c0, c1, c2, c3, c4⟩, ⟨d0, d1, d2, d3, d4⟩, ⟨r0, r1, r2, r3, r4, r5, rz⟩⟩ := (show Bw w w3 w.heap.size ⟨k, m, g, x, r⟩ ⟨l, n, h, y, s⟩ from S3)
  go_wp2_with fail
  refine (HB _).mono ?_
  rintro e w4 ⟨rfl, g4⟩
  have S4 : Hid (Bw w w4 w.heap.size ⟨k, m, g, x, r⟩ ⟨l, n, h, y, s⟩) := Bw.step S3 (.of_grown g4)
  clear g4 S3 c0 c1 c2 c3 c4 d0 d1 d2 d3 d4 r0 r1 r2 r3 r4 r5 rz
  obtain ⟨_, ⟨c0, c1, c2, c3, c4⟩, ⟨d0, d1, d2, d3, d4⟩, ⟨r0, r1, r2, r3, r4, r5, rz⟩⟩ := (show Bw w w4 w.heap.size ⟨k, m, g, x, r⟩ ⟨l, n, h, y, s⟩ from S4)
  go_wp2_with fail
  refine (HG _).mono ?_
  rintro e w5 ⟨rfl, g5⟩
  have S5 : Hid (Bw w w5 w.heap.size ⟨k, m, g, x, r⟩ ⟨l, n, h, y, s⟩) := Bw.step S4 (.of_grown g5)
  clear g5 S4 c0 c1 c2 c3 c4 d0 d1 d2 d3 d4 r0 r1 r2 r3 r4 r5 rz
  obtain ⟨_, ⟨c0, c1, c2, c3, c4⟩, ⟨d0, d1, d2, d3, d4⟩, ⟨r0, r1, r2, r3, r4, r5, rz⟩⟩ := (show Bw w w5 w.heap.size ⟨k, m, g, x, r⟩ ⟨l, n, h, y, s⟩ from S5)
  go_wp2_with fail
  obtain ⟨e0, e1, e2, e3, e4, e5⟩ := rv_set' (show Bw w w5 w.heap.size ⟨k, m, g, x, r⟩ ⟨l, n, h, y, s⟩ from S5).r 0 1 0 0 ⟨#[]⟩ 0
  have GF : Hid (Kq w (s6 w5 (w.heap.size + 2) 0 1 0 0 ⟨#[]⟩ 0)) := s6_kq (show Bw w w5 w.heap.size ⟨k, m, g, x, r⟩ ⟨l, n, h, y, s⟩ from S5).kq (by omega) 0 1 0 0 ⟨#[]⟩ 0
  obtain ⟨WF, hWF⟩ : ∃ WF, WF = s6 w5 (w.heap.size + 2) 0 1 0 0 ⟨#[]⟩ 0 := ⟨_, rfl⟩
  rw [← hWF] at e0 e1 e2 e3 e4 e5 GF
  have hWF' := hWF
  unfold s6 at hWF'
  rw [← hWF']
  clear hWF hWF'
  refine bodyPost_ret (by simp [results, Tryz.results5, go_sem, e0, e1, e2, e3, e4, e5]; rfl) rfl ?_
  exact ⟨rfl, GF⟩
set_option maxHeartbeats 4000000 in
theorem sp_b_o_15_3 (a b : Vv) (ha : vok a) (hb : vok b) (hxa : (a.x.size : Int) ≤ 1048576) (hxb : (b.x.size : Int) ≤ 1048576) (HZ : (∀ w, Calls Tryz.prog 17 #[vv a, vv b] w fun e w' => e = .returned (.int .i64 2) ∧ Grown w w')) (w : World) : Calls Tryz.prog 5 #[.int .i64 15, vv a, vv b] w fun e w' => e = .returned (va 0 ⟨1, 0, 0, ⟨#[]⟩, 0⟩) ∧ Kq w w' := by
  have OA := fun w => sp_ok a hxa w
  rw [dc_t ha] at OA
  have OB := fun w => sp_ok b hxb w
  rw [dc_t hb] at OB
  have HB := fun w => sp_bool_false w
  have HG := fun w => sp_got ⟨1, 0, 0, ⟨#[]⟩, 0⟩ w
  obtain ⟨k, m, g, x, r⟩ := a
  obtain ⟨l, n, h, y, s⟩ := b
  unfold vv at *
  try unfold va at *
  try dsimp only at *
  clear ha hb hxa hxb
  have hst : ∀ (a : Addr) (n : Nat) (m : Mode) (w : World), (store a (.float .f64 n) m).run Tryz.prog w = stored Tryz.prog w a (.float .f64 n) m := fun a n m w => run_store _ _ _ _ _ rfl
  go_enter Tryz.func5, Tryz.ntmps5
  go_wp2_with fail
  refine (OA _).mono ?_
  rintro e w1 ⟨rfl, g1⟩
  have S1 : Hid (Bw w w1 w.heap.size ⟨k, m, g, x, r⟩ ⟨l, n, h, y, s⟩) := Bw.step (Bw.new w _ _ _ _ _ _ _ _ _ _ _ _) (.of_grown g1)
  clear g1
  obtain ⟨_, ⟨c0, c1, c2, c3, c4⟩, ⟨d0, d1, d2, d3, d4⟩, ⟨r0, r1, r2, r3, r4, r5, rz⟩⟩ := (show Bw w w1 w.heap.size ⟨k, m, g, x, r⟩ ⟨l, n, h, y, s⟩ from S1)
  go_wp2_with fail
  refine (OB _).mono ?_
  rintro e w2 ⟨rfl, g2⟩
  have S2 : Hid (Bw w w2 w.heap.size ⟨k, m, g, x, r⟩ ⟨l, n, h, y, s⟩) := Bw.step S1 (.of_grown g2)
  clear g2 S1 c0 c1 c2 c3 c4 d0 d1 d2 d3 d4 r0 r1 r2 r3 r4 r5 rz
  obtain ⟨_, ⟨c0, c1, c2, c3, c4⟩, ⟨d0, d1, d2, d3, d4⟩, ⟨r0, r1, r2, r3, r4, r5, rz⟩⟩ := (show Bw w w2 w.heap.size ⟨k, m, g, x, r⟩ ⟨l, n, h, y, s⟩ from S2)
  go_wp2_with fail
  refine (HZ _).mono ?_
  rintro e w3 ⟨rfl, g3⟩
  have S3 : Hid (Bw w w3 w.heap.size ⟨k, m, g, x, r⟩ ⟨l, n, h, y, s⟩) := Bw.step S2 (.of_grown g3)
  clear g3 S2 c0 c1 c2 c3 c4 d0 d1 d2 d3 d4 r0 r1 r2 r3 r4 r5 rz
  obtain ⟨_, ⟨c0, c1, c2, c3, c4⟩, ⟨d0, d1, d2, d3, d4⟩, ⟨r0, r1, r2, r3, r4, r5, rz⟩⟩ := (show Bw w w3 w.heap.size ⟨k, m, g, x, r⟩ ⟨l, n, h, y, s⟩ from S3)
  go_wp2_with fail
  refine (HB _).mono ?_
  rintro e w4 ⟨rfl, g4⟩
  have S4 : Hid (Bw w w4 w.heap.size ⟨k, m, g, x, r⟩ ⟨l, n, h, y, s⟩) := Bw.step S3 (.of_grown g4)
  clear g4 S3 c0 c1 c2 c3 c4 d0 d1 d2 d3 d4 r0 r1 r2 r3 r4 r5 rz
  obtain ⟨_, ⟨c0, c1, c2, c3, c4⟩, ⟨d0, d1, d2, d3, d4⟩, ⟨r0, r1, r2, r3, r4, r5, rz⟩⟩ := (show Bw w w4 w.heap.size ⟨k, m, g, x, r⟩ ⟨l, n, h, y, s⟩ from S4)
  go_wp2_with fail
  refine (HG _).mono ?_
  rintro e w5 ⟨rfl, g5⟩
  have S5 : Hid (Bw w w5 w.heap.size ⟨k, m, g, x, r⟩ ⟨l, n, h, y, s⟩) := Bw.step S4 (.of_grown g5)
  clear g5 S4 c0 c1 c2 c3 c4 d0 d1 d2 d3 d4 r0 r1 r2 r3 r4 r5 rz
  obtain ⟨_, ⟨c0, c1, c2, c3, c4⟩, ⟨d0, d1, d2, d3, d4⟩, ⟨r0, r1, r2, r3, r4, r5, rz⟩⟩ := (show Bw w w5 w.heap.size ⟨k, m, g, x, r⟩ ⟨l, n, h, y, s⟩ from S5)
  go_wp2_with fail
  obtain ⟨e0, e1, e2, e3, e4, e5⟩ := rv_set' (show Bw w w5 w.heap.size ⟨k, m, g, x, r⟩ ⟨l, n, h, y, s⟩ from S5).r 0 1 0 0 ⟨#[]⟩ 0
  have GF : Hid (Kq w (s6 w5 (w.heap.size + 2) 0 1 0 0 ⟨#[]⟩ 0)) := s6_kq (show Bw w w5 w.heap.size ⟨k, m, g, x, r⟩ ⟨l, n, h, y, s⟩ from S5).kq (by omega) 0 1 0 0 ⟨#[]⟩ 0
  obtain ⟨WF, hWF⟩ : ∃ WF, WF = s6 w5 (w.heap.size + 2) 0 1 0 0 ⟨#[]⟩ 0 := ⟨_, rfl⟩
  rw [← hWF] at e0 e1 e2 e3 e4 e5 GF
  have hWF' := hWF
  unfold s6 at hWF'
  rw [← hWF']
  clear hWF hWF'
  refine bodyPost_ret (by simp [results, Tryz.results5, go_sem, e0, e1, e2, e3, e4, e5]; rfl) rfl ?_
  exact ⟨rfl, GF⟩
set_option maxHeartbeats 4000000 in
theorem sp_b_o_16_0 (a b : Vv) (ha : vok a) (hb : vok b) (hxa : (a.x.size : Int) ≤ 1048576) (hxb : (b.x.size : Int) ≤ 1048576) (HZ : (∀ w, Calls Tryz.prog 17 #[vv a, vv b] w fun e w' => e = .returned (.int .i64 (-1)) ∧ Grown w w')) (w : World) : Calls Tryz.prog 5 #[.int .i64 16, vv a, vv b] w fun e w' => e = .returned (va 0 ⟨1, 1, 0, ⟨#[]⟩, 0⟩) ∧ Kq w w' := by
  have OA := fun w => sp_ok a hxa w
  rw [dc_t ha] at OA
  have OB := fun w => sp_ok b hxb w
  rw [dc_t hb] at OB
  have HB := fun w => sp_bool_true w
  have HG := fun w => sp_got ⟨1, 1, 0, ⟨#[]⟩, 0⟩ w
  obtain ⟨k, m, g, x, r⟩ := a
  obtain ⟨l, n, h, y, s⟩ := b
  unfold vv at *
  try unfold va at *
  try dsimp only at *
  clear ha hb hxa hxb
  have hst : ∀ (a : Addr) (n : Nat) (m : Mode) (w : World), (store a (.float .f64 n) m).run Tryz.prog w = stored Tryz.prog w a (.float .f64 n) m := fun a n m w => run_store _ _ _ _ _ rfl
  go_enter Tryz.func5, Tryz.ntmps5
  go_wp2_with fail
  refine (OA _).mono ?_
  rintro e w1 ⟨rfl, g1⟩
  have S1 : Hid (Bw w w1 w.heap.size ⟨k, m, g, x, r⟩ ⟨l, n, h, y, s⟩) := Bw.step (Bw.new w _ _ _ _ _ _ _ _ _ _ _ _) (.of_grown g1)
  clear g1
  obtain ⟨_, ⟨c0, c1, c2, c3, c4⟩, ⟨d0, d1, d2, d3, d4⟩, ⟨r0, r1, r2, r3, r4, r5, rz⟩⟩ := (show Bw w w1 w.heap.size ⟨k, m, g, x, r⟩ ⟨l, n, h, y, s⟩ from S1)
  go_wp2_with fail
  refine (OB _).mono ?_
  rintro e w2 ⟨rfl, g2⟩
  have S2 : Hid (Bw w w2 w.heap.size ⟨k, m, g, x, r⟩ ⟨l, n, h, y, s⟩) := Bw.step S1 (.of_grown g2)
  clear g2 S1 c0 c1 c2 c3 c4 d0 d1 d2 d3 d4 r0 r1 r2 r3 r4 r5 rz
  obtain ⟨_, ⟨c0, c1, c2, c3, c4⟩, ⟨d0, d1, d2, d3, d4⟩, ⟨r0, r1, r2, r3, r4, r5, rz⟩⟩ := (show Bw w w2 w.heap.size ⟨k, m, g, x, r⟩ ⟨l, n, h, y, s⟩ from S2)
  go_wp2_with fail
  refine (HZ _).mono ?_
  rintro e w3 ⟨rfl, g3⟩
  have S3 : Hid (Bw w w3 w.heap.size ⟨k, m, g, x, r⟩ ⟨l, n, h, y, s⟩) := Bw.step S2 (.of_grown g3)
  clear g3 S2 c0 c1 c2 c3 c4 d0 d1 d2 d3 d4 r0 r1 r2 r3 r4 r5 rz
  obtain ⟨_, ⟨c0, c1, c2, c3, c4⟩, ⟨d0, d1, d2, d3, d4⟩, ⟨r0, r1, r2, r3, r4, r5, rz⟩⟩ := (show Bw w w3 w.heap.size ⟨k, m, g, x, r⟩ ⟨l, n, h, y, s⟩ from S3)
  go_wp2_with fail
  refine (HB _).mono ?_
  rintro e w4 ⟨rfl, g4⟩
  have S4 : Hid (Bw w w4 w.heap.size ⟨k, m, g, x, r⟩ ⟨l, n, h, y, s⟩) := Bw.step S3 (.of_grown g4)
  clear g4 S3 c0 c1 c2 c3 c4 d0 d1 d2 d3 d4 r0 r1 r2 r3 r4 r5 rz
  obtain ⟨_, ⟨c0, c1, c2, c3, c4⟩, ⟨d0, d1, d2, d3, d4⟩, ⟨r0, r1, r2, r3, r4, r5, rz⟩⟩ := (show Bw w w4 w.heap.size ⟨k, m, g, x, r⟩ ⟨l, n, h, y, s⟩ from S4)
  go_wp2_with fail
  refine (HG _).mono ?_
  rintro e w5 ⟨rfl, g5⟩
  have S5 : Hid (Bw w w5 w.heap.size ⟨k, m, g, x, r⟩ ⟨l, n, h, y, s⟩) := Bw.step S4 (.of_grown g5)
  clear g5 S4 c0 c1 c2 c3 c4 d0 d1 d2 d3 d4 r0 r1 r2 r3 r4 r5 rz
  obtain ⟨_, ⟨c0, c1, c2, c3, c4⟩, ⟨d0, d1, d2, d3, d4⟩, ⟨r0, r1, r2, r3, r4, r5, rz⟩⟩ := (show Bw w w5 w.heap.size ⟨k, m, g, x, r⟩ ⟨l, n, h, y, s⟩ from S5)
  go_wp2_with fail
  obtain ⟨e0, e1, e2, e3, e4, e5⟩ := rv_set' (show Bw w w5 w.heap.size ⟨k, m, g, x, r⟩ ⟨l, n, h, y, s⟩ from S5).r 0 1 1 0 ⟨#[]⟩ 0
  have GF : Hid (Kq w (s6 w5 (w.heap.size + 2) 0 1 1 0 ⟨#[]⟩ 0)) := s6_kq (show Bw w w5 w.heap.size ⟨k, m, g, x, r⟩ ⟨l, n, h, y, s⟩ from S5).kq (by omega) 0 1 1 0 ⟨#[]⟩ 0
  obtain ⟨WF, hWF⟩ : ∃ WF, WF = s6 w5 (w.heap.size + 2) 0 1 1 0 ⟨#[]⟩ 0 := ⟨_, rfl⟩
  rw [← hWF] at e0 e1 e2 e3 e4 e5 GF
  have hWF' := hWF
  unfold s6 at hWF'
  rw [← hWF']
  clear hWF hWF'
  refine bodyPost_ret (by simp [results, Tryz.results5, go_sem, e0, e1, e2, e3, e4, e5]; rfl) rfl ?_
  exact ⟨rfl, GF⟩
set_option maxHeartbeats 4000000 in
theorem sp_b_o_16_1 (a b : Vv) (ha : vok a) (hb : vok b) (hxa : (a.x.size : Int) ≤ 1048576) (hxb : (b.x.size : Int) ≤ 1048576) (HZ : (∀ w, Calls Tryz.prog 17 #[vv a, vv b] w fun e w' => e = .returned (.int .i64 0) ∧ Grown w w')) (w : World) : Calls Tryz.prog 5 #[.int .i64 16, vv a, vv b] w fun e w' => e = .returned (va 0 ⟨1, 1, 0, ⟨#[]⟩, 0⟩) ∧ Kq w w' := by
  have OA := fun w => sp_ok a hxa w
  rw [dc_t ha] at OA
  have OB := fun w => sp_ok b hxb w
  rw [dc_t hb] at OB
  have HB := fun w => sp_bool_true w
  have HG := fun w => sp_got ⟨1, 1, 0, ⟨#[]⟩, 0⟩ w
  obtain ⟨k, m, g, x, r⟩ := a
  obtain ⟨l, n, h, y, s⟩ := b
  unfold vv at *
  try unfold va at *
  try dsimp only at *
  clear ha hb hxa hxb
  have hst : ∀ (a : Addr) (n : Nat) (m : Mode) (w : World), (store a (.float .f64 n) m).run Tryz.prog w = stored Tryz.prog w a (.float .f64 n) m := fun a n m w => run_store _ _ _ _ _ rfl
  go_enter Tryz.func5, Tryz.ntmps5
  go_wp2_with fail
  refine (OA _).mono ?_
  rintro e w1 ⟨rfl, g1⟩
  have S1 : Hid (Bw w w1 w.heap.size ⟨k, m, g, x, r⟩ ⟨l, n, h, y, s⟩) := Bw.step (Bw.new w _ _ _ _ _ _ _ _ _ _ _ _) (.of_grown g1)
  clear g1
  obtain ⟨_, ⟨c0, c1, c2, c3, c4⟩, ⟨d0, d1, d2, d3, d4⟩, ⟨r0, r1, r2, r3, r4, r5, rz⟩⟩ := (show Bw w w1 w.heap.size ⟨k, m, g, x, r⟩ ⟨l, n, h, y, s⟩ from S1)
  go_wp2_with fail
  refine (OB _).mono ?_
  rintro e w2 ⟨rfl, g2⟩
  have S2 : Hid (Bw w w2 w.heap.size ⟨k, m, g, x, r⟩ ⟨l, n, h, y, s⟩) := Bw.step S1 (.of_grown g2)
  clear g2 S1 c0 c1 c2 c3 c4 d0 d1 d2 d3 d4 r0 r1 r2 r3 r4 r5 rz
  obtain ⟨_, ⟨c0, c1, c2, c3, c4⟩, ⟨d0, d1, d2, d3, d4⟩, ⟨r0, r1, r2, r3, r4, r5, rz⟩⟩ := (show Bw w w2 w.heap.size ⟨k, m, g, x, r⟩ ⟨l, n, h, y, s⟩ from S2)
  go_wp2_with fail
  refine (HZ _).mono ?_
  rintro e w3 ⟨rfl, g3⟩
  have S3 : Hid (Bw w w3 w.heap.size ⟨k, m, g, x, r⟩ ⟨l, n, h, y, s⟩) := Bw.step S2 (.of_grown g3)
  clear g3 S2 c0 c1 c2 c3 c4 d0 d1 d2 d3 d4 r0 r1 r2 r3 r4 r5 rz
  obtain ⟨_, ⟨c0, c1, c2, c3, c4⟩, ⟨d0, d1, d2, d3, d4⟩, ⟨r0, r1, r2, r3, r4, r5, rz⟩⟩ := (show Bw w w3 w.heap.size ⟨k, m, g, x, r⟩ ⟨l, n, h, y, s⟩ from S3)
  go_wp2_with fail
  refine (HB _).mono ?_
  rintro e w4 ⟨rfl, g4⟩
  have S4 : Hid (Bw w w4 w.heap.size ⟨k, m, g, x, r⟩ ⟨l, n, h, y, s⟩) := Bw.step S3 (.of_grown g4)
  clear g4 S3 c0 c1 c2 c3 c4 d0 d1 d2 d3 d4 r0 r1 r2 r3 r4 r5 rz
  obtain ⟨_, ⟨c0, c1, c2, c3, c4⟩, ⟨d0, d1, d2, d3, d4⟩, ⟨r0, r1, r2, r3, r4, r5, rz⟩⟩ := (show Bw w w4 w.heap.size ⟨k, m, g, x, r⟩ ⟨l, n, h, y, s⟩ from S4)
  go_wp2_with fail
  refine (HG _).mono ?_
  rintro e w5 ⟨rfl, g5⟩
  have S5 : Hid (Bw w w5 w.heap.size ⟨k, m, g, x, r⟩ ⟨l, n, h, y, s⟩) := Bw.step S4 (.of_grown g5)
  clear g5 S4 c0 c1 c2 c3 c4 d0 d1 d2 d3 d4 r0 r1 r2 r3 r4 r5 rz
  obtain ⟨_, ⟨c0, c1, c2, c3, c4⟩, ⟨d0, d1, d2, d3, d4⟩, ⟨r0, r1, r2, r3, r4, r5, rz⟩⟩ := (show Bw w w5 w.heap.size ⟨k, m, g, x, r⟩ ⟨l, n, h, y, s⟩ from S5)
  go_wp2_with fail
  obtain ⟨e0, e1, e2, e3, e4, e5⟩ := rv_set' (show Bw w w5 w.heap.size ⟨k, m, g, x, r⟩ ⟨l, n, h, y, s⟩ from S5).r 0 1 1 0 ⟨#[]⟩ 0
  have GF : Hid (Kq w (s6 w5 (w.heap.size + 2) 0 1 1 0 ⟨#[]⟩ 0)) := s6_kq (show Bw w w5 w.heap.size ⟨k, m, g, x, r⟩ ⟨l, n, h, y, s⟩ from S5).kq (by omega) 0 1 1 0 ⟨#[]⟩ 0
  obtain ⟨WF, hWF⟩ : ∃ WF, WF = s6 w5 (w.heap.size + 2) 0 1 1 0 ⟨#[]⟩ 0 := ⟨_, rfl⟩
  rw [← hWF] at e0 e1 e2 e3 e4 e5 GF
  have hWF' := hWF
  unfold s6 at hWF'
  rw [← hWF']
  clear hWF hWF'
  refine bodyPost_ret (by simp [results, Tryz.results5, go_sem, e0, e1, e2, e3, e4, e5]; rfl) rfl ?_
  exact ⟨rfl, GF⟩
set_option maxHeartbeats 4000000 in
theorem sp_b_o_16_2 (a b : Vv) (ha : vok a) (hb : vok b) (hxa : (a.x.size : Int) ≤ 1048576) (hxb : (b.x.size : Int) ≤ 1048576) (HZ : (∀ w, Calls Tryz.prog 17 #[vv a, vv b] w fun e w' => e = .returned (.int .i64 1) ∧ Grown w w')) (w : World) : Calls Tryz.prog 5 #[.int .i64 16, vv a, vv b] w fun e w' => e = .returned (va 0 ⟨1, 0, 0, ⟨#[]⟩, 0⟩) ∧ Kq w w' := by
  have OA := fun w => sp_ok a hxa w
  rw [dc_t ha] at OA
  have OB := fun w => sp_ok b hxb w
  rw [dc_t hb] at OB
  have HB := fun w => sp_bool_false w
  have HG := fun w => sp_got ⟨1, 0, 0, ⟨#[]⟩, 0⟩ w
  obtain ⟨k, m, g, x, r⟩ := a
  obtain ⟨l, n, h, y, s⟩ := b
  unfold vv at *
  try unfold va at *
  try dsimp only at *
  clear ha hb hxa hxb
  have hst : ∀ (a : Addr) (n : Nat) (m : Mode) (w : World), (store a (.float .f64 n) m).run Tryz.prog w = stored Tryz.prog w a (.float .f64 n) m := fun a n m w => run_store _ _ _ _ _ rfl
  go_enter Tryz.func5, Tryz.ntmps5
  go_wp2_with fail
  refine (OA _).mono ?_
  rintro e w1 ⟨rfl, g1⟩
  have S1 : Hid (Bw w w1 w.heap.size ⟨k, m, g, x, r⟩ ⟨l, n, h, y, s⟩) := Bw.step (Bw.new w _ _ _ _ _ _ _ _ _ _ _ _) (.of_grown g1)
  clear g1
  obtain ⟨_, ⟨c0, c1, c2, c3, c4⟩, ⟨d0, d1, d2, d3, d4⟩, ⟨r0, r1, r2, r3, r4, r5, rz⟩⟩ := (show Bw w w1 w.heap.size ⟨k, m, g, x, r⟩ ⟨l, n, h, y, s⟩ from S1)
  go_wp2_with fail
  refine (OB _).mono ?_
  rintro e w2 ⟨rfl, g2⟩
  have S2 : Hid (Bw w w2 w.heap.size ⟨k, m, g, x, r⟩ ⟨l, n, h, y, s⟩) := Bw.step S1 (.of_grown g2)
  clear g2 S1 c0 c1 c2 c3 c4 d0 d1 d2 d3 d4 r0 r1 r2 r3 r4 r5 rz
  obtain ⟨_, ⟨c0, c1, c2, c3, c4⟩, ⟨d0, d1, d2, d3, d4⟩, ⟨r0, r1, r2, r3, r4, r5, rz⟩⟩ := (show Bw w w2 w.heap.size ⟨k, m, g, x, r⟩ ⟨l, n, h, y, s⟩ from S2)
  go_wp2_with fail
  refine (HZ _).mono ?_
  rintro e w3 ⟨rfl, g3⟩
  have S3 : Hid (Bw w w3 w.heap.size ⟨k, m, g, x, r⟩ ⟨l, n, h, y, s⟩) := Bw.step S2 (.of_grown g3)
  clear g3 S2 c0 c1 c2 c3 c4 d0 d1 d2 d3 d4 r0 r1 r2 r3 r4 r5 rz
  obtain ⟨_, ⟨c0, c1, c2, c3, c4⟩, ⟨d0, d1, d2, d3, d4⟩, ⟨r0, r1, r2, r3, r4, r5, rz⟩⟩ := (show Bw w w3 w.heap.size ⟨k, m, g, x, r⟩ ⟨l, n, h, y, s⟩ from S3)
  go_wp2_with fail
  refine (HB _).mono ?_
  rintro e w4 ⟨rfl, g4⟩
  have S4 : Hid (Bw w w4 w.heap.size ⟨k, m, g, x, r⟩ ⟨l, n, h, y, s⟩) := Bw.step S3 (.of_grown g4)
  clear g4 S3 c0 c1 c2 c3 c4 d0 d1 d2 d3 d4 r0 r1 r2 r3 r4 r5 rz
  obtain ⟨_, ⟨c0, c1, c2, c3, c4⟩, ⟨d0, d1, d2, d3, d4⟩, ⟨r0, r1, r2, r3, r4, r5, rz⟩⟩ := (show Bw w w4 w.heap.size ⟨k, m, g, x, r⟩ ⟨l, n, h, y, s⟩ from S4)
  go_wp2_with fail
  refine (HG _).mono ?_
  rintro e w5 ⟨rfl, g5⟩
  have S5 : Hid (Bw w w5 w.heap.size ⟨k, m, g, x, r⟩ ⟨l, n, h, y, s⟩) := Bw.step S4 (.of_grown g5)
  clear g5 S4 c0 c1 c2 c3 c4 d0 d1 d2 d3 d4 r0 r1 r2 r3 r4 r5 rz
  obtain ⟨_, ⟨c0, c1, c2, c3, c4⟩, ⟨d0, d1, d2, d3, d4⟩, ⟨r0, r1, r2, r3, r4, r5, rz⟩⟩ := (show Bw w w5 w.heap.size ⟨k, m, g, x, r⟩ ⟨l, n, h, y, s⟩ from S5)
  go_wp2_with fail
  obtain ⟨e0, e1, e2, e3, e4, e5⟩ := rv_set' (show Bw w w5 w.heap.size ⟨k, m, g, x, r⟩ ⟨l, n, h, y, s⟩ from S5).r 0 1 0 0 ⟨#[]⟩ 0
  have GF : Hid (Kq w (s6 w5 (w.heap.size + 2) 0 1 0 0 ⟨#[]⟩ 0)) := s6_kq (show Bw w w5 w.heap.size ⟨k, m, g, x, r⟩ ⟨l, n, h, y, s⟩ from S5).kq (by omega) 0 1 0 0 ⟨#[]⟩ 0
  obtain ⟨WF, hWF⟩ : ∃ WF, WF = s6 w5 (w.heap.size + 2) 0 1 0 0 ⟨#[]⟩ 0 := ⟨_, rfl⟩
  rw [← hWF] at e0 e1 e2 e3 e4 e5 GF
  have hWF' := hWF
  unfold s6 at hWF'
  rw [← hWF']
  clear hWF hWF'
  refine bodyPost_ret (by simp [results, Tryz.results5, go_sem, e0, e1, e2, e3, e4, e5]; rfl) rfl ?_
  exact ⟨rfl, GF⟩
set_option maxHeartbeats 4000000 in
theorem sp_b_o_16_3 (a b : Vv) (ha : vok a) (hb : vok b) (hxa : (a.x.size : Int) ≤ 1048576) (hxb : (b.x.size : Int) ≤ 1048576) (HZ : (∀ w, Calls Tryz.prog 17 #[vv a, vv b] w fun e w' => e = .returned (.int .i64 2) ∧ Grown w w')) (w : World) : Calls Tryz.prog 5 #[.int .i64 16, vv a, vv b] w fun e w' => e = .returned (va 0 ⟨1, 0, 0, ⟨#[]⟩, 0⟩) ∧ Kq w w' := by
  have OA := fun w => sp_ok a hxa w
  rw [dc_t ha] at OA
  have OB := fun w => sp_ok b hxb w
  rw [dc_t hb] at OB
  have HB := fun w => sp_bool_false w
  have HG := fun w => sp_got ⟨1, 0, 0, ⟨#[]⟩, 0⟩ w
  obtain ⟨k, m, g, x, r⟩ := a
  obtain ⟨l, n, h, y, s⟩ := b
  unfold vv at *
  try unfold va at *
  try dsimp only at *
  clear ha hb hxa hxb
  have hst : ∀ (a : Addr) (n : Nat) (m : Mode) (w : World), (store a (.float .f64 n) m).run Tryz.prog w = stored Tryz.prog w a (.float .f64 n) m := fun a n m w => run_store _ _ _ _ _ rfl
  go_enter Tryz.func5, Tryz.ntmps5
  go_wp2_with fail
  refine (OA _).mono ?_
  rintro e w1 ⟨rfl, g1⟩
  have S1 : Hid (Bw w w1 w.heap.size ⟨k, m, g, x, r⟩ ⟨l, n, h, y, s⟩) := Bw.step (Bw.new w _ _ _ _ _ _ _ _ _ _ _ _) (.of_grown g1)
  clear g1
  obtain ⟨_, ⟨c0, c1, c2, c3, c4⟩, ⟨d0, d1, d2, d3, d4⟩, ⟨r0, r1, r2, r3, r4, r5, rz⟩⟩ := (show Bw w w1 w.heap.size ⟨k, m, g, x, r⟩ ⟨l, n, h, y, s⟩ from S1)
  go_wp2_with fail
  refine (OB _).mono ?_
  rintro e w2 ⟨rfl, g2⟩
  have S2 : Hid (Bw w w2 w.heap.size ⟨k, m, g, x, r⟩ ⟨l, n, h, y, s⟩) := Bw.step S1 (.of_grown g2)
  clear g2 S1 c0 c1 c2 c3 c4 d0 d1 d2 d3 d4 r0 r1 r2 r3 r4 r5 rz
  obtain ⟨_, ⟨c0, c1, c2, c3, c4⟩, ⟨d0, d1, d2, d3, d4⟩, ⟨r0, r1, r2, r3, r4, r5, rz⟩⟩ := (show Bw w w2 w.heap.size ⟨k, m, g, x, r⟩ ⟨l, n, h, y, s⟩ from S2)
  go_wp2_with fail
  refine (HZ _).mono ?_
  rintro e w3 ⟨rfl, g3⟩
  have S3 : Hid (Bw w w3 w.heap.size ⟨k, m, g, x, r⟩ ⟨l, n, h, y, s⟩) := Bw.step S2 (.of_grown g3)
  clear g3 S2 c0 c1 c2 c3 c4 d0 d1 d2 d3 d4 r0 r1 r2 r3 r4 r5 rz
  obtain ⟨_, ⟨c0, c1, c2, c3, c4⟩, ⟨d0, d1, d2, d3, d4⟩, ⟨r0, r1, r2, r3, r4, r5, rz⟩⟩ := (show Bw w w3 w.heap.size ⟨k, m, g, x, r⟩ ⟨l, n, h, y, s⟩ from S3)
  go_wp2_with fail
  refine (HB _).mono ?_
  rintro e w4 ⟨rfl, g4⟩
  have S4 : Hid (Bw w w4 w.heap.size ⟨k, m, g, x, r⟩ ⟨l, n, h, y, s⟩) := Bw.step S3 (.of_grown g4)
  clear g4 S3 c0 c1 c2 c3 c4 d0 d1 d2 d3 d4 r0 r1 r2 r3 r4 r5 rz
  obtain ⟨_, ⟨c0, c1, c2, c3, c4⟩, ⟨d0, d1, d2, d3, d4⟩, ⟨r0, r1, r2, r3, r4, r5, rz⟩⟩ := (show Bw w w4 w.heap.size ⟨k, m, g, x, r⟩ ⟨l, n, h, y, s⟩ from S4)
  go_wp2_with fail
  refine (HG _).mono ?_
  rintro e w5 ⟨rfl, g5⟩
  have S5 : Hid (Bw w w5 w.heap.size ⟨k, m, g, x, r⟩ ⟨l, n, h, y, s⟩) := Bw.step S4 (.of_grown g5)
  clear g5 S4 c0 c1 c2 c3 c4 d0 d1 d2 d3 d4 r0 r1 r2 r3 r4 r5 rz
  obtain ⟨_, ⟨c0, c1, c2, c3, c4⟩, ⟨d0, d1, d2, d3, d4⟩, ⟨r0, r1, r2, r3, r4, r5, rz⟩⟩ := (show Bw w w5 w.heap.size ⟨k, m, g, x, r⟩ ⟨l, n, h, y, s⟩ from S5)
  go_wp2_with fail
  obtain ⟨e0, e1, e2, e3, e4, e5⟩ := rv_set' (show Bw w w5 w.heap.size ⟨k, m, g, x, r⟩ ⟨l, n, h, y, s⟩ from S5).r 0 1 0 0 ⟨#[]⟩ 0
  have GF : Hid (Kq w (s6 w5 (w.heap.size + 2) 0 1 0 0 ⟨#[]⟩ 0)) := s6_kq (show Bw w w5 w.heap.size ⟨k, m, g, x, r⟩ ⟨l, n, h, y, s⟩ from S5).kq (by omega) 0 1 0 0 ⟨#[]⟩ 0
  obtain ⟨WF, hWF⟩ : ∃ WF, WF = s6 w5 (w.heap.size + 2) 0 1 0 0 ⟨#[]⟩ 0 := ⟨_, rfl⟩
  rw [← hWF] at e0 e1 e2 e3 e4 e5 GF
  have hWF' := hWF
  unfold s6 at hWF'
  rw [← hWF']
  clear hWF hWF'
  refine bodyPost_ret (by simp [results, Tryz.results5, go_sem, e0, e1, e2, e3, e4, e5]; rfl) rfl ?_
  exact ⟨rfl, GF⟩
set_option maxHeartbeats 4000000 in
theorem sp_b_o_17_0 (a b : Vv) (ha : vok a) (hb : vok b) (hxa : (a.x.size : Int) ≤ 1048576) (hxb : (b.x.size : Int) ≤ 1048576) (HZ : (∀ w, Calls Tryz.prog 17 #[vv a, vv b] w fun e w' => e = .returned (.int .i64 (-1)) ∧ Grown w w')) (w : World) : Calls Tryz.prog 5 #[.int .i64 17, vv a, vv b] w fun e w' => e = .returned (va 0 ⟨1, 0, 0, ⟨#[]⟩, 0⟩) ∧ Kq w w' := by
  have OA := fun w => sp_ok a hxa w
  rw [dc_t ha] at OA
  have OB := fun w => sp_ok b hxb w
  rw [dc_t hb] at OB
  have HB := fun w => sp_bool_false w
  have HG := fun w => sp_got ⟨1, 0, 0, ⟨#[]⟩, 0⟩ w
  obtain ⟨k, m, g, x, r⟩ := a
  obtain ⟨l, n, h, y, s⟩ := b
  unfold vv at *
  try unfold va at *
  try dsimp only at *
  clear ha hb hxa hxb
  have hst : ∀ (a : Addr) (n : Nat) (m : Mode) (w : World), (store a (.float .f64 n) m).run Tryz.prog w = stored Tryz.prog w a (.float .f64 n) m := fun a n m w => run_store _ _ _ _ _ rfl
  go_enter Tryz.func5, Tryz.ntmps5
  go_wp2_with fail
  refine (OA _).mono ?_
  rintro e w1 ⟨rfl, g1⟩
  have S1 : Hid (Bw w w1 w.heap.size ⟨k, m, g, x, r⟩ ⟨l, n, h, y, s⟩) := Bw.step (Bw.new w _ _ _ _ _ _ _ _ _ _ _ _) (.of_grown g1)
  clear g1
  obtain ⟨_, ⟨c0, c1, c2, c3, c4⟩, ⟨d0, d1, d2, d3, d4⟩, ⟨r0, r1, r2, r3, r4, r5, rz⟩⟩ := (show Bw w w1 w.heap.size ⟨k, m, g, x, r⟩ ⟨l, n, h, y, s⟩ from S1)
  go_wp2_with fail
  refine (OB _).mono ?_
  rintro e w2 ⟨rfl, g2⟩
  have S2 : Hid (Bw w w2 w.heap.size ⟨k, m, g, x, r⟩ ⟨l, n, h, y, s⟩) := Bw.step S1 (.of_grown g2)
  clear g2 S1 c0 c1 c2 c3 c4 d0 d1 d2 d3 d4 r0 r1 r2 r3 r4 r5 rz
  obtain ⟨_, ⟨c0, c1, c2, c3, c4⟩, ⟨d0, d1, d2, d3, d4⟩, ⟨r0, r1, r2, r3, r4, r5, rz⟩⟩ := (show Bw w w2 w.heap.size ⟨k, m, g, x, r⟩ ⟨l, n, h, y, s⟩ from S2)
  go_wp2_with fail
  refine (HZ _).mono ?_
  rintro e w3 ⟨rfl, g3⟩
  have S3 : Hid (Bw w w3 w.heap.size ⟨k, m, g, x, r⟩ ⟨l, n, h, y, s⟩) := Bw.step S2 (.of_grown g3)
  clear g3 S2 c0 c1 c2 c3 c4 d0 d1 d2 d3 d4 r0 r1 r2 r3 r4 r5 rz
  obtain ⟨_, ⟨c0, c1, c2, c3, c4⟩, ⟨d0, d1, d2, d3, d4⟩, ⟨r0, r1, r2, r3, r4, r5, rz⟩⟩ := (show Bw w w3 w.heap.size ⟨k, m, g, x, r⟩ ⟨l, n, h, y, s⟩ from S3)
  go_wp2_with fail
  refine (HB _).mono ?_
  rintro e w4 ⟨rfl, g4⟩
  have S4 : Hid (Bw w w4 w.heap.size ⟨k, m, g, x, r⟩ ⟨l, n, h, y, s⟩) := Bw.step S3 (.of_grown g4)
  clear g4 S3 c0 c1 c2 c3 c4 d0 d1 d2 d3 d4 r0 r1 r2 r3 r4 r5 rz
  obtain ⟨_, ⟨c0, c1, c2, c3, c4⟩, ⟨d0, d1, d2, d3, d4⟩, ⟨r0, r1, r2, r3, r4, r5, rz⟩⟩ := (show Bw w w4 w.heap.size ⟨k, m, g, x, r⟩ ⟨l, n, h, y, s⟩ from S4)
  go_wp2_with fail
  refine (HG _).mono ?_
  rintro e w5 ⟨rfl, g5⟩
  have S5 : Hid (Bw w w5 w.heap.size ⟨k, m, g, x, r⟩ ⟨l, n, h, y, s⟩) := Bw.step S4 (.of_grown g5)
  clear g5 S4 c0 c1 c2 c3 c4 d0 d1 d2 d3 d4 r0 r1 r2 r3 r4 r5 rz
  obtain ⟨_, ⟨c0, c1, c2, c3, c4⟩, ⟨d0, d1, d2, d3, d4⟩, ⟨r0, r1, r2, r3, r4, r5, rz⟩⟩ := (show Bw w w5 w.heap.size ⟨k, m, g, x, r⟩ ⟨l, n, h, y, s⟩ from S5)
  go_wp2_with fail
  obtain ⟨e0, e1, e2, e3, e4, e5⟩ := rv_set' (show Bw w w5 w.heap.size ⟨k, m, g, x, r⟩ ⟨l, n, h, y, s⟩ from S5).r 0 1 0 0 ⟨#[]⟩ 0
  have GF : Hid (Kq w (s6 w5 (w.heap.size + 2) 0 1 0 0 ⟨#[]⟩ 0)) := s6_kq (show Bw w w5 w.heap.size ⟨k, m, g, x, r⟩ ⟨l, n, h, y, s⟩ from S5).kq (by omega) 0 1 0 0 ⟨#[]⟩ 0
  obtain ⟨WF, hWF⟩ : ∃ WF, WF = s6 w5 (w.heap.size + 2) 0 1 0 0 ⟨#[]⟩ 0 := ⟨_, rfl⟩
  rw [← hWF] at e0 e1 e2 e3 e4 e5 GF
  have hWF' := hWF
  unfold s6 at hWF'
  rw [← hWF']
  clear hWF hWF'
  refine bodyPost_ret (by simp [results, Tryz.results5, go_sem, e0, e1, e2, e3, e4, e5]; rfl) rfl ?_
  exact ⟨rfl, GF⟩
set_option maxHeartbeats 4000000 in
theorem sp_b_o_17_1 (a b : Vv) (ha : vok a) (hb : vok b) (hxa : (a.x.size : Int) ≤ 1048576) (hxb : (b.x.size : Int) ≤ 1048576) (HZ : (∀ w, Calls Tryz.prog 17 #[vv a, vv b] w fun e w' => e = .returned (.int .i64 0) ∧ Grown w w')) (w : World) : Calls Tryz.prog 5 #[.int .i64 17, vv a, vv b] w fun e w' => e = .returned (va 0 ⟨1, 0, 0, ⟨#[]⟩, 0⟩) ∧ Kq w w' := by
  have OA := fun w => sp_ok a hxa w
  rw [dc_t ha] at OA
  have OB := fun w => sp_ok b hxb w
  rw [dc_t hb] at OB
  have HB := fun w => sp_bool_false w
  have HG := fun w => sp_got ⟨1, 0, 0, ⟨#[]⟩, 0⟩ w
  obtain ⟨k, m, g, x, r⟩ := a
  obtain ⟨l, n, h, y, s⟩ := b
  unfold vv at *
  try unfold va at *
  try dsimp only at *
  clear ha hb hxa hxb
  have hst : ∀ (a : Addr) (n : Nat) (m : Mode) (w : World), (store a (.float .f64 n) m).run Tryz.prog w = stored Tryz.prog w a (.float .f64 n) m := fun a n m w => run_store _ _ _ _ _ rfl
  go_enter Tryz.func5, Tryz.ntmps5
  go_wp2_with fail
  refine (OA _).mono ?_
  rintro e w1 ⟨rfl, g1⟩
  have S1 : Hid (Bw w w1 w.heap.size ⟨k, m, g, x, r⟩ ⟨l, n, h, y, s⟩) := Bw.step (Bw.new w _ _ _ _ _ _ _ _ _ _ _ _) (.of_grown g1)
  clear g1
  obtain ⟨_, ⟨c0, c1, c2, c3, c4⟩, ⟨d0, d1, d2, d3, d4⟩, ⟨r0, r1, r2, r3, r4, r5, rz⟩⟩ := (show Bw w w1 w.heap.size ⟨k, m, g, x, r⟩ ⟨l, n, h, y, s⟩ from S1)
  go_wp2_with fail
  refine (OB _).mono ?_
  rintro e w2 ⟨rfl, g2⟩
  have S2 : Hid (Bw w w2 w.heap.size ⟨k, m, g, x, r⟩ ⟨l, n, h, y, s⟩) := Bw.step S1 (.of_grown g2)
  clear g2 S1 c0 c1 c2 c3 c4 d0 d1 d2 d3 d4 r0 r1 r2 r3 r4 r5 rz
  obtain ⟨_, ⟨c0, c1, c2, c3, c4⟩, ⟨d0, d1, d2, d3, d4⟩, ⟨r0, r1, r2, r3, r4, r5, rz⟩⟩ := (show Bw w w2 w.heap.size ⟨k, m, g, x, r⟩ ⟨l, n, h, y, s⟩ from S2)
  go_wp2_with fail
  refine (HZ _).mono ?_
  rintro e w3 ⟨rfl, g3⟩
  have S3 : Hid (Bw w w3 w.heap.size ⟨k, m, g, x, r⟩ ⟨l, n, h, y, s⟩) := Bw.step S2 (.of_grown g3)
  clear g3 S2 c0 c1 c2 c3 c4 d0 d1 d2 d3 d4 r0 r1 r2 r3 r4 r5 rz
  obtain ⟨_, ⟨c0, c1, c2, c3, c4⟩, ⟨d0, d1, d2, d3, d4⟩, ⟨r0, r1, r2, r3, r4, r5, rz⟩⟩ := (show Bw w w3 w.heap.size ⟨k, m, g, x, r⟩ ⟨l, n, h, y, s⟩ from S3)
  go_wp2_with fail
  refine (HB _).mono ?_
  rintro e w4 ⟨rfl, g4⟩
  have S4 : Hid (Bw w w4 w.heap.size ⟨k, m, g, x, r⟩ ⟨l, n, h, y, s⟩) := Bw.step S3 (.of_grown g4)
  clear g4 S3 c0 c1 c2 c3 c4 d0 d1 d2 d3 d4 r0 r1 r2 r3 r4 r5 rz
  obtain ⟨_, ⟨c0, c1, c2, c3, c4⟩, ⟨d0, d1, d2, d3, d4⟩, ⟨r0, r1, r2, r3, r4, r5, rz⟩⟩ := (show Bw w w4 w.heap.size ⟨k, m, g, x, r⟩ ⟨l, n, h, y, s⟩ from S4)
  go_wp2_with fail
  refine (HG _).mono ?_
  rintro e w5 ⟨rfl, g5⟩
  have S5 : Hid (Bw w w5 w.heap.size ⟨k, m, g, x, r⟩ ⟨l, n, h, y, s⟩) := Bw.step S4 (.of_grown g5)
  clear g5 S4 c0 c1 c2 c3 c4 d0 d1 d2 d3 d4 r0 r1 r2 r3 r4 r5 rz
  obtain ⟨_, ⟨c0, c1, c2, c3, c4⟩, ⟨d0, d1, d2, d3, d4⟩, ⟨r0, r1, r2, r3, r4, r5, rz⟩⟩ := (show Bw w w5 w.heap.size ⟨k, m, g, x, r⟩ ⟨l, n, h, y, s⟩ from S5)
  go_wp2_with fail
  obtain ⟨e0, e1, e2, e3, e4, e5⟩ := rv_set' (show Bw w w5 w.heap.size ⟨k, m, g, x, r⟩ ⟨l, n, h, y, s⟩ from S5).r 0 1 0 0 ⟨#[]⟩ 0
  have GF : Hid (Kq w (s6 w5 (w.heap.size + 2) 0 1 0 0 ⟨#[]⟩ 0)) := s6_kq (show Bw w w5 w.heap.size ⟨k, m, g, x, r⟩ ⟨l, n, h, y, s⟩ from S5).kq (by omega) 0 1 0 0 ⟨#[]⟩ 0
  obtain ⟨WF, hWF⟩ : ∃ WF, WF = s6 w5 (w.heap.size + 2) 0 1 0 0 ⟨#[]⟩ 0 := ⟨_, rfl⟩
  rw [← hWF] at e0 e1 e2 e3 e4 e5 GF
  have hWF' := hWF
  unfold s6 at hWF'
  rw [← hWF']
  clear hWF hWF'
  refine bodyPost_ret (by simp [results, Tryz.results5, go_sem, e0, e1, e2, e3, e4, e5]; rfl) rfl ?_
  exact ⟨rfl, GF⟩
set_option maxHeartbeats 4000000 in
theorem sp_b_o_17_2 (a b : Vv) (ha : vok a) (hb : vok b) (hxa : (a.x.size : Int) ≤ 1048576) (hxb : (b.x.size : Int) ≤ 1048576) (HZ : (∀ w, Calls Tryz.prog 17 #[vv a, vv b] w fun e w' => e = .returned (.int .i64 1) ∧ Grown w w')) (w : World) : Calls Tryz.prog 5 #[.int .i64 17, vv a, vv b] w fun e w' => e = .returned (va 0 ⟨1, 1, 0, ⟨#[]⟩, 0⟩) ∧ Kq w w' := by
  have OA := fun w => sp_ok a hxa w
  rw [dc_t ha] at OA
  have OB := fun w => sp_ok b hxb w
  rw [dc_t hb] at OB
  have HB := fun w => sp_bool_true w
  have HG := fun w => sp_got ⟨1, 1, 0, ⟨#[]⟩, 0⟩ w
  obtain ⟨k, m, g, x, r⟩ := a
  obtain ⟨l, n, h, y, s⟩ := b
  unfold vv at *
  try unfold va at *
  try dsimp only at *
  clear ha hb hxa hxb
  have hst : ∀ (a : Addr) (n : Nat) (m : Mode) (w : World), (store a (.float .f64 n) m).run Tryz.prog w = stored Tryz.prog w a (.float .f64 n) m := fun a n m w => run_store _ _ _ _ _ rfl
  go_enter Tryz.func5, Tryz.ntmps5
  go_wp2_with fail
  refine (OA _).mono ?_
  rintro e w1 ⟨rfl, g1⟩
  have S1 : Hid (Bw w w1 w.heap.size ⟨k, m, g, x, r⟩ ⟨l, n, h, y, s⟩) := Bw.step (Bw.new w _ _ _ _ _ _ _ _ _ _ _ _) (.of_grown g1)
  clear g1
  obtain ⟨_, ⟨c0, c1, c2, c3, c4⟩, ⟨d0, d1, d2, d3, d4⟩, ⟨r0, r1, r2, r3, r4, r5, rz⟩⟩ := (show Bw w w1 w.heap.size ⟨k, m, g, x, r⟩ ⟨l, n, h, y, s⟩ from S1)
  go_wp2_with fail
  refine (OB _).mono ?_
  rintro e w2 ⟨rfl, g2⟩
  have S2 : Hid (Bw w w2 w.heap.size ⟨k, m, g, x, r⟩ ⟨l, n, h, y, s⟩) := Bw.step S1 (.of_grown g2)
  clear g2 S1 c0 c1 c2 c3 c4 d0 d1 d2 d3 d4 r0 r1 r2 r3 r4 r5 rz
  obtain ⟨_, ⟨c0, c1, c2, c3, c4⟩, ⟨d0, d1, d2, d3, d4⟩, ⟨r0, r1, r2, r3, r4, r5, rz⟩⟩ := (show Bw w w2 w.heap.size ⟨k, m, g, x, r⟩ ⟨l, n, h, y, s⟩ from S2)
  go_wp2_with fail
  refine (HZ _).mono ?_
  rintro e w3 ⟨rfl, g3⟩
  have S3 : Hid (Bw w w3 w.heap.size ⟨k, m, g, x, r⟩ ⟨l, n, h, y, s⟩) := Bw.step S2 (.of_grown g3)
  clear g3 S2 c0 c1 c2 c3 c4 d0 d1 d2 d3 d4 r0 r1 r2 r3 r4 r5 rz
  obtain ⟨_, ⟨c0, c1, c2, c3, c4⟩, ⟨d0, d1, d2, d3, d4⟩, ⟨r0, r1, r2, r3, r4, r5, rz⟩⟩ := (show Bw w w3 w.heap.size ⟨k, m, g, x, r⟩ ⟨l, n, h, y, s⟩ from S3)
  go_wp2_with fail
  refine (HB _).mono ?_
  rintro e w4 ⟨rfl, g4⟩
  have S4 : Hid (Bw w w4 w.heap.size ⟨k, m, g, x, r⟩ ⟨l, n, h, y, s⟩) := Bw.step S3 (.of_grown g4)
  clear g4 S3 c0 c1 c2 c3 c4 d0 d1 d2 d3 d4 r0 r1 r2 r3 r4 r5 rz
  obtain ⟨_, ⟨c0, c1, c2, c3, c4⟩, ⟨d0, d1, d2, d3, d4⟩, ⟨r0, r1, r2, r3, r4, r5, rz⟩⟩ := (show Bw w w4 w.heap.size ⟨k, m, g, x, r⟩ ⟨l, n, h, y, s⟩ from S4)
  go_wp2_with fail
  refine (HG _).mono ?_
  rintro e w5 ⟨rfl, g5⟩
  have S5 : Hid (Bw w w5 w.heap.size ⟨k, m, g, x, r⟩ ⟨l, n, h, y, s⟩) := Bw.step S4 (.of_grown g5)
  clear g5 S4 c0 c1 c2 c3 c4 d0 d1 d2 d3 d4 r0 r1 r2 r3 r4 r5 rz
  obtain ⟨_, ⟨c0, c1, c2, c3, c4⟩, ⟨d0, d1, d2, d3, d4⟩, ⟨r0, r1, r2, r3, r4, r5, rz⟩⟩ := (show Bw w w5 w.heap.size ⟨k, m, g, x, r⟩ ⟨l, n, h, y, s⟩ from S5)
  go_wp2_with fail
  obtain ⟨e0, e1, e2, e3, e4, e5⟩ := rv_set' (show Bw w w5 w.heap.size ⟨k, m, g, x, r⟩ ⟨l, n, h, y, s⟩ from S5).r 0 1 1 0 ⟨#[]⟩ 0
  have GF : Hid (Kq w (s6 w5 (w.heap.size + 2) 0 1 1 0 ⟨#[]⟩ 0)) := s6_kq (show Bw w w5 w.heap.size ⟨k, m, g, x, r⟩ ⟨l, n, h, y, s⟩ from S5).kq (by omega) 0 1 1 0 ⟨#[]⟩ 0
  obtain ⟨WF, hWF⟩ : ∃ WF, WF = s6 w5 (w.heap.size + 2) 0 1 1 0 ⟨#[]⟩ 0 := ⟨_, rfl⟩
  rw [← hWF] at e0 e1 e2 e3 e4 e5 GF
  have hWF' := hWF
  unfold s6 at hWF'
  rw [← hWF']
  clear hWF hWF'
  refine bodyPost_ret (by simp [results, Tryz.results5, go_sem, e0, e1, e2, e3, e4, e5]; rfl) rfl ?_
  exact ⟨rfl, GF⟩
set_option maxHeartbeats 4000000 in
theorem sp_b_o_17_3 (a b : Vv) (ha : vok a) (hb : vok b) (hxa : (a.x.size : Int) ≤ 1048576) (hxb : (b.x.size : Int) ≤ 1048576) (HZ : (∀ w, Calls Tryz.prog 17 #[vv a, vv b] w fun e w' => e = .returned (.int .i64 2) ∧ Grown w w')) (w : World) : Calls Tryz.prog 5 #[.int .i64 17, vv a, vv b] w fun e w' => e = .returned (va 0 ⟨1, 0, 0, ⟨#[]⟩, 0⟩) ∧ Kq w w' := by
  have OA := fun w => sp_ok a hxa w
  rw [dc_t ha] at OA
  have OB := fun w => sp_ok b hxb w
  rw [dc_t hb] at OB
  have HB := fun w => sp_bool_false w
  have HG := fun w => sp_got ⟨1, 0, 0, ⟨#[]⟩, 0⟩ w
  obtain ⟨k, m, g, x, r⟩ := a
  obtain ⟨l, n, h, y, s⟩ := b
  unfold vv at *
  try unfold va at *
  try dsimp only at *
  clear ha hb hxa hxb
  have hst : ∀ (a : Addr) (n : Nat) (m : Mode) (w : World), (store a (.float .f64 n) m).run Tryz.prog w = stored Tryz.prog w a (.float .f64 n) m := fun a n m w => run_store _ _ _ _ _ rfl
  go_enter Tryz.func5, Tryz.ntmps5
  go_wp2_with fail
  refine (OA _).mono ?_
  rintro e w1 ⟨rfl, g1⟩
  have S1 : Hid (Bw w w1 w.heap.size ⟨k, m, g, x, r⟩ ⟨l, n, h, y, s⟩) := Bw.step (Bw.new w _ _ _ _ _ _ _ _ _ _ _ _) (.of_grown g1)
  clear g1
  obtain ⟨_, ⟨c0, c1, c2, c3, c4⟩, ⟨d0, d1, d2, d3, d4⟩, ⟨r0, r1, r2, r3, r4, r5, rz⟩⟩ := (show Bw w w1 w.heap.size ⟨k, m, g, x, r⟩ ⟨l, n, h, y, s⟩ from S1)
  go_wp2_with fail
  refine (OB _).mono ?_
  rintro e w2 ⟨rfl, g2⟩
  have S2 : Hid (Bw w w2 w.heap.size ⟨k, m, g, x, r⟩ ⟨l, n, h, y, s⟩) := Bw.step S1 (.of_grown g2)
  clear g2 S1 c0 c1 c2 c3 c4 d0 d1 d2 d3 d4 r0 r1 r2 r3 r4 r5 rz
  obtain ⟨_, ⟨c0, c1, c2, c3, c4⟩, ⟨d0, d1, d2, d3, d4⟩, ⟨r0, r1, r2, r3, r4, r5, rz⟩⟩ := (show Bw w w2 w.heap.size ⟨k, m, g, x, r⟩ ⟨l, n, h, y, s⟩ from S2)
  go_wp2_with fail
  refine (HZ _).mono ?_
  rintro e w3 ⟨rfl, g3⟩
  have S3 : Hid (Bw w w3 w.heap.size ⟨k, m, g, x, r⟩ ⟨l, n, h, y, s⟩) := Bw.step S2 (.of_grown g3)
  clear g3 S2 c0 c1 c2 c3 c4 d0 d1 d2 d3 d4 r0 r1 r2 r3 r4 r5 rz
  obtain ⟨_, ⟨c0, c1, c2, c3, c4⟩, ⟨d0, d1, d2, d3, d4⟩, ⟨r0, r1, r2, r3, r4, r5, rz⟩⟩ := (show Bw w w3 w.heap.size ⟨k, m, g, x, r⟩ ⟨l, n, h, y, s⟩ from S3)
  go_wp2_with fail
  refine (HB _).mono ?_
  rintro e w4 ⟨rfl, g4⟩
  have S4 : Hid (Bw w w4 w.heap.size ⟨k, m, g, x, r⟩ ⟨l, n, h, y, s⟩) := Bw.step S3 (.of_grown g4)
  clear g4 S3 c0 c1 c2 c3 c4 d0 d1 d2 d3 d4 r0 r1 r2 r3 r4 r5 rz
  obtain ⟨_, ⟨c0, c1, c2, c3, c4⟩, ⟨d0, d1, d2, d3, d4⟩, ⟨r0, r1, r2, r3, r4, r5, rz⟩⟩ := (show Bw w w4 w.heap.size ⟨k, m, g, x, r⟩ ⟨l, n, h, y, s⟩ from S4)
  go_wp2_with fail
  refine (HG _).mono ?_
  rintro e w5 ⟨rfl, g5⟩
  have S5 : Hid (Bw w w5 w.heap.size ⟨k, m, g, x, r⟩ ⟨l, n, h, y, s⟩) := Bw.step S4 (.of_grown g5)
  clear g5 S4 c0 c1 c2 c3 c4 d0 d1 d2 d3 d4 r0 r1 r2 r3 r4 r5 rz
  obtain ⟨_, ⟨c0, c1, c2, c3, c4⟩, ⟨d0, d1, d2, d3, d4⟩, ⟨r0, r1, r2, r3, r4, r5, rz⟩⟩ := (show Bw w w5 w.heap.size ⟨k, m, g, x, r⟩ ⟨l, n, h, y, s⟩ from S5)
  go_wp2_with fail
  obtain ⟨e0, e1, e2, e3, e4, e5⟩ := rv_set' (show Bw w w5 w.heap.size ⟨k, m, g, x, r⟩ ⟨l, n, h, y, s⟩ from S5).r 0 1 0 0 ⟨#[]⟩ 0
  have GF : Hid (Kq w (s6 w5 (w.heap.size + 2) 0 1 0 0 ⟨#[]⟩ 0)) := s6_kq (show Bw w w5 w.heap.size ⟨k, m, g, x, r⟩ ⟨l, n, h, y, s⟩ from S5).kq (by omega) 0 1 0 0 ⟨#[]⟩ 0
  obtain ⟨WF, hWF⟩ : ∃ WF, WF = s6 w5 (w.heap.size + 2) 0 1 0 0 ⟨#[]⟩ 0 := ⟨_, rfl⟩
  rw [← hWF] at e0 e1 e2 e3 e4 e5 GF
  have hWF' := hWF
  unfold s6 at hWF'
  rw [← hWF']
  clear hWF hWF'
  refine bodyPost_ret (by simp [results, Tryz.results5, go_sem, e0, e1, e2, e3, e4, e5]; rfl) rfl ?_
  exact ⟨rfl, GF⟩
set_option maxHeartbeats 4000000 in
theorem sp_b_o_18_0 (a b : Vv) (ha : vok a) (hb : vok b) (hxa : (a.x.size : Int) ≤ 1048576) (hxb : (b.x.size : Int) ≤ 1048576) (HZ : (∀ w, Calls Tryz.prog 17 #[vv a, vv b] w fun e w' => e = .returned (.int .i64 (-1)) ∧ Grown w w')) (w : World) : Calls Tryz.prog 5 #[.int .i64 18, vv a, vv b] w fun e w' => e = .returned (va 0 ⟨1, 0, 0, ⟨#[]⟩, 0⟩) ∧ Kq w w' := by
  have OA := fun w => sp_ok a hxa w
  rw [dc_t ha] at OA
  have OB := fun w => sp_ok b hxb w
  rw [dc_t hb] at OB
  have HB := fun w => sp_bool_false w
  have HG := fun w => sp_got ⟨1, 0, 0, ⟨#[]⟩, 0⟩ w
  obtain ⟨k, m, g, x, r⟩ := a
  obtain ⟨l, n, h, y, s⟩ := b
  unfold vv at *
  try unfold va at *
  try dsimp only at *
  clear ha hb hxa hxb
  have hst : ∀ (a : Addr) (n : Nat) (m : Mode) (w : World), (store a (.float .f64 n) m).run Tryz.prog w = stored Tryz.prog w a (.float .f64 n) m := fun a n m w => run_store _ _ _ _ _ rfl
  go_enter Tryz.func5, Tryz.ntmps5
  go_wp2_with fail
  refine (OA _).mono ?_
  rintro e w1 ⟨rfl, g1⟩
  have S1 : Hid (Bw w w1 w.heap.size ⟨k, m, g, x, r⟩ ⟨l, n, h, y, s⟩) := Bw.step (Bw.new w _ _ _ _ _ _ _ _ _ _ _ _) (.of_grown g1)
  clear g1
  obtain ⟨_, ⟨c0, c1, c2, c3, c4⟩, ⟨d0, d1, d2, d3, d4⟩, ⟨r0, r1, r2, r3, r4, r5, rz⟩⟩ := (show Bw w w1 w.heap.size ⟨k, m, g, x, r⟩ ⟨l, n, h, y, s⟩ from S1)
  go_wp2_with fail
  refine (OB _).mono ?_
  rintro e w2 ⟨rfl, g2⟩
  have S2 : Hid (Bw w w2 w.heap.size ⟨k, m, g, x, r⟩ ⟨l, n, h, y, s⟩) := Bw.step S1 (.of_grown g2)
  clear g2 S1 c0 c1 c2 c3 c4 d0 d1 d2 d3 d4 r0 r1 r2 r3 r4 r5 rz
  obtain ⟨_, ⟨c0, c1, c2, c3, c4⟩, ⟨d0, d1, d2, d3, d4⟩, ⟨r0, r1, r2, r3, r4, r5, rz⟩⟩ := (show Bw w w2 w.heap.size ⟨k, m, g, x, r⟩ ⟨l, n, h, y, s⟩ from S2)
  go_wp2_with fail
  refine (HZ _).mono ?_
  rintro e w3 ⟨rfl, g3⟩
  have S3 : Hid (Bw w w3 w.heap.size ⟨k, m, g, x, r⟩ ⟨l, n, h, y, s⟩) := Bw.step S2 (.of_grown g3)
  clear g3 S2 c0 c1 c2 c3 c4 d0 d1 d2 d3 d4 r0 r1 r2 r3 r4 r5 rz
  obtain ⟨_, ⟨c0, c1, c2, c3, c4⟩, ⟨d0, d1, d2, d3, d4⟩, ⟨r0, r1, r2, r3, r4, r5, rz⟩⟩ := (show Bw w w3 w.heap.size ⟨k, m, g, x, r⟩ ⟨l, n, h, y, s⟩ from S3)
  go_wp2_with fail
  refine (HB _).mono ?_
  rintro e w4 ⟨rfl, g4⟩
  have S4 : Hid (Bw w w4 w.heap.size ⟨k, m, g, x, r⟩ ⟨l, n, h, y, s⟩) := Bw.step S3 (.of_grown g4)
  clear g4 S3 c0 c1 c2 c3 c4 d0 d1 d2 d3 d4 r0 r1 r2 r3 r4 r5 rz
  obtain ⟨_, ⟨c0, c1, c2, c3, c4⟩, ⟨d0, d1, d2, d3, d4⟩, ⟨r0, r1, r2, r3, r4, r5, rz⟩⟩ := (show Bw w w4 w.heap.size ⟨k, m, g, x, r⟩ ⟨l, n, h, y, s⟩ from S4)
  go_wp2_with fail
  refine (HG _).mono ?_
  rintro e w5 ⟨rfl, g5⟩
  have S5 : Hid (Bw w w5 w.heap.size ⟨k, m, g, x, r⟩ ⟨l, n, h, y, s⟩) := Bw.step S4 (.of_grown g5)
  clear g5 S4 c0 c1 c2 c3 c4 d0 d1 d2 d3 d4 r0 r1 r2 r3 r4 r5 rz
  obtain ⟨_, ⟨c0, c1, c2, c3, c4⟩, ⟨d0, d1, d2, d3, d4⟩, ⟨r0, r1, r2, r3, r4, r5, rz⟩⟩ := (show Bw w w5 w.heap.size ⟨k, m, g, x, r⟩ ⟨l, n, h, y, s⟩ from S5)
  go_wp2_with fail
  obtain ⟨e0, e1, e2, e3, e4, e5⟩ := rv_set' (show Bw w w5 w.heap.size ⟨k, m, g, x, r⟩ ⟨l, n, h, y, s⟩ from S5).r 0 1 0 0 ⟨#[]⟩ 0
  have GF : Hid (Kq w (s6 w5 (w.heap.size + 2) 0 1 0 0 ⟨#[]⟩ 0)) := s6_kq (show Bw w w5 w.heap.size ⟨k, m, g, x, r⟩ ⟨l, n, h, y, s⟩ from S5).kq (by omega) 0 1 0 0 ⟨#[]⟩ 0
  obtain ⟨WF, hWF⟩ : ∃ WF, WF = s6 w5 (w.heap.size + 2) 0 1 0 0 ⟨#[]⟩ 0 := ⟨_, rfl⟩
  rw [← hWF] at e0 e1 e2 e3 e4 e5 GF
  have hWF' := hWF
  unfold s6 at hWF'
  rw [← hWF']
  clear hWF hWF'
  refine bodyPost_ret (by simp [results, Tryz.results5, go_sem, e0, e1, e2, e3, e4, e5]; rfl) rfl ?_
  exact ⟨rfl, GF⟩
set_option maxHeartbeats 4000000 in
theorem sp_b_o_18_1 (a b : Vv) (ha : vok a) (hb : vok b) (hxa : (a.x.size : Int) ≤ 1048576) (hxb : (b.x.size : Int) ≤ 1048576) (HZ : (∀ w, Calls Tryz.prog 17 #[vv a, vv b] w fun e w' => e = .returned (.int .i64 0) ∧ Grown w w')) (w : World) : Calls Tryz.prog 5 #[.int .i64 18, vv a, vv b] w fun e w' => e = .returned (va 0 ⟨1, 1, 0, ⟨#[]⟩, 0⟩) ∧ Kq w w' := by
  have OA := fun w => sp_ok a hxa w
  rw [dc_t ha] at OA
  have OB := fun w => sp_ok b hxb w
  rw [dc_t hb] at OB
  have HB := fun w => sp_bool_true w
  have HG := fun w => sp_got ⟨1, 1, 0, ⟨#[]⟩, 0⟩ w
  obtain ⟨k, m, g, x, r⟩ := a
  obtain ⟨l, n, h, y, s⟩ := b
  unfold vv at *
  try unfold va at *
  try dsimp only at *
  clear ha hb hxa hxb
  have hst : ∀ (a : Addr) (n : Nat) (m : Mode) (w : World), (store a (.float .f64 n) m).run Tryz.prog w = stored Tryz.prog w a (.float .f64 n) m := fun a n m w => run_store _ _ _ _ _ rfl
  go_enter Tryz.func5, Tryz.ntmps5
  go_wp2_with fail
  refine (OA _).mono ?_
  rintro e w1 ⟨rfl, g1⟩
  have S1 : Hid (Bw w w1 w.heap.size ⟨k, m, g, x, r⟩ ⟨l, n, h, y, s⟩) := Bw.step (Bw.new w _ _ _ _ _ _ _ _ _ _ _ _) (.of_grown g1)
  clear g1
  obtain ⟨_, ⟨c0, c1, c2, c3, c4⟩, ⟨d0, d1, d2, d3, d4⟩, ⟨r0, r1, r2, r3, r4, r5, rz⟩⟩ := (show Bw w w1 w.heap.size ⟨k, m, g, x, r⟩ ⟨l, n, h, y, s⟩ from S1)
  go_wp2_with fail
  refine (OB _).mono ?_
  rintro e w2 ⟨rfl, g2⟩
  have S2 : Hid (Bw w w2 w.heap.size ⟨k, m, g, x, r⟩ ⟨l, n, h, y, s⟩) := Bw.step S1 (.of_grown g2)
  clear g2 S1 c0 c1 c2 c3 c4 d0 d1 d2 d3 d4 r0 r1 r2 r3 r4 r5 rz
  obtain ⟨_, ⟨c0, c1, c2, c3, c4⟩, ⟨d0, d1, d2, d3, d4⟩, ⟨r0, r1, r2, r3, r4, r5, rz⟩⟩ := (show Bw w w2 w.heap.size ⟨k, m, g, x, r⟩ ⟨l, n, h, y, s⟩ from S2)
  go_wp2_with fail
  refine (HZ _).mono ?_
  rintro e w3 ⟨rfl, g3⟩
  have S3 : Hid (Bw w w3 w.heap.size ⟨k, m, g, x, r⟩ ⟨l, n, h, y, s⟩) := Bw.step S2 (.of_grown g3)
  clear g3 S2 c0 c1 c2 c3 c4 d0 d1 d2 d3 d4 r0 r1 r2 r3 r4 r5 rz
  obtain ⟨_, ⟨c0, c1, c2, c3, c4⟩, ⟨d0, d1, d2, d3, d4⟩, ⟨r0, r1, r2, r3, r4, r5, rz⟩⟩ := (show Bw w w3 w.heap.size ⟨k, m, g, x, r⟩ ⟨l, n, h, y, s⟩ from S3)
  go_wp2_with fail
  refine (HB _).mono ?_
  rintro e w4 ⟨rfl, g4⟩
  have S4 : Hid (Bw w w4 w.heap.size ⟨k, m, g, x, r⟩ ⟨l, n, h, y, s⟩) := Bw.step S3 (.of_grown g4)
  clear g4 S3 c0 c1 c2 c3 c4 d0 d1 d2 d3 d4 r0 r1 r2 r3 r4 r5 rz
  obtain ⟨_, ⟨c0, c1, c2, c3, c4⟩, ⟨d0, d1, d2, d3, d4⟩, ⟨r0, r1, r2, r3, r4, r5, rz⟩⟩ := (show Bw w w4 w.heap.size ⟨k, m, g, x, r⟩ ⟨l, n, h, y, s⟩ from S4)
  go_wp2_with fail
  refine (HG _).mono ?_
  rintro e w5 ⟨rfl, g5⟩
  have S5 : Hid (Bw w w5 w.heap.size ⟨k, m, g, x, r⟩ ⟨l, n, h, y, s⟩) := Bw.step S4 (.of_grown g5)
  clear g5 S4 c0 c1 c2 c3 c4 d0 d1 d2 d3 d4 r0 r1 r2 r3 r4 r5 rz
  obtain ⟨_, ⟨c0, c1, c2, c3, c4⟩, ⟨d0, d1, d2, d3, d4⟩, ⟨r0, r1, r2, r3, r4, r5, rz⟩⟩ := (show Bw w w5 w.heap.size ⟨k, m, g, x, r⟩ ⟨l, n, h, y, s⟩ from S5)
  go_wp2_with fail
  obtain ⟨e0, e1, e2, e3, e4, e5⟩ := rv_set' (show Bw w w5 w.heap.size ⟨k, m, g, x, r⟩ ⟨l, n, h, y, s⟩ from S5).r 0 1 1 0 ⟨#[]⟩ 0
  have GF : Hid (Kq w (s6 w5 (w.heap.size + 2) 0 1 1 0 ⟨#[]⟩ 0)) := s6_kq (show Bw w w5 w.heap.size ⟨k, m, g, x, r⟩ ⟨l, n, h, y, s⟩ from S5).kq (by omega) 0 1 1 0 ⟨#[]⟩ 0
  obtain ⟨WF, hWF⟩ : ∃ WF, WF = s6 w5 (w.heap.size + 2) 0 1 1 0 ⟨#[]⟩ 0 := ⟨_, rfl⟩
  rw [← hWF] at e0 e1 e2 e3 e4 e5 GF
  have hWF' := hWF
  unfold s6 at hWF'
  rw [← hWF']
  clear hWF hWF'
  refine bodyPost_ret (by simp [results, Tryz.results5, go_sem, e0, e1, e2, e3, e4, e5]; rfl) rfl ?_
  exact ⟨rfl, GF⟩
set_option maxHeartbeats 4000000 in
theorem sp_b_o_18_2 (a b : Vv) (ha : vok a) (hb : vok b) (hxa : (a.x.size : Int) ≤ 1048576) (hxb : (b.x.size : Int) ≤ 1048576) (HZ : (∀ w, Calls Tryz.prog 17 #[vv a, vv b] w fun e w' => e = .returned (.int .i64 1) ∧ Grown w w')) (w : World) : Calls Tryz.prog 5 #[.int .i64 18, vv a, vv b] w fun e w' => e = .returned (va 0 ⟨1, 1, 0, ⟨#[]⟩, 0⟩) ∧ Kq w w' := by
  have OA := fun w => sp_ok a hxa w
  rw [dc_t ha] at OA
  have OB := fun w => sp_ok b hxb w
  rw [dc_t hb] at OB
  have HB := fun w => sp_bool_true w
  have HG := fun w => sp_got ⟨1, 1, 0, ⟨#[]⟩, 0⟩ w
  obtain ⟨k, m, g, x, r⟩ := a
  obtain ⟨l, n, h, y, s⟩ := b
  unfold vv at *
  try unfold va at *
  try dsimp only at *
  clear ha hb hxa hxb
  have hst : ∀ (a : Addr) (n : Nat) (m : Mode) (w : World), (store a (.float .f64 n) m).run Tryz.prog w = stored Tryz.prog w a (.float .f64 n) m := fun a n m w => run_store _ _ _ _ _ rfl
  go_enter Tryz.func5, Tryz.ntmps5
  go_wp2_with fail
  refine (OA _).mono ?_
  rintro e w1 ⟨rfl, g1⟩
  have S1 : Hid (Bw w w1 w.heap.size ⟨k, m, g, x, r⟩ ⟨l, n, h, y, s⟩) := Bw.step (Bw.new w _ _ _ _ _ _ _ _ _ _ _ _) (.of_grown g1)
  clear g1
  obtain ⟨_, ⟨c0, c1, c2, c3, c4⟩, ⟨d0, d1, d2, d3, d4⟩, ⟨r0, r1, r2, r3, r4, r5, rz⟩⟩ := (show Bw w w1 w.heap.size ⟨k, m, g, x, r⟩ ⟨l, n, h, y, s⟩ from S1)
  go_wp2_with fail
  refine (OB _).mono ?_
  rintro e w2 ⟨rfl, g2⟩
  have S2 : Hid (Bw w w2 w.heap.size ⟨k, m, g, x, r⟩ ⟨l, n, h, y, s⟩) := Bw.step S1 (.of_grown g2)
  clear g2 S1 c0 c1 c2 c3 c4 d0 d1 d2 d3 d4 r0 r1 r2 r3 r4 r5 rz
  obtain ⟨_, ⟨c0, c1, c2, c3, c4⟩, ⟨d0, d1, d2, d3, d4⟩, ⟨r0, r1, r2, r3, r4, r5, rz⟩⟩ := (show Bw w w2 w.heap.size ⟨k, m, g, x, r⟩ ⟨l, n, h, y, s⟩ from S2)
  go_wp2_with fail
  refine (HZ _).mono ?_
  rintro e w3 ⟨rfl, g3⟩
  have S3 : Hid (Bw w w3 w.heap.size ⟨k, m, g, x, r⟩ ⟨l, n, h, y, s⟩) := Bw.step S2 (.of_grown g3)
  clear g3 S2 c0 c1 c2 c3 c4 d0 d1 d2 d3 d4 r0 r1 r2 r3 r4 r5 rz
  obtain ⟨_, ⟨c0, c1, c2, c3, c4⟩, ⟨d0, d1, d2, d3, d4⟩, ⟨r0, r1, r2, r3, r4, r5, rz⟩⟩ := (show Bw w w3 w.heap.size ⟨k, m, g, x, r⟩ ⟨l, n, h, y, s⟩ from S3)
  go_wp2_with fail
  refine (HB _).mono ?_
  rintro e w4 ⟨rfl, g4⟩
  have S4 : Hid (Bw w w4 w.heap.size ⟨k, m, g, x, r⟩ ⟨l, n, h, y, s⟩) := Bw.step S3 (.of_grown g4)
  clear g4 S3 c0 c1 c2 c3 c4 d0 d1 d2 d3 d4 r0 r1 r2 r3 r4 r5 rz
  obtain ⟨_, ⟨c0, c1, c2, c3, c4⟩, ⟨d0, d1, d2, d3, d4⟩, ⟨r0, r1, r2, r3, r4, r5, rz⟩⟩ := (show Bw w w4 w.heap.size ⟨k, m, g, x, r⟩ ⟨l, n, h, y, s⟩ from S4)
  go_wp2_with fail
  refine (HG _).mono ?_
  rintro e w5 ⟨rfl, g5⟩
  have S5 : Hid (Bw w w5 w.heap.size ⟨k, m, g, x, r⟩ ⟨l, n, h, y, s⟩) := Bw.step S4 (.of_grown g5)
  clear g5 S4 c0 c1 c2 c3 c4 d0 d1 d2 d3 d4 r0 r1 r2 r3 r4 r5 rz
  obtain ⟨_, ⟨c0, c1, c2, c3, c4⟩, ⟨d0, d1, d2, d3, d4⟩, ⟨r0, r1, r2, r3, r4, r5, rz⟩⟩ := (show Bw w w5 w.heap.size ⟨k, m, g, x, r⟩ ⟨l, n, h, y, s⟩ from S5)
  go_wp2_with fail
  obtain ⟨e0, e1, e2, e3, e4, e5⟩ := rv_set' (show Bw w w5 w.heap.size ⟨k, m, g, x, r⟩ ⟨l, n, h, y, s⟩ from S5).r 0 1 1 0 ⟨#[]⟩ 0
  have GF : Hid (Kq w (s6 w5 (w.heap.size + 2) 0 1 1 0 ⟨#[]⟩ 0)) := s6_kq (show Bw w w5 w.heap.size ⟨k, m, g, x, r⟩ ⟨l, n, h, y, s⟩ from S5).kq (by omega) 0 1 1 0 ⟨#[]⟩ 0
  obtain ⟨WF, hWF⟩ : ∃ WF, WF = s6 w5 (w.heap.size + 2) 0 1 1 0 ⟨#[]⟩ 0 := ⟨_, rfl⟩
  rw [← hWF] at e0 e1 e2 e3 e4 e5 GF
  have hWF' := hWF
  unfold s6 at hWF'
  rw [← hWF']
  clear hWF hWF'
  refine bodyPost_ret (by simp [results, Tryz.results5, go_sem, e0, e1, e2, e3, e4, e5]; rfl) rfl ?_
  exact ⟨rfl, GF⟩
set_option maxHeartbeats 4000000 in
theorem sp_b_o_18_3 (a b : Vv) (ha : vok a) (hb : vok b) (hxa : (a.x.size : Int) ≤ 1048576) (hxb : (b.x.size : Int) ≤ 1048576) (HZ : (∀ w, Calls Tryz.prog 17 #[vv a, vv b] w fun e w' => e = .returned (.int .i64 2) ∧ Grown w w')) (w : World) : Calls Tryz.prog 5 #[.int .i64 18, vv a, vv b] w fun e w' => e = .returned (va 0 ⟨1, 0, 0, ⟨#[]⟩, 0⟩) ∧ Kq w w' := by
  have OA := fun w => sp_ok a hxa w
  rw [dc_t ha] at OA
  have OB := fun w => sp_ok b hxb w
  rw [dc_t hb] at OB
  have HB := fun w => sp_bool_false w
  have HG := fun w => sp_got ⟨1, 0, 0, ⟨#[]⟩, 0⟩ w
  obtain ⟨k, m, g, x, r⟩ := a
  obtain ⟨l, n, h, y, s⟩ := b
  unfold vv at *
  try unfold va at *
  try dsimp only at *
  clear ha hb hxa hxb
  have hst : ∀ (a : Addr) (n : Nat) (m : Mode) (w : World), (store a (.float .f64 n) m).run Tryz.prog w = stored Tryz.prog w a (.float .f64 n) m := fun a n m w => run_store _ _ _ _ _ rfl
  go_enter Tryz.func5, Tryz.ntmps5
  go_wp2_with fail
  refine (OA _).mono ?_
  rintro e w1 ⟨rfl, g1⟩
  have S1 : Hid (Bw w w1 w.heap.size ⟨k, m, g, x, r⟩ ⟨l, n, h, y, s⟩) := Bw.step (Bw.new w _ _ _ _ _ _ _ _ _ _ _ _) (.of_grown g1)
  clear g1
  obtain ⟨_, ⟨c0, c1, c2, c3, c4⟩, ⟨d0, d1, d2, d3, d4⟩, ⟨r0, r1, r2, r3, r4, r5, rz⟩⟩ := (show Bw w w1 w.heap.size ⟨k, m, g, x, r⟩ ⟨l, n, h, y, s⟩ from S1)
  go_wp2_with fail
  refine (OB _).mono ?_
  rintro e w2 ⟨rfl, g2⟩
  have S2 : Hid (Bw w w2 w.heap.size ⟨k, m, g, x, r⟩ ⟨l, n, h, y, s⟩) := Bw.step S1 (.of_grown g2)
  clear g2 S1 c0 c1 c2 c3 c4 d0 d1 d2 d3 d4 r0 r1 r2 r3 r4 r5 rz
  obtain ⟨_, ⟨c0, c1, c2, c3, c4⟩, ⟨d0, d1, d2, d3, d4⟩, ⟨r0, r1, r2, r3, r4, r5, rz⟩⟩ := (show Bw w w2 w.heap.size ⟨k, m, g, x, r⟩ ⟨l, n, h, y, s⟩ from S2)
  go_wp2_with fail
  refine (HZ _).mono ?_
  rintro e w3 ⟨rfl, g3⟩
  have S3 : Hid (Bw w w3 w.heap.size ⟨k, m, g, x, r⟩ ⟨l, n, h, y, s⟩) := Bw.step S2 (.of_grown g3)
  clear g3 S2 c0 c1 c2 c3 c4 d0 d1 d2 d3 d4 r0 r1 r2 r3 r4 r5 rz
  obtain ⟨_, ⟨c0, c1, c2, c3, c4⟩, ⟨d0, d1, d2, d3, d4⟩, ⟨r0, r1, r2, r3, r4, r5, rz⟩⟩ := (show Bw w w3 w.heap.size ⟨k, m, g, x, r⟩ ⟨l, n, h, y, s⟩ from S3)
  go_wp2_with fail
  refine (HB _).mono ?_
  rintro e w4 ⟨rfl, g4⟩
  have S4 : Hid (Bw w w4 w.heap.size ⟨k, m, g, x, r⟩ ⟨l, n, h, y, s⟩) := Bw.step S3 (.of_grown g4)
  clear g4 S3 c0 c1 c2 c3 c4 d0 d1 d2 d3 d4 r0 r1 r2 r3 r4 r5 rz
  obtain ⟨_, ⟨c0, c1, c2, c3, c4⟩, ⟨d0, d1, d2, d3, d4⟩, ⟨r0, r1, r2, r3, r4, r5, rz⟩⟩ := (show Bw w w4 w.heap.size ⟨k, m, g, x, r⟩ ⟨l, n, h, y, s⟩ from S4)
  go_wp2_with fail
  refine (HG _).mono ?_
  rintro e w5 ⟨rfl, g5⟩
  have S5 : Hid (Bw w w5 w.heap.size ⟨k, m, g, x, r⟩ ⟨l, n, h, y, s⟩) := Bw.step S4 (.of_grown g5)
  clear g5 S4 c0 c1 c2 c3 c4 d0 d1 d2 d3 d4 r0 r1 r2 r3 r4 r5 rz
  obtain ⟨_, ⟨c0, c1, c2, c3, c4⟩, ⟨d0, d1, d2, d3, d4⟩, ⟨r0, r1, r2, r3, r4, r5, rz⟩⟩ := (show Bw w w5 w.heap.size ⟨k, m, g, x, r⟩ ⟨l, n, h, y, s⟩ from S5)
  go_wp2_with fail
  obtain ⟨e0, e1, e2, e3, e4, e5⟩ := rv_set' (show Bw w w5 w.heap.size ⟨k, m, g, x, r⟩ ⟨l, n, h, y, s⟩ from S5).r 0 1 0 0 ⟨#[]⟩ 0
  have GF : Hid (Kq w (s6 w5 (w.heap.size + 2) 0 1 0 0 ⟨#[]⟩ 0)) := s6_kq (show Bw w w5 w.heap.size ⟨k, m, g, x, r⟩ ⟨l, n, h, y, s⟩ from S5).kq (by omega) 0 1 0 0 ⟨#[]⟩ 0
  obtain ⟨WF, hWF⟩ : ∃ WF, WF = s6 w5 (w.heap.size + 2) 0 1 0 0 ⟨#[]⟩ 0 := ⟨_, rfl⟩
  rw [← hWF] at e0 e1 e2 e3 e4 e5 GF
  have hWF' := hWF
  unfold s6 at hWF'
  rw [← hWF']
  clear hWF hWF'
  refine bodyPost_ret (by simp [results, Tryz.results5, go_sem, e0, e1, e2, e3, e4, e5]; rfl) rfl ?_
  exact ⟨rfl, GF⟩
end Go.Proofs.YtladepgpandklaaGreatDoor
