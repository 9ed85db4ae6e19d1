import Derived.Test.YtladepgpandklaaGreatDoorMReg
namespace Go.Proofs.YtladepgpandklaaGreatDoor
open Go.ChangeShapes Go.WideShapes Go.ChangeAt Go.RowKit
set_option linter.unusedVariables false
set_option maxRecDepth 100000
set_option maxHeartbeats 4000000 in
theorem sp_b_o3 (op : Int) (a b : Vv) (ha : vok a) (hb : vok b) (hxa : (a.x.size : Int) ≤ 1048576) (hxb : (b.x.size : Int) ≤ 1048576) (o1 : 15 ≤ op) (o2 : op ≤ 18) (HZ : (∀ w, Calls Tryz.prog 17 #[vv a, vv b] w fun e w' => e = .returned (.int .i64 3) ∧ Grown w w')) (w : World) : Calls Tryz.prog 5 #[.int .i64 op, vv a, vv b] w fun e w' => e = .returned (va 1 ⟨0, 0, 0, ⟨#[]⟩, 0⟩) ∧ Kq w w' := by
  have OA := fun w => sp_ok a hxa w
  rw [dc_t ha] at OA
  have OB := fun w => sp_ok b hxb w
  rw [dc_t hb] at OB
  have HF := fun w => sp_fail 1 w
  have h1 : ¬ op < 1 := by omega
  have h18 : ¬ 18 < op := by omega
  have q12 : (op == 12) = false := by simp; omega
  have q13 : (op == 13) = false := by simp; omega
  have q14 : (op == 14) = false := by simp; omega
  obtain ⟨k, m, g, x, r⟩ := a
  obtain ⟨l, n, h, y, s⟩ := b
  unfold vv at *
  try unfold va at *
  try dsimp only at *
  clear ha hb hxa hxb
  have hst : ∀ (a : Addr) (n : Nat) (m : Mode) (w : World), (store a (.float .f64 n) m).run Tryz.prog w = stored Tryz.prog w a (.float .f64 n) m := fun a n m w => run_store _ _ _ _ _ rfl
  go_enter Tryz.func5, Tryz.ntmps5
  go_wp2_with fail
  refine (OA _).mono ?_
  rintro e w1 ⟨rfl, g1⟩
  have S1 : Hid (Bw w w1 w.heap.size ⟨k, m, g, x, r⟩ ⟨l, n, h, y, s⟩) := Bw.step (Bw.new w _ _ _ _ _ _ _ _ _ _ _ _) (.of_grown g1)
  clear g1
  obtain ⟨_, ⟨c0, c1, c2, c3, c4⟩, ⟨d0, d1, d2, d3, d4⟩, ⟨r0, r1, r2, r3, r4, r5, rz⟩⟩ := (show Bw w w1 w.heap.size ⟨k, m, g, x, r⟩ ⟨l, n, h, y, s⟩ from S1)
  go_wp2_with fail
  refine (OB _).mono ?_
  rintro e w2 ⟨rfl, g2⟩
  have S2 : Hid (Bw w w2 w.heap.size ⟨k, m, g, x, r⟩ ⟨l, n, h, y, s⟩) := Bw.step S1 (.of_grown g2)
  clear g2 S1 c0 c1 c2 c3 c4 d0 d1 d2 d3 d4 r0 r1 r2 r3 r4 r5 rz
  obtain ⟨_, ⟨c0, c1, c2, c3, c4⟩, ⟨d0, d1, d2, d3, d4⟩, ⟨r0, r1, r2, r3, r4, r5, rz⟩⟩ := (show Bw w w2 w.heap.size ⟨k, m, g, x, r⟩ ⟨l, n, h, y, s⟩ from S2)
  go_wp2_with fail
  refine (HZ _).mono ?_
  rintro e w3 ⟨rfl, g3⟩
  have S3 : Hid (Bw w w3 w.heap.size ⟨k, m, g, x, r⟩ ⟨l, n, h, y, s⟩) := Bw.step S2 (.of_grown g3)
  clear g3 S2 c0 c1 c2 c3 c4 d0 d1 d2 d3 d4 r0 r1 r2 r3 r4 r5 rz
  obtain ⟨_, ⟨c0, c1, c2, c3, c4⟩, ⟨d0, d1, d2, d3, d4⟩, ⟨r0, r1, r2, r3, r4, r5, rz⟩⟩ := (show Bw w w3 w.heap.size ⟨k, m, g, x, r⟩ ⟨l, n, h, y, s⟩ from S3)
  go_wp2_with fail
  refine (HF _).mono ?_
  rintro e w4 ⟨rfl, g4⟩
  have S4 : Hid (Bw w w4 w.heap.size ⟨k, m, g, x, r⟩ ⟨l, n, h, y, s⟩) := Bw.step S3 (.of_grown g4)
  clear g4 S3 c0 c1 c2 c3 c4 d0 d1 d2 d3 d4 r0 r1 r2 r3 r4 r5 rz
  obtain ⟨_, ⟨c0, c1, c2, c3, c4⟩, ⟨d0, d1, d2, d3, d4⟩, ⟨r0, r1, r2, r3, r4, r5, rz⟩⟩ := (show Bw w w4 w.heap.size ⟨k, m, g, x, r⟩ ⟨l, n, h, y, s⟩ from S4)
  go_wp2_with fail
  obtain ⟨e0, e1, e2, e3, e4, e5⟩ := rv_set' (show Bw w w4 w.heap.size ⟨k, m, g, x, r⟩ ⟨l, n, h, y, s⟩ from S4).r 1 0 0 0 ⟨#[]⟩ 0
  have GF : Hid (Kq w (s6 w4 (w.heap.size + 2) 1 0 0 0 ⟨#[]⟩ 0)) := s6_kq (show Bw w w4 w.heap.size ⟨k, m, g, x, r⟩ ⟨l, n, h, y, s⟩ from S4).kq (by omega) 1 0 0 0 ⟨#[]⟩ 0
  obtain ⟨WF, hWF⟩ : ∃ WF, WF = s6 w4 (w.heap.size + 2) 1 0 0 0 ⟨#[]⟩ 0 := ⟨_, rfl⟩
  rw [← hWF] at e0 e1 e2 e3 e4 e5 GF
  have hWF' := hWF
  unfold s6 at hWF'
  rw [← hWF']
  clear hWF hWF'
  refine bodyPost_ret (by simp [results, Tryz.results5, go_sem, e0, e1, e2, e3, e4, e5]; rfl) rfl ?_
  exact ⟨rfl, GF⟩
set_option maxHeartbeats 4000000 in
theorem sp_b_i (A : An) (op : Int) (a b : Vv) (ha : vok a) (hb : vok b) (hxa : (a.x.size : Int) ≤ 1048576) (hxb : (b.x.size : Int) ≤ 1048576) (o1 : 1 ≤ op) (o2 : op ≤ 11) (ka : a.k = 2) (kb : b.k = 2) (HV : (∀ w, Calls Tryz.prog 18 #[.int .i64 op, .int .i64 a.m, .int .i64 b.m] w fun e w' => (∃ c u, e = .returned (va c u) ∧ A.is c u) ∧ Grown w w')) (w : World) : Calls Tryz.prog 5 #[.int .i64 op, vv a, vv b] w fun e w' => (∃ c u, e = .returned (va c u) ∧ A.is c u) ∧ Kq w w' := by
  have OA := fun w => sp_ok a hxa w
  rw [dc_t ha] at OA
  have OB := fun w => sp_ok b hxb w
  rw [dc_t hb] at OB
  have h1 : ¬ op < 1 := by omega
  have h18 : ¬ 18 < op := by omega
  have q12 : (op == 12) = false := by simp; omega
  have q13 : (op == 13) = false := by simp; omega
  have q14 : (op == 14) = false := by simp; omega
  have h15 : ¬ 15 ≤ op := by omega
  obtain ⟨k, m, g, x, r⟩ := a
  obtain ⟨l, n, h, y, s⟩ := b
  unfold vv at *
  try unfold va at *
  try dsimp only at *
  clear ha hb hxa hxb
  subst ka kb
  have hst : ∀ (a : Addr) (n : Nat) (m : Mode) (w : World), (store a (.float .f64 n) m).run Tryz.prog w = stored Tryz.prog w a (.float .f64 n) m := fun a n m w => run_store _ _ _ _ _ rfl
  go_enter Tryz.func5, Tryz.ntmps5
  go_wp2_with fail
  refine (OA _).mono ?_
  rintro e w1 ⟨rfl, g1⟩
  have S1 : Hid (Bw w w1 w.heap.size ⟨2, m, g, x, r⟩ ⟨2, n, h, y, s⟩) := Bw.step (Bw.new w _ _ _ _ _ _ _ _ _ _ _ _) (.of_grown g1)
  clear g1
  obtain ⟨_, ⟨c0, c1, c2, c3, c4⟩, ⟨d0, d1, d2, d3, d4⟩, ⟨r0, r1, r2, r3, r4, r5, rz⟩⟩ := (show Bw w w1 w.heap.size ⟨2, m, g, x, r⟩ ⟨2, n, h, y, s⟩ from S1)
  go_wp2_with fail
  refine (OB _).mono ?_
  rintro e w2 ⟨rfl, g2⟩
  have S2 : Hid (Bw w w2 w.heap.size ⟨2, m, g, x, r⟩ ⟨2, n, h, y, s⟩) := Bw.step S1 (.of_grown g2)
  clear g2 S1 c0 c1 c2 c3 c4 d0 d1 d2 d3 d4 r0 r1 r2 r3 r4 r5 rz
  obtain ⟨_, ⟨c0, c1, c2, c3, c4⟩, ⟨d0, d1, d2, d3, d4⟩, ⟨r0, r1, r2, r3, r4, r5, rz⟩⟩ := (show Bw w w2 w.heap.size ⟨2, m, g, x, r⟩ ⟨2, n, h, y, s⟩ from S2)
  go_wp2_with fail
  refine (HV _).mono ?_
  rintro e w3 ⟨⟨c, ⟨uk, um, ug, ux, ur⟩, rfl, hu⟩, g3⟩
  dsimp only
  have HU : Hid (A.is c ⟨uk, um, ug, ux, ur⟩) := hu
  clear hu
  have S3 : Hid (Bw w w3 w.heap.size ⟨2, m, g, x, r⟩ ⟨2, n, h, y, s⟩) := Bw.step S2 (.of_grown g3)
  clear g3 S2 c0 c1 c2 c3 c4 d0 d1 d2 d3 d4 r0 r1 r2 r3 r4 r5 rz
  obtain ⟨_, ⟨c0, c1, c2, c3, c4⟩, ⟨d0, d1, d2, d3, d4⟩, ⟨r0, r1, r2, r3, r4, r5, rz⟩⟩ := (show Bw w w3 w.heap.size ⟨2, m, g, x, r⟩ ⟨2, n, h, y, s⟩ from S3)
  go_wp2_with fail
  obtain ⟨e0, e1, e2, e3, e4, e5⟩ := rv_set' (show Bw w w3 w.heap.size ⟨2, m, g, x, r⟩ ⟨2, n, h, y, s⟩ from S3).r c uk um ug ux ur
  have GF : Hid (Kq w (s6 w3 (w.heap.size + 2) c uk um ug ux ur)) := s6_kq (show Bw w w3 w.heap.size ⟨2, m, g, x, r⟩ ⟨2, n, h, y, s⟩ from S3).kq (by omega) c uk um ug ux ur
  obtain ⟨WF, hWF⟩ : ∃ WF, WF = s6 w3 (w.heap.size + 2) c uk um ug ux ur := ⟨_, rfl⟩
  rw [← hWF] at e0 e1 e2 e3 e4 e5 GF
  have hWF' := hWF
  unfold s6 at hWF'
  rw [← hWF']
  clear hWF hWF'
  refine bodyPost_ret (by simp [results, Tryz.results5, go_sem, e0, e1, e2, e3, e4, e5]; rfl) rfl ?_
  exact ⟨⟨c, ⟨uk, um, ug, ux, ur⟩, rfl, HU⟩, GF⟩
set_option maxHeartbeats 4000000 in
theorem sp_b_na (op : Int) (a b : Vv) (ha : vok a) (hb : vok b) (hxa : (a.x.size : Int) ≤ 1048576) (hxb : (b.x.size : Int) ≤ 1048576) (o1 : 1 ≤ op) (o2 : op ≤ 11) (na : ¬ nmb a) (w : World) : Calls Tryz.prog 5 #[.int .i64 op, vv a, vv b] w fun e w' => e = .returned (va 1 ⟨0, 0, 0, ⟨#[]⟩, 0⟩) ∧ Kq w w' := by
  have OA := fun w => sp_ok a hxa w
  rw [dc_t ha] at OA
  have OB := fun w => sp_ok b hxb w
  rw [dc_t hb] at OB
  have h1 : ¬ op < 1 := by omega
  have h18 : ¬ 18 < op := by omega
  have q12 : (op == 12) = false := by simp; omega
  have q13 : (op == 13) = false := by simp; omega
  have q14 : (op == 14) = false := by simp; omega
  have h15 : ¬ 15 ≤ op := by omega
  have HF := fun w => sp_fail 1 w
  have NA := fun w => sp_num a w
  rw [dc_f na] at NA
  have nk : ¬ (a.k = 2 ∧ b.k = 2) := fun h => na (.inl h.1)
  have ka : ¬ a.k = 2 := fun h => na (.inl h)
  obtain ⟨k, m, g, x, r⟩ := a
  obtain ⟨l, n, h, y, s⟩ := b
  unfold vv at *
  try unfold va at *
  try dsimp only at *
  clear ha hb hxa hxb na nk
  have hst : ∀ (a : Addr) (n : Nat) (m : Mode) (w : World), (store a (.float .f64 n) m).run Tryz.prog w = stored Tryz.prog w a (.float .f64 n) m := fun a n m w => run_store _ _ _ _ _ rfl
  go_enter Tryz.func5, Tryz.ntmps5
  go_wp2_with fail
  refine (OA _).mono ?_
  rintro e w1 ⟨rfl, g1⟩
  have S1 : Hid (Bw w w1 w.heap.size ⟨k, m, g, x, r⟩ ⟨l, n, h, y, s⟩) := Bw.step (Bw.new w _ _ _ _ _ _ _ _ _ _ _ _) (.of_grown g1)
  clear g1
  obtain ⟨_, ⟨c0, c1, c2, c3, c4⟩, ⟨d0, d1, d2, d3, d4⟩, ⟨r0, r1, r2, r3, r4, r5, rz⟩⟩ := (show Bw w w1 w.heap.size ⟨k, m, g, x, r⟩ ⟨l, n, h, y, s⟩ from S1)
  go_wp2_with fail
  refine (OB _).mono ?_
  rintro e w2 ⟨rfl, g2⟩
  have S2 : Hid (Bw w w2 w.heap.size ⟨k, m, g, x, r⟩ ⟨l, n, h, y, s⟩) := Bw.step S1 (.of_grown g2)
  clear g2 S1 c0 c1 c2 c3 c4 d0 d1 d2 d3 d4 r0 r1 r2 r3 r4 r5 rz
  obtain ⟨_, ⟨c0, c1, c2, c3, c4⟩, ⟨d0, d1, d2, d3, d4⟩, ⟨r0, r1, r2, r3, r4, r5, rz⟩⟩ := (show Bw w w2 w.heap.size ⟨k, m, g, x, r⟩ ⟨l, n, h, y, s⟩ from S2)
  go_wp2_with fail
  refine (NA _).mono ?_
  rintro e w3 ⟨rfl, g3⟩
  have S3 : Hid (Bw w w3 w.heap.size ⟨k, m, g, x, r⟩ ⟨l, n, h, y, s⟩) := Bw.step S2 (.of_grown g3)
  clear g3 S2 c0 c1 c2 c3 c4 d0 d1 d2 d3 d4 r0 r1 r2 r3 r4 r5 rz
  obtain ⟨_, ⟨c0, c1, c2, c3, c4⟩, ⟨d0, d1, d2, d3, d4⟩, ⟨r0, r1, r2, r3, r4, r5, rz⟩⟩ := (show Bw w w3 w.heap.size ⟨k, m, g, x, r⟩ ⟨l, n, h, y, s⟩ from S3)
  go_wp2_with fail
  refine (HF _).mono ?_
  rintro e w4 ⟨rfl, g4⟩
  have S4 : Hid (Bw w w4 w.heap.size ⟨k, m, g, x, r⟩ ⟨l, n, h, y, s⟩) := Bw.step S3 (.of_grown g4)
  clear g4 S3 c0 c1 c2 c3 c4 d0 d1 d2 d3 d4 r0 r1 r2 r3 r4 r5 rz
  obtain ⟨_, ⟨c0, c1, c2, c3, c4⟩, ⟨d0, d1, d2, d3, d4⟩, ⟨r0, r1, r2, r3, r4, r5, rz⟩⟩ := (show Bw w w4 w.heap.size ⟨k, m, g, x, r⟩ ⟨l, n, h, y, s⟩ from S4)
  go_wp2_with fail
  obtain ⟨e0, e1, e2, e3, e4, e5⟩ := rv_set' (show Bw w w4 w.heap.size ⟨k, m, g, x, r⟩ ⟨l, n, h, y, s⟩ from S4).r 1 0 0 0 ⟨#[]⟩ 0
  have GF : Hid (Kq w (s6 w4 (w.heap.size + 2) 1 0 0 0 ⟨#[]⟩ 0)) := s6_kq (show Bw w w4 w.heap.size ⟨k, m, g, x, r⟩ ⟨l, n, h, y, s⟩ from S4).kq (by omega) 1 0 0 0 ⟨#[]⟩ 0
  obtain ⟨WF, hWF⟩ : ∃ WF, WF = s6 w4 (w.heap.size + 2) 1 0 0 0 ⟨#[]⟩ 0 := ⟨_, rfl⟩
  rw [← hWF] at e0 e1 e2 e3 e4 e5 GF
  have hWF' := hWF
  unfold s6 at hWF'
  rw [← hWF']
  clear hWF hWF'
  refine bodyPost_ret (by simp [results, Tryz.results5, go_sem, e0, e1, e2, e3, e4, e5]; rfl) rfl ?_
  exact ⟨rfl, GF⟩
set_option maxHeartbeats 4000000 in
theorem sp_b_nb2 (op : Int) (a b : Vv) (ha : vok a) (hb : vok b) (hxa : (a.x.size : Int) ≤ 1048576) (hxb : (b.x.size : Int) ≤ 1048576) (o1 : 1 ≤ op) (o2 : op ≤ 11) (na : nmb a) (nb : ¬ nmb b) (ka : a.k = 2) (w : World) : Calls Tryz.prog 5 #[.int .i64 op, vv a, vv b] w fun e w' => e = .returned (va 1 ⟨0, 0, 0, ⟨#[]⟩, 0⟩) ∧ Kq w w' := by
  have OA := fun w => sp_ok a hxa w
  rw [dc_t ha] at OA
  have OB := fun w => sp_ok b hxb w
  rw [dc_t hb] at OB
  have h1 : ¬ op < 1 := by omega
  have h18 : ¬ 18 < op := by omega
  have q12 : (op == 12) = false := by simp; omega
  have q13 : (op == 13) = false := by simp; omega
  have q14 : (op == 14) = false := by simp; omega
  have h15 : ¬ 15 ≤ op := by omega
  have HF := fun w => sp_fail 1 w
  have NA := fun w => sp_num a w
  rw [dc_t na] at NA
  have NB := fun w => sp_num b w
  rw [dc_f nb] at NB
  have nk : ¬ (a.k = 2 ∧ b.k = 2) := fun h => nb (.inl h.2)
  have kb : ¬ b.k = 2 := fun h => nb (.inl h)
  obtain ⟨k, m, g, x, r⟩ := a
  obtain ⟨l, n, h, y, s⟩ := b
  unfold vv at *
  try unfold va at *
  try dsimp only at *
  clear ha hb hxa hxb na nb nk
  subst ka
  have hst : ∀ (a : Addr) (n : Nat) (m : Mode) (w : World), (store a (.float .f64 n) m).run Tryz.prog w = stored Tryz.prog w a (.float .f64 n) m := fun a n m w => run_store _ _ _ _ _ rfl
  go_enter Tryz.func5, Tryz.ntmps5
  go_wp2_with fail
  refine (OA _).mono ?_
  rintro e w1 ⟨rfl, g1⟩
  have S1 : Hid (Bw w w1 w.heap.size ⟨2, m, g, x, r⟩ ⟨l, n, h, y, s⟩) := Bw.step (Bw.new w _ _ _ _ _ _ _ _ _ _ _ _) (.of_grown g1)
  clear g1
  obtain ⟨_, ⟨c0, c1, c2, c3, c4⟩, ⟨d0, d1, d2, d3, d4⟩, ⟨r0, r1, r2, r3, r4, r5, rz⟩⟩ := (show Bw w w1 w.heap.size ⟨2, m, g, x, r⟩ ⟨l, n, h, y, s⟩ from S1)
  go_wp2_with fail
  refine (OB _).mono ?_
  rintro e w2 ⟨rfl, g2⟩
  have S2 : Hid (Bw w w2 w.heap.size ⟨2, m, g, x, r⟩ ⟨l, n, h, y, s⟩) := Bw.step S1 (.of_grown g2)
  clear g2 S1 c0 c1 c2 c3 c4 d0 d1 d2 d3 d4 r0 r1 r2 r3 r4 r5 rz
  obtain ⟨_, ⟨c0, c1, c2, c3, c4⟩, ⟨d0, d1, d2, d3, d4⟩, ⟨r0, r1, r2, r3, r4, r5, rz⟩⟩ := (show Bw w w2 w.heap.size ⟨2, m, g, x, r⟩ ⟨l, n, h, y, s⟩ from S2)
  go_wp2_with fail
  refine (NA _).mono ?_
  rintro e w3 ⟨rfl, g3⟩
  have S3 : Hid (Bw w w3 w.heap.size ⟨2, m, g, x, r⟩ ⟨l, n, h, y, s⟩) := Bw.step S2 (.of_grown g3)
  clear g3 S2 c0 c1 c2 c3 c4 d0 d1 d2 d3 d4 r0 r1 r2 r3 r4 r5 rz
  obtain ⟨_, ⟨c0, c1, c2, c3, c4⟩, ⟨d0, d1, d2, d3, d4⟩, ⟨r0, r1, r2, r3, r4, r5, rz⟩⟩ := (show Bw w w3 w.heap.size ⟨2, m, g, x, r⟩ ⟨l, n, h, y, s⟩ from S3)
  go_wp2_with fail
  refine (NB _).mono ?_
  rintro e w4 ⟨rfl, g4⟩
  have S4 : Hid (Bw w w4 w.heap.size ⟨2, m, g, x, r⟩ ⟨l, n, h, y, s⟩) := Bw.step S3 (.of_grown g4)
  clear g4 S3 c0 c1 c2 c3 c4 d0 d1 d2 d3 d4 r0 r1 r2 r3 r4 r5 rz
  obtain ⟨_, ⟨c0, c1, c2, c3, c4⟩, ⟨d0, d1, d2, d3, d4⟩, ⟨r0, r1, r2, r3, r4, r5, rz⟩⟩ := (show Bw w w4 w.heap.size ⟨2, m, g, x, r⟩ ⟨l, n, h, y, s⟩ from S4)
  go_wp2_with fail
  refine (HF _).mono ?_
  rintro e w5 ⟨rfl, g5⟩
  have S5 : Hid (Bw w w5 w.heap.size ⟨2, m, g, x, r⟩ ⟨l, n, h, y, s⟩) := Bw.step S4 (.of_grown g5)
  clear g5 S4 c0 c1 c2 c3 c4 d0 d1 d2 d3 d4 r0 r1 r2 r3 r4 r5 rz
  obtain ⟨_, ⟨c0, c1, c2, c3, c4⟩, ⟨d0, d1, d2, d3, d4⟩, ⟨r0, r1, r2, r3, r4, r5, rz⟩⟩ := (show Bw w w5 w.heap.size ⟨2, m, g, x, r⟩ ⟨l, n, h, y, s⟩ from S5)
  go_wp2_with fail
  obtain ⟨e0, e1, e2, e3, e4, e5⟩ := rv_set' (show Bw w w5 w.heap.size ⟨2, m, g, x, r⟩ ⟨l, n, h, y, s⟩ from S5).r 1 0 0 0 ⟨#[]⟩ 0
  have GF : Hid (Kq w (s6 w5 (w.heap.size + 2) 1 0 0 0 ⟨#[]⟩ 0)) := s6_kq (show Bw w w5 w.heap.size ⟨2, m, g, x, r⟩ ⟨l, n, h, y, s⟩ from S5).kq (by omega) 1 0 0 0 ⟨#[]⟩ 0
  obtain ⟨WF, hWF⟩ : ∃ WF, WF = s6 w5 (w.heap.size + 2) 1 0 0 0 ⟨#[]⟩ 0 := ⟨_, rfl⟩
  rw [← hWF] at e0 e1 e2 e3 e4 e5 GF
  have hWF' := hWF
  unfold s6 at hWF'
  rw [← hWF']
  clear hWF hWF'
  refine bodyPost_ret (by simp [results, Tryz.results5, go_sem, e0, e1, e2, e3, e4, e5]; rfl) rfl ?_
  exact ⟨rfl, GF⟩
set_option maxHeartbeats 4000000 in
theorem sp_b_nb3 (op : Int) (a b : Vv) (ha : vok a) (hb : vok b) (hxa : (a.x.size : Int) ≤ 1048576) (hxb : (b.x.size : Int) ≤ 1048576) (o1 : 1 ≤ op) (o2 : op ≤ 11) (na : nmb a) (nb : ¬ nmb b) (ka : ¬ a.k = 2) (w : World) : Calls Tryz.prog 5 #[.int .i64 op, vv a, vv b] w fun e w' => e = .returned (va 1 ⟨0, 0, 0, ⟨#[]⟩, 0⟩) ∧ Kq w w' := by
  have OA := fun w => sp_ok a hxa w
  rw [dc_t ha] at OA
  have OB := fun w => sp_ok b hxb w
  rw [dc_t hb] at OB
  have h1 : ¬ op < 1 := by omega
  have h18 : ¬ 18 < op := by omega
  have q12 : (op == 12) = false := by simp; omega
  have q13 : (op == 13) = false := by simp; omega
  have q14 : (op == 14) = false := by simp; omega
  have h15 : ¬ 15 ≤ op := by omega
  have HF := fun w => sp_fail 1 w
  have NA := fun w => sp_num a w
  rw [dc_t na] at NA
  have NB := fun w => sp_num b w
  rw [dc_f nb] at NB
  have nk : ¬ (a.k = 2 ∧ b.k = 2) := fun h => nb (.inl h.2)
  have kb : ¬ b.k = 2 := fun h => nb (.inl h)
  obtain ⟨k, m, g, x, r⟩ := a
  obtain ⟨l, n, h, y, s⟩ := b
  unfold vv at *
  try unfold va at *
  try dsimp only at *
  clear ha hb hxa hxb na nb nk
  have hst : ∀ (a : Addr) (n : Nat) (m : Mode) (w : World), (store a (.float .f64 n) m).run Tryz.prog w = stored Tryz.prog w a (.float .f64 n) m := fun a n m w => run_store _ _ _ _ _ rfl
  go_enter Tryz.func5, Tryz.ntmps5
  go_wp2_with fail
  refine (OA _).mono ?_
  rintro e w1 ⟨rfl, g1⟩
  have S1 : Hid (Bw w w1 w.heap.size ⟨k, m, g, x, r⟩ ⟨l, n, h, y, s⟩) := Bw.step (Bw.new w _ _ _ _ _ _ _ _ _ _ _ _) (.of_grown g1)
  clear g1
  obtain ⟨_, ⟨c0, c1, c2, c3, c4⟩, ⟨d0, d1, d2, d3, d4⟩, ⟨r0, r1, r2, r3, r4, r5, rz⟩⟩ := (show Bw w w1 w.heap.size ⟨k, m, g, x, r⟩ ⟨l, n, h, y, s⟩ from S1)
  go_wp2_with fail
  refine (OB _).mono ?_
  rintro e w2 ⟨rfl, g2⟩
  have S2 : Hid (Bw w w2 w.heap.size ⟨k, m, g, x, r⟩ ⟨l, n, h, y, s⟩) := Bw.step S1 (.of_grown g2)
  clear g2 S1 c0 c1 c2 c3 c4 d0 d1 d2 d3 d4 r0 r1 r2 r3 r4 r5 rz
  obtain ⟨_, ⟨c0, c1, c2, c3, c4⟩, ⟨d0, d1, d2, d3, d4⟩, ⟨r0, r1, r2, r3, r4, r5, rz⟩⟩ := (show Bw w w2 w.heap.size ⟨k, m, g, x, r⟩ ⟨l, n, h, y, s⟩ from S2)
  go_wp2_with fail
  refine (NA _).mono ?_
  rintro e w3 ⟨rfl, g3⟩
  have S3 : Hid (Bw w w3 w.heap.size ⟨k, m, g, x, r⟩ ⟨l, n, h, y, s⟩) := Bw.step S2 (.of_grown g3)
  clear g3 S2 c0 c1 c2 c3 c4 d0 d1 d2 d3 d4 r0 r1 r2 r3 r4 r5 rz
  obtain ⟨_, ⟨c0, c1, c2, c3, c4⟩, ⟨d0, d1, d2, d3, d4⟩, ⟨r0, r1, r2, r3, r4, r5, rz⟩⟩ := (show Bw w w3 w.heap.size ⟨k, m, g, x, r⟩ ⟨l, n, h, y, s⟩ from S3)
  go_wp2_with fail
  refine (NB _).mono ?_
  rintro e w4 ⟨rfl, g4⟩
  have S4 : Hid (Bw w w4 w.heap.size ⟨k, m, g, x, r⟩ ⟨l, n, h, y, s⟩) := Bw.step S3 (.of_grown g4)
  clear g4 S3 c0 c1 c2 c3 c4 d0 d1 d2 d3 d4 r0 r1 r2 r3 r4 r5 rz
  obtain ⟨_, ⟨c0, c1, c2, c3, c4⟩, ⟨d0, d1, d2, d3, d4⟩, ⟨r0, r1, r2, r3, r4, r5, rz⟩⟩ := (show Bw w w4 w.heap.size ⟨k, m, g, x, r⟩ ⟨l, n, h, y, s⟩ from S4)
  go_wp2_with fail
  refine (HF _).mono ?_
  rintro e w5 ⟨rfl, g5⟩
  have S5 : Hid (Bw w w5 w.heap.size ⟨k, m, g, x, r⟩ ⟨l, n, h, y, s⟩) := Bw.step S4 (.of_grown g5)
  clear g5 S4 c0 c1 c2 c3 c4 d0 d1 d2 d3 d4 r0 r1 r2 r3 r4 r5 rz
  obtain ⟨_, ⟨c0, c1, c2, c3, c4⟩, ⟨d0, d1, d2, d3, d4⟩, ⟨r0, r1, r2, r3, r4, r5, rz⟩⟩ := (show Bw w w5 w.heap.size ⟨k, m, g, x, r⟩ ⟨l, n, h, y, s⟩ from S5)
  go_wp2_with fail
  obtain ⟨e0, e1, e2, e3, e4, e5⟩ := rv_set' (show Bw w w5 w.heap.size ⟨k, m, g, x, r⟩ ⟨l, n, h, y, s⟩ from S5).r 1 0 0 0 ⟨#[]⟩ 0
  have GF : Hid (Kq w (s6 w5 (w.heap.size + 2) 1 0 0 0 ⟨#[]⟩ 0)) := s6_kq (show Bw w w5 w.heap.size ⟨k, m, g, x, r⟩ ⟨l, n, h, y, s⟩ from S5).kq (by omega) 1 0 0 0 ⟨#[]⟩ 0
  obtain ⟨WF, hWF⟩ : ∃ WF, WF = s6 w5 (w.heap.size + 2) 1 0 0 0 ⟨#[]⟩ 0 := ⟨_, rfl⟩
  rw [← hWF] at e0 e1 e2 e3 e4 e5 GF
  have hWF' := hWF
  unfold s6 at hWF'
  rw [← hWF']
  clear hWF hWF'
  refine bodyPost_ret (by simp [results, Tryz.results5, go_sem, e0, e1, e2, e3, e4, e5]; rfl) rfl ?_
  exact ⟨rfl, GF⟩
set_option maxHeartbeats 4000000 in
theorem sp_b_fi (A : An) (op : Int) (a b : Vv) (ha : vok a) (hb : vok b) (hxa : (a.x.size : Int) ≤ 1048576) (hxb : (b.x.size : Int) ≤ 1048576) (o1 : 1 ≤ op) (o2 : op ≤ 11) (na : nmb a) (nb : nmb b) (nk : ¬ a.k = 2) (HV : (∀ w, Calls Tryz.prog 20 #[.int .i64 op, .float .f64 (af a), .float .f64 (af b)] w fun e w' => (∃ c u, e = .returned (va c u) ∧ A.is c u) ∧ Grown w w')) (w : World) : Calls Tryz.prog 5 #[.int .i64 op, vv a, vv b] w fun e w' => (∃ c u, e = .returned (va c u) ∧ A.is c u) ∧ Kq w w' := by
  have OA := fun w => sp_ok a hxa w
  rw [dc_t ha] at OA
  have OB := fun w => sp_ok b hxb w
  rw [dc_t hb] at OB
  have h1 : ¬ op < 1 := by omega
  have h18 : ¬ 18 < op := by omega
  have q12 : (op == 12) = false := by simp; omega
  have q13 : (op == 13) = false := by simp; omega
  have q14 : (op == 14) = false := by simp; omega
  have h15 : ¬ 15 ≤ op := by omega
  have NA := fun w => sp_num a w
  rw [dc_t na] at NA
  have NB := fun w => sp_num b w
  rw [dc_t nb] at NB
  have HAA := fun w => sp_as a w
  have HAB := fun w => sp_as b w
  generalize af a = fa at *
  generalize af b = fb at *
  obtain ⟨k, m, g, x, r⟩ := a
  obtain ⟨l, n, h, y, s⟩ := b
  unfold vv at *
  try unfold va at *
  try dsimp only at *
  clear ha hb hxa hxb na nb
  have hst : ∀ (a : Addr) (n : Nat) (m : Mode) (w : World), (store a (.float .f64 n) m).run Tryz.prog w = stored Tryz.prog w a (.float .f64 n) m := fun a n m w => run_store _ _ _ _ _ rfl
  go_enter Tryz.func5, Tryz.ntmps5
  go_wp2_with fail
  refine (OA _).mono ?_
  rintro e w1 ⟨rfl, g1⟩
  have S1 : Hid (Bw w w1 w.heap.size ⟨k, m, g, x, r⟩ ⟨l, n, h, y, s⟩) := Bw.step (Bw.new w _ _ _ _ _ _ _ _ _ _ _ _) (.of_grown g1)
  clear g1
  obtain ⟨_, ⟨c0, c1, c2, c3, c4⟩, ⟨d0, d1, d2, d3, d4⟩, ⟨r0, r1, r2, r3, r4, r5, rz⟩⟩ := (show Bw w w1 w.heap.size ⟨k, m, g, x, r⟩ ⟨l, n, h, y, s⟩ from S1)
  go_wp2_with fail
  refine (OB _).mono ?_
  rintro e w2 ⟨rfl, g2⟩
  have S2 : Hid (Bw w w2 w.heap.size ⟨k, m, g, x, r⟩ ⟨l, n, h, y, s⟩) := Bw.step S1 (.of_grown g2)
  clear g2 S1 c0 c1 c2 c3 c4 d0 d1 d2 d3 d4 r0 r1 r2 r3 r4 r5 rz
  obtain ⟨_, ⟨c0, c1, c2, c3, c4⟩, ⟨d0, d1, d2, d3, d4⟩, ⟨r0, r1, r2, r3, r4, r5, rz⟩⟩ := (show Bw w w2 w.heap.size ⟨k, m, g, x, r⟩ ⟨l, n, h, y, s⟩ from S2)
  go_wp2_with fail
  refine (NA _).mono ?_
  rintro e w3 ⟨rfl, g3⟩
  have S3 : Hid (Bw w w3 w.heap.size ⟨k, m, g, x, r⟩ ⟨l, n, h, y, s⟩) := Bw.step S2 (.of_grown g3)
  clear g3 S2 c0 c1 c2 c3 c4 d0 d1 d2 d3 d4 r0 r1 r2 r3 r4 r5 rz
  obtain ⟨_, ⟨c0, c1, c2, c3, c4⟩, ⟨d0, d1, d2, d3, d4⟩, ⟨r0, r1, r2, r3, r4, r5, rz⟩⟩ := (show Bw w w3 w.heap.size ⟨k, m, g, x, r⟩ ⟨l, n, h, y, s⟩ from S3)
  go_wp2_with fail
  refine (NB _).mono ?_
  rintro e w4 ⟨rfl, g4⟩
  have S4 : Hid (Bw w w4 w.heap.size ⟨k, m, g, x, r⟩ ⟨l, n, h, y, s⟩) := Bw.step S3 (.of_grown g4)
  clear g4 S3 c0 c1 c2 c3 c4 d0 d1 d2 d3 d4 r0 r1 r2 r3 r4 r5 rz
  obtain ⟨_, ⟨c0, c1, c2, c3, c4⟩, ⟨d0, d1, d2, d3, d4⟩, ⟨r0, r1, r2, r3, r4, r5, rz⟩⟩ := (show Bw w w4 w.heap.size ⟨k, m, g, x, r⟩ ⟨l, n, h, y, s⟩ from S4)
  go_wp2_with fail
  clear c0 c1 c2 c3 c4 d0 d1 d2 d3 d4 r0 r1 r2 r3 r4 r5 rz
  refine AnyL.region (S := (fun W' : World => Vc W' w.heap.size ⟨k, m, g, x, r⟩ ∧ Vc W' (w.heap.size + 1) ⟨l, n, h, y, s⟩)) (z := 6) (by kernel_rfl) ?_
  have SD : Hid (Bw w w4.drew w.heap.size ⟨k, m, g, x, r⟩ ⟨l, n, h, y, s⟩) := Bw.step S4 (Kq.drew (Kq.refl _))
  have hS0 : (fun W' : World => Vc W' w.heap.size ⟨k, m, g, x, r⟩ ∧ Vc W' (w.heap.size + 1) ⟨l, n, h, y, s⟩) w4.drew := ⟨(show Bw w w4.drew w.heap.size ⟨k, m, g, x, r⟩ ⟨l, n, h, y, s⟩ from SD).a, (show Bw w w4.drew w.heap.size ⟨k, m, g, x, r⟩ ⟨l, n, h, y, s⟩ from SD).b⟩
  clear S4
  refine AnyL.takeAt 0 (.int .i64 op) rfl (by kernel_rfl) (by kernel_rfl) (by kernel_rfl) (by kernel_rfl) (fun _ _ _ h => h) rfl hS0 (by intro W hW; obtain ⟨⟨q0, q1, q2, q3, q4⟩, ⟨p0, p1, p2, p3, p4⟩⟩ := hW; go_simp) ?_
  try simp only [Act.put, List.setIfInBounds_toArray, List.set_cons_zero, List.set_cons_succ]
  refine AnyL.takeAt 1 (.agg #[.int .i64 k, .int .i64 m, .float .f64 g, .string x, .int .i64 r]) rfl (by kernel_rfl) (by kernel_rfl) (by kernel_rfl) (by kernel_rfl) (fun _ _ _ h => h) rfl hS0 (by intro W hW; obtain ⟨⟨q0, q1, q2, q3, q4⟩, ⟨p0, p1, p2, p3, p4⟩⟩ := hW; go_simp) ?_
  try simp only [Act.put, List.setIfInBounds_toArray, List.set_cons_zero, List.set_cons_succ]
  refine AnyL.takeAt 3 (.agg #[.int .i64 l, .int .i64 n, .float .f64 h, .string y, .int .i64 s]) rfl (by kernel_rfl) (by kernel_rfl) (by kernel_rfl) (by kernel_rfl) (fun _ _ _ h => h) rfl hS0 (by intro W hW; obtain ⟨⟨q0, q1, q2, q3, q4⟩, ⟨p0, p1, p2, p3, p4⟩⟩ := hW; go_simp) ?_
  try simp only [Act.put, List.setIfInBounds_toArray, List.set_cons_zero, List.set_cons_succ]
  clear hS0
  refine AnyL.oneAt 2 rfl (by kernel_rfl) rfl ?_
  intro K hK
  go_simp
  refine (HAA _).mono ?_
  rintro e w5 ⟨rfl, g5⟩
  have S5 : Hid (Bw w w5 w.heap.size ⟨k, m, g, x, r⟩ ⟨l, n, h, y, s⟩) := Bw.step SD (.of_grown g5)
  clear g5 SD
  refine hK.out _ _ (fun _ => ⟨(show Bw w w5 w.heap.size ⟨k, m, g, x, r⟩ ⟨l, n, h, y, s⟩ from S5).a, (show Bw w w5 w.heap.size ⟨k, m, g, x, r⟩ ⟨l, n, h, y, s⟩ from S5).b⟩) ?_
  clear hK K
  try simp only [Act.put, List.setIfInBounds_toArray, List.set_cons_zero, List.set_cons_succ]
  refine AnyL.oneAt 4 rfl (by kernel_rfl) rfl ?_
  intro K hK
  go_simp
  refine (HAB _).mono ?_
  rintro e w6 ⟨rfl, g6⟩
  have S6 : Hid (Bw w w6 w.heap.size ⟨k, m, g, x, r⟩ ⟨l, n, h, y, s⟩) := Bw.step S5 (.of_grown g6)
  clear g6 S5
  refine hK.out _ _ (fun _ => ⟨(show Bw w w6 w.heap.size ⟨k, m, g, x, r⟩ ⟨l, n, h, y, s⟩ from S6).a, (show Bw w w6 w.heap.size ⟨k, m, g, x, r⟩ ⟨l, n, h, y, s⟩ from S6).b⟩) ?_
  clear hK K
  try simp only [Act.put, List.setIfInBounds_toArray, List.set_cons_zero, List.set_cons_succ]
  refine AnyL.oneAt 5 rfl (by kernel_rfl) rfl ?_
  intro K hK
  go_simp
  refine (HV _).mono ?_
  rintro e w7 ⟨⟨c, ⟨uk, um, ug, ux, ur⟩, rfl, hu⟩, g7⟩
  dsimp only
  have HU : Hid (A.is c ⟨uk, um, ug, ux, ur⟩) := hu
  clear hu
  have S7 : Hid (Bw w w7 w.heap.size ⟨k, m, g, x, r⟩ ⟨l, n, h, y, s⟩) := Bw.step S6 (.of_grown g7)
  clear g7 S6
  refine hK.out _ _ (fun _ => ⟨(show Bw w w7 w.heap.size ⟨k, m, g, x, r⟩ ⟨l, n, h, y, s⟩ from S7).a, (show Bw w w7 w.heap.size ⟨k, m, g, x, r⟩ ⟨l, n, h, y, s⟩ from S7).b⟩) ?_
  clear hK K
  try simp only [Act.put, List.setIfInBounds_toArray, List.set_cons_zero, List.set_cons_succ]
  obtain ⟨_, ⟨c0, c1, c2, c3, c4⟩, ⟨d0, d1, d2, d3, d4⟩, ⟨r0, r1, r2, r3, r4, r5, rz⟩⟩ := (show Bw w w7 w.heap.size ⟨k, m, g, x, r⟩ ⟨l, n, h, y, s⟩ from S7)
  refine AnyL.oneAt 6 rfl (by kernel_rfl) rfl ?_
  intro K hK
  go_simp
  refine hK.out _ _ (fun h => absurd rfl h) ?_
  clear hK K
  try simp only [Act.put, List.setIfInBounds_toArray, List.set_cons_zero, List.set_cons_succ]
  refine AnyL.done (by kernel_rfl) ?_
  go_wp2_with fail
  obtain ⟨e0, e1, e2, e3, e4, e5⟩ := rv_set' (show Bw w w7 w.heap.size ⟨k, m, g, x, r⟩ ⟨l, n, h, y, s⟩ from S7).r c uk um ug ux ur
  have GF : Hid (Kq w (s6 w7 (w.heap.size + 2) c uk um ug ux ur)) := s6_kq (show Bw w w7 w.heap.size ⟨k, m, g, x, r⟩ ⟨l, n, h, y, s⟩ from S7).kq (by omega) c uk um ug ux ur
  obtain ⟨WF, hWF⟩ : ∃ WF, WF = s6 w7 (w.heap.size + 2) c uk um ug ux ur := ⟨_, rfl⟩
  rw [← hWF] at e0 e1 e2 e3 e4 e5 GF
  have hWF' := hWF
  unfold s6 at hWF'
  rw [← hWF']
  clear hWF hWF'
  refine bodyPost_ret (by simp [results, Tryz.results5, go_sem, e0, e1, e2, e3, e4, e5]; rfl) rfl ?_
  exact ⟨⟨c, ⟨uk, um, ug, ux, ur⟩, rfl, HU⟩, GF⟩
set_option maxHeartbeats 4000000 in
theorem sp_b_fj (A : An) (op : Int) (a b : Vv) (ha : vok a) (hb : vok b) (hxa : (a.x.size : Int) ≤ 1048576) (hxb : (b.x.size : Int) ≤ 1048576) (o1 : 1 ≤ op) (o2 : op ≤ 11) (na : nmb a) (nb : nmb b) (ka : a.k = 2) (nk : ¬ b.k = 2) (HV : (∀ w, Calls Tryz.prog 20 #[.int .i64 op, .float .f64 (af a), .float .f64 (af b)] w fun e w' => (∃ c u, e = .returned (va c u) ∧ A.is c u) ∧ Grown w w')) (w : World) : Calls Tryz.prog 5 #[.int .i64 op, vv a, vv b] w fun e w' => (∃ c u, e = .returned (va c u) ∧ A.is c u) ∧ Kq w w' := by
  have OA := fun w => sp_ok a hxa w
  rw [dc_t ha] at OA
  have OB := fun w => sp_ok b hxb w
  rw [dc_t hb] at OB
  have h1 : ¬ op < 1 := by omega
  have h18 : ¬ 18 < op := by omega
  have q12 : (op == 12) = false := by simp; omega
  have q13 : (op == 13) = false := by simp; omega
  have q14 : (op == 14) = false := by simp; omega
  have h15 : ¬ 15 ≤ op := by omega
  have NA := fun w => sp_num a w
  rw [dc_t na] at NA
  have NB := fun w => sp_num b w
  rw [dc_t nb] at NB
  have HAA := fun w => sp_as a w
  have HAB := fun w => sp_as b w
  generalize af a = fa at *
  generalize af b = fb at *
  obtain ⟨k, m, g, x, r⟩ := a
  obtain ⟨l, n, h, y, s⟩ := b
  unfold vv at *
  try unfold va at *
  try dsimp only at *
  clear ha hb hxa hxb na nb
  subst ka
  have hst : ∀ (a : Addr) (n : Nat) (m : Mode) (w : World), (store a (.float .f64 n) m).run Tryz.prog w = stored Tryz.prog w a (.float .f64 n) m := fun a n m w => run_store _ _ _ _ _ rfl
  go_enter Tryz.func5, Tryz.ntmps5
  go_wp2_with fail
  refine (OA _).mono ?_
  rintro e w1 ⟨rfl, g1⟩
  have S1 : Hid (Bw w w1 w.heap.size ⟨2, m, g, x, r⟩ ⟨l, n, h, y, s⟩) := Bw.step (Bw.new w _ _ _ _ _ _ _ _ _ _ _ _) (.of_grown g1)
  clear g1
  obtain ⟨_, ⟨c0, c1, c2, c3, c4⟩, ⟨d0, d1, d2, d3, d4⟩, ⟨r0, r1, r2, r3, r4, r5, rz⟩⟩ := (show Bw w w1 w.heap.size ⟨2, m, g, x, r⟩ ⟨l, n, h, y, s⟩ from S1)
  go_wp2_with fail
  refine (OB _).mono ?_
  rintro e w2 ⟨rfl, g2⟩
  have S2 : Hid (Bw w w2 w.heap.size ⟨2, m, g, x, r⟩ ⟨l, n, h, y, s⟩) := Bw.step S1 (.of_grown g2)
  clear g2 S1 c0 c1 c2 c3 c4 d0 d1 d2 d3 d4 r0 r1 r2 r3 r4 r5 rz
  obtain ⟨_, ⟨c0, c1, c2, c3, c4⟩, ⟨d0, d1, d2, d3, d4⟩, ⟨r0, r1, r2, r3, r4, r5, rz⟩⟩ := (show Bw w w2 w.heap.size ⟨2, m, g, x, r⟩ ⟨l, n, h, y, s⟩ from S2)
  go_wp2_with fail
  refine (NA _).mono ?_
  rintro e w3 ⟨rfl, g3⟩
  have S3 : Hid (Bw w w3 w.heap.size ⟨2, m, g, x, r⟩ ⟨l, n, h, y, s⟩) := Bw.step S2 (.of_grown g3)
  clear g3 S2 c0 c1 c2 c3 c4 d0 d1 d2 d3 d4 r0 r1 r2 r3 r4 r5 rz
  obtain ⟨_, ⟨c0, c1, c2, c3, c4⟩, ⟨d0, d1, d2, d3, d4⟩, ⟨r0, r1, r2, r3, r4, r5, rz⟩⟩ := (show Bw w w3 w.heap.size ⟨2, m, g, x, r⟩ ⟨l, n, h, y, s⟩ from S3)
  go_wp2_with fail
  refine (NB _).mono ?_
  rintro e w4 ⟨rfl, g4⟩
  have S4 : Hid (Bw w w4 w.heap.size ⟨2, m, g, x, r⟩ ⟨l, n, h, y, s⟩) := Bw.step S3 (.of_grown g4)
  clear g4 S3 c0 c1 c2 c3 c4 d0 d1 d2 d3 d4 r0 r1 r2 r3 r4 r5 rz
  obtain ⟨_, ⟨c0, c1, c2, c3, c4⟩, ⟨d0, d1, d2, d3, d4⟩, ⟨r0, r1, r2, r3, r4, r5, rz⟩⟩ := (show Bw w w4 w.heap.size ⟨2, m, g, x, r⟩ ⟨l, n, h, y, s⟩ from S4)
  go_wp2_with fail
  clear c0 c1 c2 c3 c4 d0 d1 d2 d3 d4 r0 r1 r2 r3 r4 r5 rz
  refine AnyL.region (S := (fun W' : World => Vc W' w.heap.size ⟨2, m, g, x, r⟩ ∧ Vc W' (w.heap.size + 1) ⟨l, n, h, y, s⟩)) (z := 6) (by kernel_rfl) ?_
  have SD : Hid (Bw w w4.drew w.heap.size ⟨2, m, g, x, r⟩ ⟨l, n, h, y, s⟩) := Bw.step S4 (Kq.drew (Kq.refl _))
  have hS0 : (fun W' : World => Vc W' w.heap.size ⟨2, m, g, x, r⟩ ∧ Vc W' (w.heap.size + 1) ⟨l, n, h, y, s⟩) w4.drew := ⟨(show Bw w w4.drew w.heap.size ⟨2, m, g, x, r⟩ ⟨l, n, h, y, s⟩ from SD).a, (show Bw w w4.drew w.heap.size ⟨2, m, g, x, r⟩ ⟨l, n, h, y, s⟩ from SD).b⟩
  clear S4
  refine AnyL.takeAt 0 (.int .i64 op) rfl (by kernel_rfl) (by kernel_rfl) (by kernel_rfl) (by kernel_rfl) (fun _ _ _ h => h) rfl hS0 (by intro W hW; obtain ⟨⟨q0, q1, q2, q3, q4⟩, ⟨p0, p1, p2, p3, p4⟩⟩ := hW; go_simp) ?_
  try simp only [Act.put, List.setIfInBounds_toArray, List.set_cons_zero, List.set_cons_succ]
  refine AnyL.takeAt 1 (.agg #[.int .i64 2, .int .i64 m, .float .f64 g, .string x, .int .i64 r]) rfl (by kernel_rfl) (by kernel_rfl) (by kernel_rfl) (by kernel_rfl) (fun _ _ _ h => h) rfl hS0 (by intro W hW; obtain ⟨⟨q0, q1, q2, q3, q4⟩, ⟨p0, p1, p2, p3, p4⟩⟩ := hW; go_simp) ?_
  try simp only [Act.put, List.setIfInBounds_toArray, List.set_cons_zero, List.set_cons_succ]
  refine AnyL.takeAt 3 (.agg #[.int .i64 l, .int .i64 n, .float .f64 h, .string y, .int .i64 s]) rfl (by kernel_rfl) (by kernel_rfl) (by kernel_rfl) (by kernel_rfl) (fun _ _ _ h => h) rfl hS0 (by intro W hW; obtain ⟨⟨q0, q1, q2, q3, q4⟩, ⟨p0, p1, p2, p3, p4⟩⟩ := hW; go_simp) ?_
  try simp only [Act.put, List.setIfInBounds_toArray, List.set_cons_zero, List.set_cons_succ]
  clear hS0
  refine AnyL.oneAt 2 rfl (by kernel_rfl) rfl ?_
  intro K hK
  go_simp
  refine (HAA _).mono ?_
  rintro e w5 ⟨rfl, g5⟩
  have S5 : Hid (Bw w w5 w.heap.size ⟨2, m, g, x, r⟩ ⟨l, n, h, y, s⟩) := Bw.step SD (.of_grown g5)
  clear g5 SD
  refine hK.out _ _ (fun _ => ⟨(show Bw w w5 w.heap.size ⟨2, m, g, x, r⟩ ⟨l, n, h, y, s⟩ from S5).a, (show Bw w w5 w.heap.size ⟨2, m, g, x, r⟩ ⟨l, n, h, y, s⟩ from S5).b⟩) ?_
  clear hK K
  try simp only [Act.put, List.setIfInBounds_toArray, List.set_cons_zero, List.set_cons_succ]
  refine AnyL.oneAt 4 rfl (by kernel_rfl) rfl ?_
  intro K hK
  go_simp
  refine (HAB _).mono ?_
  rintro e w6 ⟨rfl, g6⟩
  have S6 : Hid (Bw w w6 w.heap.size ⟨2, m, g, x, r⟩ ⟨l, n, h, y, s⟩) := Bw.step S5 (.of_grown g6)
  clear g6 S5
  refine hK.out _ _ (fun _ => ⟨(show Bw w w6 w.heap.size ⟨2, m, g, x, r⟩ ⟨l, n, h, y, s⟩ from S6).a, (show Bw w w6 w.heap.size ⟨2, m, g, x, r⟩ ⟨l, n, h, y, s⟩ from S6).b⟩) ?_
  clear hK K
  try simp only [Act.put, List.setIfInBounds_toArray, List.set_cons_zero, List.set_cons_succ]
  refine AnyL.oneAt 5 rfl (by kernel_rfl) rfl ?_
  intro K hK
  go_simp
  refine (HV _).mono ?_
  rintro e w7 ⟨⟨c, ⟨uk, um, ug, ux, ur⟩, rfl, hu⟩, g7⟩
  dsimp only
  have HU : Hid (A.is c ⟨uk, um, ug, ux, ur⟩) := hu
  clear hu
  have S7 : Hid (Bw w w7 w.heap.size ⟨2, m, g, x, r⟩ ⟨l, n, h, y, s⟩) := Bw.step S6 (.of_grown g7)
  clear g7 S6
  refine hK.out _ _ (fun _ => ⟨(show Bw w w7 w.heap.size ⟨2, m, g, x, r⟩ ⟨l, n, h, y, s⟩ from S7).a, (show Bw w w7 w.heap.size ⟨2, m, g, x, r⟩ ⟨l, n, h, y, s⟩ from S7).b⟩) ?_
  clear hK K
  try simp only [Act.put, List.setIfInBounds_toArray, List.set_cons_zero, List.set_cons_succ]
  obtain ⟨_, ⟨c0, c1, c2, c3, c4⟩, ⟨d0, d1, d2, d3, d4⟩, ⟨r0, r1, r2, r3, r4, r5, rz⟩⟩ := (show Bw w w7 w.heap.size ⟨2, m, g, x, r⟩ ⟨l, n, h, y, s⟩ from S7)
  refine AnyL.oneAt 6 rfl (by kernel_rfl) rfl ?_
  intro K hK
  go_simp
  refine hK.out _ _ (fun h => absurd rfl h) ?_
  clear hK K
  try simp only [Act.put, List.setIfInBounds_toArray, List.set_cons_zero, List.set_cons_succ]
  refine AnyL.done (by kernel_rfl) ?_
  go_wp2_with fail
  obtain ⟨e0, e1, e2, e3, e4, e5⟩ := rv_set' (show Bw w w7 w.heap.size ⟨2, m, g, x, r⟩ ⟨l, n, h, y, s⟩ from S7).r c uk um ug ux ur
  have GF : Hid (Kq w (s6 w7 (w.heap.size + 2) c uk um ug ux ur)) := s6_kq (show Bw w w7 w.heap.size ⟨2, m, g, x, r⟩ ⟨l, n, h, y, s⟩ from S7).kq (by omega) c uk um ug ux ur
  obtain ⟨WF, hWF⟩ : ∃ WF, WF = s6 w7 (w.heap.size + 2) c uk um ug ux ur := ⟨_, rfl⟩
  rw [← hWF] at e0 e1 e2 e3 e4 e5 GF
  have hWF' := hWF
  unfold s6 at hWF'
  rw [← hWF']
  clear hWF hWF'
  refine bodyPost_ret (by simp [results, Tryz.results5, go_sem, e0, e1, e2, e3, e4, e5]; rfl) rfl ?_
  exact ⟨⟨c, ⟨uk, um, ug, ux, ur⟩, rfl, HU⟩, GF⟩
end Go.Proofs.YtladepgpandklaaGreatDoor
