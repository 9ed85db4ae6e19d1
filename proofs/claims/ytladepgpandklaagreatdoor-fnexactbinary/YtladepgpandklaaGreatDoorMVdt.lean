import Derived.Test.YtladepgpandklaaGreatDoorMReg
namespace Go.Proofs.YtladepgpandklaaGreatDoor
open Go.ChangeShapes Go.WideShapes Go.ChangeAt Go.RowKit
set_option linter.unusedVariables false
set_option maxRecDepth 100000
set_option maxHeartbeats 4000000 in
theorem im_b_a (op : Int) (a b : Vv) (ha : ¬ vok a) (hxa : (a.x.size : Int) ≤ 1048576) (hxb : (b.x.size : Int) ≤ 1048576) (w : World) : Calls Tryz.prog 7 #[.int .i64 op, vv a, vv b] w fun e w' => e = .returned (va 1 ⟨0, 0, 0, ⟨#[]⟩, 0⟩) ∧ Kq w w' := by
  have OA := fun w => im_ok a hxa w
  rw [dc_f ha] at OA
  have HF := fun w => im_fail 1 w
  obtain ⟨k, m, g, x, r⟩ := a
  obtain ⟨l, n, h, y, s⟩ := b
  unfold vv at *
  try unfold va at *
  try dsimp only at *
  clear ha hxa hxb
  have hst : ∀ (a : Addr) (n : Nat) (m : Mode) (w : World), (store a (.float .f64 n) m).run Tryz.prog w = stored Tryz.prog w a (.float .f64 n) m := fun a n m w => run_store _ _ _ _ _ rfl
  go_enter Tryz.func7, Tryz.ntmps7
  go_wp2_with fail
  refine (OA _).mono ?_
  rintro e w1 ⟨rfl, g1⟩
  have S1 : Hid (Bw w w1 w.heap.size ⟨k, m, g, x, r⟩ ⟨l, n, h, y, s⟩) := Bw.step (Bw.new w _ _ _ _ _ _ _ _ _ _ _ _) (.of_grown g1)
  clear g1
  obtain ⟨_, ⟨c0, c1, c2, c3, c4⟩, ⟨d0, d1, d2, d3, d4⟩, ⟨r0, r1, r2, r3, r4, r5, rz⟩⟩ := (show Bw w w1 w.heap.size ⟨k, m, g, x, r⟩ ⟨l, n, h, y, s⟩ from S1)
  go_wp2_with fail
  refine (HF _).mono ?_
  rintro e w2 ⟨rfl, g2⟩
  have S2 : Hid (Bw w w2 w.heap.size ⟨k, m, g, x, r⟩ ⟨l, n, h, y, s⟩) := Bw.step S1 (.of_grown g2)
  clear g2 S1 c0 c1 c2 c3 c4 d0 d1 d2 d3 d4 r0 r1 r2 r3 r4 r5 rz
  obtain ⟨_, ⟨c0, c1, c2, c3, c4⟩, ⟨d0, d1, d2, d3, d4⟩, ⟨r0, r1, r2, r3, r4, r5, rz⟩⟩ := (show Bw w w2 w.heap.size ⟨k, m, g, x, r⟩ ⟨l, n, h, y, s⟩ from S2)
  go_wp2_with fail
  obtain ⟨e0, e1, e2, e3, e4, e5⟩ := rv_set' (show Bw w w2 w.heap.size ⟨k, m, g, x, r⟩ ⟨l, n, h, y, s⟩ from S2).r 1 0 0 0 ⟨#[]⟩ 0
  have GF : Hid (Kq w (s6 w2 (w.heap.size + 2) 1 0 0 0 ⟨#[]⟩ 0)) := s6_kq (show Bw w w2 w.heap.size ⟨k, m, g, x, r⟩ ⟨l, n, h, y, s⟩ from S2).kq (by omega) 1 0 0 0 ⟨#[]⟩ 0
  obtain ⟨WF, hWF⟩ : ∃ WF, WF = s6 w2 (w.heap.size + 2) 1 0 0 0 ⟨#[]⟩ 0 := ⟨_, rfl⟩
  rw [← hWF] at e0 e1 e2 e3 e4 e5 GF
  have hWF' := hWF
  unfold s6 at hWF'
  rw [← hWF']
  clear hWF hWF'
  refine bodyPost_ret (by simp [results, Tryz.results7, go_sem, e0, e1, e2, e3, e4, e5]; rfl) rfl ?_
  exact ⟨rfl, GF⟩
set_option maxHeartbeats 4000000 in
theorem im_b_b (op : Int) (a b : Vv) (ha : vok a) (hb : ¬ vok b) (hxa : (a.x.size : Int) ≤ 1048576) (hxb : (b.x.size : Int) ≤ 1048576) (w : World) : Calls Tryz.prog 7 #[.int .i64 op, vv a, vv b] w fun e w' => e = .returned (va 1 ⟨0, 0, 0, ⟨#[]⟩, 0⟩) ∧ Kq w w' := by
  have OA := fun w => im_ok a hxa w
  rw [dc_t ha] at OA
  have OB := fun w => im_ok b hxb w
  rw [dc_f hb] at OB
  have HF := fun w => im_fail 1 w
  obtain ⟨k, m, g, x, r⟩ := a
  obtain ⟨l, n, h, y, s⟩ := b
  unfold vv at *
  try unfold va at *
  try dsimp only at *
  clear ha hb hxa hxb
  have hst : ∀ (a : Addr) (n : Nat) (m : Mode) (w : World), (store a (.float .f64 n) m).run Tryz.prog w = stored Tryz.prog w a (.float .f64 n) m := fun a n m w => run_store _ _ _ _ _ rfl
  go_enter Tryz.func7, Tryz.ntmps7
  go_wp2_with fail
  refine (OA _).mono ?_
  rintro e w1 ⟨rfl, g1⟩
  have S1 : Hid (Bw w w1 w.heap.size ⟨k, m, g, x, r⟩ ⟨l, n, h, y, s⟩) := Bw.step (Bw.new w _ _ _ _ _ _ _ _ _ _ _ _) (.of_grown g1)
  clear g1
  obtain ⟨_, ⟨c0, c1, c2, c3, c4⟩, ⟨d0, d1, d2, d3, d4⟩, ⟨r0, r1, r2, r3, r4, r5, rz⟩⟩ := (show Bw w w1 w.heap.size ⟨k, m, g, x, r⟩ ⟨l, n, h, y, s⟩ from S1)
  go_wp2_with fail
  refine (OB _).mono ?_
  rintro e w2 ⟨rfl, g2⟩
  have S2 : Hid (Bw w w2 w.heap.size ⟨k, m, g, x, r⟩ ⟨l, n, h, y, s⟩) := Bw.step S1 (.of_grown g2)
  clear g2 S1 c0 c1 c2 c3 c4 d0 d1 d2 d3 d4 r0 r1 r2 r3 r4 r5 rz
  obtain ⟨_, ⟨c0, c1, c2, c3, c4⟩, ⟨d0, d1, d2, d3, d4⟩, ⟨r0, r1, r2, r3, r4, r5, rz⟩⟩ := (show Bw w w2 w.heap.size ⟨k, m, g, x, r⟩ ⟨l, n, h, y, s⟩ from S2)
  go_wp2_with fail
  refine (HF _).mono ?_
  rintro e w3 ⟨rfl, g3⟩
  have S3 : Hid (Bw w w3 w.heap.size ⟨k, m, g, x, r⟩ ⟨l, n, h, y, s⟩) := Bw.step S2 (.of_grown g3)
  clear g3 S2 c0 c1 c2 c3 c4 d0 d1 d2 d3 d4 r0 r1 r2 r3 r4 r5 rz
  obtain ⟨_, ⟨c0, c1, c2, c3, c4⟩, ⟨d0, d1, d2, d3, d4⟩, ⟨r0, r1, r2, r3, r4, r5, rz⟩⟩ := (show Bw w w3 w.heap.size ⟨k, m, g, x, r⟩ ⟨l, n, h, y, s⟩ from S3)
  go_wp2_with fail
  obtain ⟨e0, e1, e2, e3, e4, e5⟩ := rv_set' (show Bw w w3 w.heap.size ⟨k, m, g, x, r⟩ ⟨l, n, h, y, s⟩ from S3).r 1 0 0 0 ⟨#[]⟩ 0
  have GF : Hid (Kq w (s6 w3 (w.heap.size + 2) 1 0 0 0 ⟨#[]⟩ 0)) := s6_kq (show Bw w w3 w.heap.size ⟨k, m, g, x, r⟩ ⟨l, n, h, y, s⟩ from S3).kq (by omega) 1 0 0 0 ⟨#[]⟩ 0
  obtain ⟨WF, hWF⟩ : ∃ WF, WF = s6 w3 (w.heap.size + 2) 1 0 0 0 ⟨#[]⟩ 0 := ⟨_, rfl⟩
  rw [← hWF] at e0 e1 e2 e3 e4 e5 GF
  have hWF' := hWF
  unfold s6 at hWF'
  rw [← hWF']
  clear hWF hWF'
  refine bodyPost_ret (by simp [results, Tryz.results7, go_sem, e0, e1, e2, e3, e4, e5]; rfl) rfl ?_
  exact ⟨rfl, GF⟩
set_option maxHeartbeats 4000000 in
theorem im_b_j (A : An) (a b : Vv) (ha : vok a) (hb : vok b) (hxa : (a.x.size : Int) ≤ 1048576) (hxb : (b.x.size : Int) ≤ 1048576) (HV : ∀ w, Tb w → Calls Tryz.prog 24 #[vv a, vv b] w fun e w' => (∃ c u, e = .returned (va c u) ∧ A.is c u) ∧ Kq w w') (w : World) (hT : Tb w) : Calls Tryz.prog 7 #[.int .i64 12, vv a, vv b] w fun e w' => (∃ c u, e = .returned (va c u) ∧ A.is c u) ∧ Kq w w' := by
  have OA := fun w => im_ok a hxa w
  rw [dc_t ha] at OA
  have OB := fun w => im_ok b hxb w
  rw [dc_t hb] at OB
  obtain ⟨k, m, g, x, r⟩ := a
  obtain ⟨l, n, h, y, s⟩ := b
  unfold vv at *
  try unfold va at *
  try dsimp only at *
  clear ha hb hxa hxb
  have hst : ∀ (a : Addr) (n : Nat) (m : Mode) (w : World), (store a (.float .f64 n) m).run Tryz.prog w = stored Tryz.prog w a (.float .f64 n) m := fun a n m w => run_store _ _ _ _ _ rfl
  go_enter Tryz.func7, Tryz.ntmps7
  go_wp2_with fail
  refine (OA _).mono ?_
  rintro e w1 ⟨rfl, g1⟩
  have S1 : Hid (Bw w w1 w.heap.size ⟨k, m, g, x, r⟩ ⟨l, n, h, y, s⟩) := Bw.step (Bw.new w _ _ _ _ _ _ _ _ _ _ _ _) (.of_grown g1)
  clear g1
  obtain ⟨_, ⟨c0, c1, c2, c3, c4⟩, ⟨d0, d1, d2, d3, d4⟩, ⟨r0, r1, r2, r3, r4, r5, rz⟩⟩ := (show Bw w w1 w.heap.size ⟨k, m, g, x, r⟩ ⟨l, n, h, y, s⟩ from S1)
  go_wp2_with fail
  refine (OB _).mono ?_
  rintro e w2 ⟨rfl, g2⟩
  have S2 : Hid (Bw w w2 w.heap.size ⟨k, m, g, x, r⟩ ⟨l, n, h, y, s⟩) := Bw.step S1 (.of_grown g2)
  clear g2 S1 c0 c1 c2 c3 c4 d0 d1 d2 d3 d4 r0 r1 r2 r3 r4 r5 rz
  obtain ⟨_, ⟨c0, c1, c2, c3, c4⟩, ⟨d0, d1, d2, d3, d4⟩, ⟨r0, r1, r2, r3, r4, r5, rz⟩⟩ := (show Bw w w2 w.heap.size ⟨k, m, g, x, r⟩ ⟨l, n, h, y, s⟩ from S2)
  go_wp2_with fail
  refine (HV _ (Tb.kq hT (Bw.kq (S2)))).mono ?_
  rintro e w3 ⟨⟨c, ⟨uk, um, ug, ux, ur⟩, rfl, hu⟩, g3⟩
  dsimp only
  have HU : Hid (A.is c ⟨uk, um, ug, ux, ur⟩) := hu
  clear hu
  have S3 : Hid (Bw w w3 w.heap.size ⟨k, m, g, x, r⟩ ⟨l, n, h, y, s⟩) := Bw.step S2 g3
  clear g3 S2 c0 c1 c2 c3 c4 d0 d1 d2 d3 d4 r0 r1 r2 r3 r4 r5 rz
  obtain ⟨_, ⟨c0, c1, c2, c3, c4⟩, ⟨d0, d1, d2, d3, d4⟩, ⟨r0, r1, r2, r3, r4, r5, rz⟩⟩ := (show Bw w w3 w.heap.size ⟨k, m, g, x, r⟩ ⟨l, n, h, y, s⟩ from S3)
  go_wp2_with fail
  obtain ⟨e0, e1, e2, e3, e4, e5⟩ := rv_set' (show Bw w w3 w.heap.size ⟨k, m, g, x, r⟩ ⟨l, n, h, y, s⟩ from S3).r c uk um ug ux ur
  have GF : Hid (Kq w (s6 w3 (w.heap.size + 2) c uk um ug ux ur)) := s6_kq (show Bw w w3 w.heap.size ⟨k, m, g, x, r⟩ ⟨l, n, h, y, s⟩ from S3).kq (by omega) c uk um ug ux ur
  obtain ⟨WF, hWF⟩ : ∃ WF, WF = s6 w3 (w.heap.size + 2) c uk um ug ux ur := ⟨_, rfl⟩
  rw [← hWF] at e0 e1 e2 e3 e4 e5 GF
  have hWF' := hWF
  unfold s6 at hWF'
  rw [← hWF']
  clear hWF hWF'
  refine bodyPost_ret (by simp [results, Tryz.results7, go_sem, e0, e1, e2, e3, e4, e5]; rfl) rfl ?_
  exact ⟨⟨c, ⟨uk, um, ug, ux, ur⟩, rfl, HU⟩, GF⟩
set_option maxHeartbeats 4000000 in
theorem im_b_e (a b : Vv) (ha : vok a) (hb : vok b) (hxa : (a.x.size : Int) ≤ 1048576) (hxb : (b.x.size : Int) ≤ 1048576) (R : Bool) (HV : (∀ w, Calls Tryz.prog 26 #[vv a, vv b] w fun e w' => e = .returned (.bool R) ∧ Grown w w')) (w : World) : Calls Tryz.prog 7 #[.int .i64 13, vv a, vv b] w fun e w' => e = .returned (va 0 ⟨1, (R).toInt, 0, ⟨#[]⟩, 0⟩) ∧ Kq w w' := by
  have OA := fun w => im_ok a hxa w
  rw [dc_t ha] at OA
  have OB := fun w => im_ok b hxb w
  rw [dc_t hb] at OB
  have HB := fun w => im_tru R w
  generalize hrt : (R).toInt = rt at *
  obtain ⟨k, m, g, x, r⟩ := a
  obtain ⟨l, n, h, y, s⟩ := b
  unfold vv at *
  try unfold va at *
  try dsimp only at *
  clear ha hb hxa hxb
  have hst : ∀ (a : Addr) (n : Nat) (m : Mode) (w : World), (store a (.float .f64 n) m).run Tryz.prog w = stored Tryz.prog w a (.float .f64 n) m := fun a n m w => run_store _ _ _ _ _ rfl
  go_enter Tryz.func7, Tryz.ntmps7
  go_wp2_with fail
  refine (OA _).mono ?_
  rintro e w1 ⟨rfl, g1⟩
  have S1 : Hid (Bw w w1 w.heap.size ⟨k, m, g, x, r⟩ ⟨l, n, h, y, s⟩) := Bw.step (Bw.new w _ _ _ _ _ _ _ _ _ _ _ _) (.of_grown g1)
  clear g1
  obtain ⟨_, ⟨c0, c1, c2, c3, c4⟩, ⟨d0, d1, d2, d3, d4⟩, ⟨r0, r1, r2, r3, r4, r5, rz⟩⟩ := (show Bw w w1 w.heap.size ⟨k, m, g, x, r⟩ ⟨l, n, h, y, s⟩ from S1)
  go_wp2_with fail
  refine (OB _).mono ?_
  rintro e w2 ⟨rfl, g2⟩
  have S2 : Hid (Bw w w2 w.heap.size ⟨k, m, g, x, r⟩ ⟨l, n, h, y, s⟩) := Bw.step S1 (.of_grown g2)
  clear g2 S1 c0 c1 c2 c3 c4 d0 d1 d2 d3 d4 r0 r1 r2 r3 r4 r5 rz
  obtain ⟨_, ⟨c0, c1, c2, c3, c4⟩, ⟨d0, d1, d2, d3, d4⟩, ⟨r0, r1, r2, r3, r4, r5, rz⟩⟩ := (show Bw w w2 w.heap.size ⟨k, m, g, x, r⟩ ⟨l, n, h, y, s⟩ from S2)
  go_wp2_with fail
  refine (HV _).mono ?_
  rintro e w3 ⟨rfl, g3⟩
  have S3 : Hid (Bw w w3 w.heap.size ⟨k, m, g, x, r⟩ ⟨l, n, h, y, s⟩) := Bw.step S2 (.of_grown g3)
  clear g3 S2 c0 c1 c2 c3 c4 d0 d1 d2 d3 d4 r0 r1 r2 r3 r4 r5 rz
  obtain ⟨_, ⟨c0, c1, c2, c3, c4⟩, ⟨d0, d1, d2, d3, d4⟩, ⟨r0, r1, r2, r3, r4, r5, rz⟩⟩ := (show Bw w w3 w.heap.size ⟨k, m, g, x, r⟩ ⟨l, n, h, y, s⟩ from S3)
  go_wp2_with fail
  refine (HB _).mono ?_
  rintro e w4 ⟨rfl, g4⟩
  have S4 : Hid (Bw w w4 w.heap.size ⟨k, m, g, x, r⟩ ⟨l, n, h, y, s⟩) := Bw.step S3 (.of_grown g4)
  clear g4 S3 c0 c1 c2 c3 c4 d0 d1 d2 d3 d4 r0 r1 r2 r3 r4 r5 rz
  obtain ⟨_, ⟨c0, c1, c2, c3, c4⟩, ⟨d0, d1, d2, d3, d4⟩, ⟨r0, r1, r2, r3, r4, r5, rz⟩⟩ := (show Bw w w4 w.heap.size ⟨k, m, g, x, r⟩ ⟨l, n, h, y, s⟩ from S4)
  go_wp2_with fail
  obtain ⟨e0, e1, e2, e3, e4, e5⟩ := rv_set' (show Bw w w4 w.heap.size ⟨k, m, g, x, r⟩ ⟨l, n, h, y, s⟩ from S4).r 0 1 rt 0 ⟨#[]⟩ 0
  have GF : Hid (Kq w (s6 w4 (w.heap.size + 2) 0 1 rt 0 ⟨#[]⟩ 0)) := s6_kq (show Bw w w4 w.heap.size ⟨k, m, g, x, r⟩ ⟨l, n, h, y, s⟩ from S4).kq (by omega) 0 1 rt 0 ⟨#[]⟩ 0
  obtain ⟨WF, hWF⟩ : ∃ WF, WF = s6 w4 (w.heap.size + 2) 0 1 rt 0 ⟨#[]⟩ 0 := ⟨_, rfl⟩
  rw [← hWF] at e0 e1 e2 e3 e4 e5 GF
  have hWF' := hWF
  unfold s6 at hWF'
  rw [← hWF']
  clear hWF hWF'
  refine bodyPost_ret (by simp [results, Tryz.results7, go_sem, e0, e1, e2, e3, e4, e5]; rfl) rfl ?_
  exact ⟨rfl, GF⟩
set_option maxHeartbeats 4000000 in
theorem im_b_n (a b : Vv) (ha : vok a) (hb : vok b) (hxa : (a.x.size : Int) ≤ 1048576) (hxb : (b.x.size : Int) ≤ 1048576) (R : Bool) (HV : (∀ w, Calls Tryz.prog 26 #[vv a, vv b] w fun e w' => e = .returned (.bool R) ∧ Grown w w')) (w : World) : Calls Tryz.prog 7 #[.int .i64 14, vv a, vv b] w fun e w' => e = .returned (va 0 ⟨1, ((!R)).toInt, 0, ⟨#[]⟩, 0⟩) ∧ Kq w w' := by
  have OA := fun w => im_ok a hxa w
  rw [dc_t ha] at OA
  have OB := fun w => im_ok b hxb w
  rw [dc_t hb] at OB
  have HB := fun w => im_tru (!R) w
  generalize hrt : ((!R)).toInt = rt at *
  obtain ⟨k, m, g, x, r⟩ := a
  obtain ⟨l, n, h, y, s⟩ := b
  unfold vv at *
  try unfold va at *
  try dsimp only at *
  clear ha hb hxa hxb
  have hst : ∀ (a : Addr) (n : Nat) (m : Mode) (w : World), (store a (.float .f64 n) m).run Tryz.prog w = stored Tryz.prog w a (.float .f64 n) m := fun a n m w => run_store _ _ _ _ _ rfl
  go_enter Tryz.func7, Tryz.ntmps7
  go_wp2_with fail
  refine (OA _).mono ?_
  rintro e w1 ⟨rfl, g1⟩
  have S1 : Hid (Bw w w1 w.heap.size ⟨k, m, g, x, r⟩ ⟨l, n, h, y, s⟩) := Bw.step (Bw.new w _ _ _ _ _ _ _ _ _ _ _ _) (.of_grown g1)
  clear g1
  obtain ⟨_, ⟨c0, c1, c2, c3, c4⟩, ⟨d0, d1, d2, d3, d4⟩, ⟨r0, r1, r2, r3, r4, r5, rz⟩⟩ := (show Bw w w1 w.heap.size ⟨k, m, g, x, r⟩ ⟨l, n, h, y, s⟩ from S1)
  go_wp2_with fail
  refine (OB _).mono ?_
  rintro e w2 ⟨rfl, g2⟩
  have S2 : Hid (Bw w w2 w.heap.size ⟨k, m, g, x, r⟩ ⟨l, n, h, y, s⟩) := Bw.step S1 (.of_grown g2)
  clear g2 S1 c0 c1 c2 c3 c4 d0 d1 d2 d3 d4 r0 r1 r2 r3 r4 r5 rz
  obtain ⟨_, ⟨c0, c1, c2, c3, c4⟩, ⟨d0, d1, d2, d3, d4⟩, ⟨r0, r1, r2, r3, r4, r5, rz⟩⟩ := (show Bw w w2 w.heap.size ⟨k, m, g, x, r⟩ ⟨l, n, h, y, s⟩ from S2)
  go_wp2_with fail
  refine (HV _).mono ?_
  rintro e w3 ⟨rfl, g3⟩
  have S3 : Hid (Bw w w3 w.heap.size ⟨k, m, g, x, r⟩ ⟨l, n, h, y, s⟩) := Bw.step S2 (.of_grown g3)
  clear g3 S2 c0 c1 c2 c3 c4 d0 d1 d2 d3 d4 r0 r1 r2 r3 r4 r5 rz
  obtain ⟨_, ⟨c0, c1, c2, c3, c4⟩, ⟨d0, d1, d2, d3, d4⟩, ⟨r0, r1, r2, r3, r4, r5, rz⟩⟩ := (show Bw w w3 w.heap.size ⟨k, m, g, x, r⟩ ⟨l, n, h, y, s⟩ from S3)
  go_wp2_with fail
  refine (HB _).mono ?_
  rintro e w4 ⟨rfl, g4⟩
  have S4 : Hid (Bw w w4 w.heap.size ⟨k, m, g, x, r⟩ ⟨l, n, h, y, s⟩) := Bw.step S3 (.of_grown g4)
  clear g4 S3 c0 c1 c2 c3 c4 d0 d1 d2 d3 d4 r0 r1 r2 r3 r4 r5 rz
  obtain ⟨_, ⟨c0, c1, c2, c3, c4⟩, ⟨d0, d1, d2, d3, d4⟩, ⟨r0, r1, r2, r3, r4, r5, rz⟩⟩ := (show Bw w w4 w.heap.size ⟨k, m, g, x, r⟩ ⟨l, n, h, y, s⟩ from S4)
  go_wp2_with fail
  obtain ⟨e0, e1, e2, e3, e4, e5⟩ := rv_set' (show Bw w w4 w.heap.size ⟨k, m, g, x, r⟩ ⟨l, n, h, y, s⟩ from S4).r 0 1 rt 0 ⟨#[]⟩ 0
  have GF : Hid (Kq w (s6 w4 (w.heap.size + 2) 0 1 rt 0 ⟨#[]⟩ 0)) := s6_kq (show Bw w w4 w.heap.size ⟨k, m, g, x, r⟩ ⟨l, n, h, y, s⟩ from S4).kq (by omega) 0 1 rt 0 ⟨#[]⟩ 0
  obtain ⟨WF, hWF⟩ : ∃ WF, WF = s6 w4 (w.heap.size + 2) 0 1 rt 0 ⟨#[]⟩ 0 := ⟨_, rfl⟩
  rw [← hWF] at e0 e1 e2 e3 e4 e5 GF
  have hWF' := hWF
  unfold s6 at hWF'
  rw [← hWF']
  clear hWF hWF'
  refine bodyPost_ret (by simp [results, Tryz.results7, go_sem, e0, e1, e2, e3, e4, e5]; rfl) rfl ?_
  exact ⟨rfl, GF⟩
set_option maxHeartbeats 4000000 in
theorem im_b_o (A : An) (op : Int) (a b : Vv) (ha : vok a) (hb : vok b) (hxa : (a.x.size : Int) ≤ 1048576) (hxb : (b.x.size : Int) ≤ 1048576) (o1 : 15 ≤ op) (o2 : op ≤ 18) (z : Int) (HZ : (∀ w, Calls Tryz.prog 28 #[vv a, vv b] w fun e w' => e = .returned (.int .i64 z) ∧ Grown w w')) (HV : (∀ w, Calls Tryz.prog 27 #[.int .i64 op, .int .i64 z] w fun e w' => (∃ c u, e = .returned (va c u) ∧ A.is c u) ∧ Grown w w')) (w : World) : Calls Tryz.prog 7 #[.int .i64 op, vv a, vv b] w fun e w' => (∃ c u, e = .returned (va c u) ∧ A.is c u) ∧ Kq w w' := by
  have OA := fun w => im_ok a hxa w
  rw [dc_t ha] at OA
  have OB := fun w => im_ok b hxb w
  rw [dc_t hb] at OB
  have q12 : (op == 12) = false := by simp; omega
  have q13 : (op == 13) = false := by simp; omega
  have q14 : (op == 14) = false := by simp; omega
  obtain ⟨k, m, g, x, r⟩ := a
  obtain ⟨l, n, h, y, s⟩ := b
  unfold vv at *
  try unfold va at *
  try dsimp only at *
  clear ha hb hxa hxb
  have hst : ∀ (a : Addr) (n : Nat) (m : Mode) (w : World), (store a (.float .f64 n) m).run Tryz.prog w = stored Tryz.prog w a (.float .f64 n) m := fun a n m w => run_store _ _ _ _ _ rfl
  go_enter Tryz.func7, Tryz.ntmps7
  go_wp2_with fail
  refine (OA _).mono ?_
  rintro e w1 ⟨rfl, g1⟩
  have S1 : Hid (Bw w w1 w.heap.size ⟨k, m, g, x, r⟩ ⟨l, n, h, y, s⟩) := Bw.step (Bw.new w _ _ _ _ _ _ _ _ _ _ _ _) (.of_grown g1)
  clear g1
  obtain ⟨_, ⟨c0, c1, c2, c3, c4⟩, ⟨d0, d1, d2, d3, d4⟩, ⟨r0, r1, r2, r3, r4, r5, rz⟩⟩ := (show Bw w w1 w.heap.size ⟨k, m, g, x, r⟩ ⟨l, n, h, y, s⟩ from S1)
  go_wp2_with fail
  refine (OB _).mono ?_
  rintro e w2 ⟨rfl, g2⟩
  have S2 : Hid (Bw w w2 w.heap.size ⟨k, m, g, x, r⟩ ⟨l, n, h, y, s⟩) := Bw.step S1 (.of_grown g2)
  clear g2 S1 c0 c1 c2 c3 c4 d0 d1 d2 d3 d4 r0 r1 r2 r3 r4 r5 rz
  obtain ⟨_, ⟨c0, c1, c2, c3, c4⟩, ⟨d0, d1, d2, d3, d4⟩, ⟨r0, r1, r2, r3, r4, r5, rz⟩⟩ := (show Bw w w2 w.heap.size ⟨k, m, g, x, r⟩ ⟨l, n, h, y, s⟩ from S2)
  go_wp2_with fail
  refine (HZ _).mono ?_
  rintro e w3 ⟨rfl, g3⟩
  have S3 : Hid (Bw w w3 w.heap.size ⟨k, m, g, x, r⟩ ⟨l, n, h, y, s⟩) := Bw.step S2 (.of_grown g3)
  clear g3 S2 c0 c1 c2 c3 c4 d0 d1 d2 d3 d4 r0 r1 r2 r3 r4 r5 rz
  obtain ⟨_, ⟨c0, c1, c2, c3, c4⟩, ⟨d0, d1, d2, d3, d4⟩, ⟨r0, r1, r2, r3, r4, r5, rz⟩⟩ := (show Bw w w3 w.heap.size ⟨k, m, g, x, r⟩ ⟨l, n, h, y, s⟩ from S3)
  go_wp2_with fail
  refine (HV _).mono ?_
  rintro e w4 ⟨⟨c, ⟨uk, um, ug, ux, ur⟩, rfl, hu⟩, g4⟩
  dsimp only
  have HU : Hid (A.is c ⟨uk, um, ug, ux, ur⟩) := hu
  clear hu
  have S4 : Hid (Bw w w4 w.heap.size ⟨k, m, g, x, r⟩ ⟨l, n, h, y, s⟩) := Bw.step S3 (.of_grown g4)
  clear g4 S3 c0 c1 c2 c3 c4 d0 d1 d2 d3 d4 r0 r1 r2 r3 r4 r5 rz
  obtain ⟨_, ⟨c0, c1, c2, c3, c4⟩, ⟨d0, d1, d2, d3, d4⟩, ⟨r0, r1, r2, r3, r4, r5, rz⟩⟩ := (show Bw w w4 w.heap.size ⟨k, m, g, x, r⟩ ⟨l, n, h, y, s⟩ from S4)
  go_wp2_with fail
  obtain ⟨e0, e1, e2, e3, e4, e5⟩ := rv_set' (show Bw w w4 w.heap.size ⟨k, m, g, x, r⟩ ⟨l, n, h, y, s⟩ from S4).r c uk um ug ux ur
  have GF : Hid (Kq w (s6 w4 (w.heap.size + 2) c uk um ug ux ur)) := s6_kq (show Bw w w4 w.heap.size ⟨k, m, g, x, r⟩ ⟨l, n, h, y, s⟩ from S4).kq (by omega) c uk um ug ux ur
  obtain ⟨WF, hWF⟩ : ∃ WF, WF = s6 w4 (w.heap.size + 2) c uk um ug ux ur := ⟨_, rfl⟩
  rw [← hWF] at e0 e1 e2 e3 e4 e5 GF
  have hWF' := hWF
  unfold s6 at hWF'
  rw [← hWF']
  clear hWF hWF'
  refine bodyPost_ret (by simp [results, Tryz.results7, go_sem, e0, e1, e2, e3, e4, e5]; rfl) rfl ?_
  exact ⟨⟨c, ⟨uk, um, ug, ux, ur⟩, rfl, HU⟩, GF⟩
set_option maxHeartbeats 4000000 in
theorem im_b_i (A : An) (op : Int) (a b : Vv) (ha : vok a) (hb : vok b) (hxa : (a.x.size : Int) ≤ 1048576) (hxb : (b.x.size : Int) ≤ 1048576) (o2 : op ≤ 11) (n4 : ¬ op = 4) (ka : a.k = 2) (kb : b.k = 2) (HV : (∀ w, Calls Tryz.prog 30 #[.int .i64 op, .int .i64 a.m, .int .i64 b.m] w fun e w' => (∃ c u, e = .returned (va c u) ∧ A.is c u) ∧ Grown w w')) (w : World) : Calls Tryz.prog 7 #[.int .i64 op, vv a, vv b] w fun e w' => (∃ c u, e = .returned (va c u) ∧ A.is c u) ∧ Kq w w' := by
  have OA := fun w => im_ok a hxa w
  rw [dc_t ha] at OA
  have OB := fun w => im_ok b hxb w
  rw [dc_t hb] at OB
  have q12 : (op == 12) = false := by simp; omega
  have q13 : (op == 13) = false := by simp; omega
  have q14 : (op == 14) = false := by simp; omega
  have h15 : ¬ 15 ≤ op := by omega
  have AI := fun w => im_ints2 a b w
  rw [dc_t ⟨ka, kb⟩] at AI
  have q4 : (op == 4) = false := by simpa using n4
  have q4n : (op != 4) = true := by simpa using n4
  obtain ⟨k, m, g, x, r⟩ := a
  obtain ⟨l, n, h, y, s⟩ := b
  unfold vv at *
  try unfold va at *
  try dsimp only at *
  clear ha hb hxa hxb
  subst ka kb
  have hst : ∀ (a : Addr) (n : Nat) (m : Mode) (w : World), (store a (.float .f64 n) m).run Tryz.prog w = stored Tryz.prog w a (.float .f64 n) m := fun a n m w => run_store _ _ _ _ _ rfl
  go_enter Tryz.func7, Tryz.ntmps7
  go_wp2_with fail
  refine (OA _).mono ?_
  rintro e w1 ⟨rfl, g1⟩
  have S1 : Hid (Bw w w1 w.heap.size ⟨2, m, g, x, r⟩ ⟨2, n, h, y, s⟩) := Bw.step (Bw.new w _ _ _ _ _ _ _ _ _ _ _ _) (.of_grown g1)
  clear g1
  obtain ⟨_, ⟨c0, c1, c2, c3, c4⟩, ⟨d0, d1, d2, d3, d4⟩, ⟨r0, r1, r2, r3, r4, r5, rz⟩⟩ := (show Bw w w1 w.heap.size ⟨2, m, g, x, r⟩ ⟨2, n, h, y, s⟩ from S1)
  go_wp2_with fail
  refine (OB _).mono ?_
  rintro e w2 ⟨rfl, g2⟩
  have S2 : Hid (Bw w w2 w.heap.size ⟨2, m, g, x, r⟩ ⟨2, n, h, y, s⟩) := Bw.step S1 (.of_grown g2)
  clear g2 S1 c0 c1 c2 c3 c4 d0 d1 d2 d3 d4 r0 r1 r2 r3 r4 r5 rz
  obtain ⟨_, ⟨c0, c1, c2, c3, c4⟩, ⟨d0, d1, d2, d3, d4⟩, ⟨r0, r1, r2, r3, r4, r5, rz⟩⟩ := (show Bw w w2 w.heap.size ⟨2, m, g, x, r⟩ ⟨2, n, h, y, s⟩ from S2)
  go_wp2_with fail
  refine (AI _).mono ?_
  rintro e w3 ⟨rfl, g3⟩
  have S3 : Hid (Bw w w3 w.heap.size ⟨2, m, g, x, r⟩ ⟨2, n, h, y, s⟩) := Bw.step S2 (.of_grown g3)
  clear g3 S2 c0 c1 c2 c3 c4 d0 d1 d2 d3 d4 r0 r1 r2 r3 r4 r5 rz
  obtain ⟨_, ⟨c0, c1, c2, c3, c4⟩, ⟨d0, d1, d2, d3, d4⟩, ⟨r0, r1, r2, r3, r4, r5, rz⟩⟩ := (show Bw w w3 w.heap.size ⟨2, m, g, x, r⟩ ⟨2, n, h, y, s⟩ from S3)
  go_wp2_with fail
  refine (HV _).mono ?_
  rintro e w4 ⟨⟨c, ⟨uk, um, ug, ux, ur⟩, rfl, hu⟩, g4⟩
  dsimp only
  have HU : Hid (A.is c ⟨uk, um, ug, ux, ur⟩) := hu
  clear hu
  have S4 : Hid (Bw w w4 w.heap.size ⟨2, m, g, x, r⟩ ⟨2, n, h, y, s⟩) := Bw.step S3 (.of_grown g4)
  clear g4 S3 c0 c1 c2 c3 c4 d0 d1 d2 d3 d4 r0 r1 r2 r3 r4 r5 rz
  obtain ⟨_, ⟨c0, c1, c2, c3, c4⟩, ⟨d0, d1, d2, d3, d4⟩, ⟨r0, r1, r2, r3, r4, r5, rz⟩⟩ := (show Bw w w4 w.heap.size ⟨2, m, g, x, r⟩ ⟨2, n, h, y, s⟩ from S4)
  go_wp2_with fail
  obtain ⟨e0, e1, e2, e3, e4, e5⟩ := rv_set' (show Bw w w4 w.heap.size ⟨2, m, g, x, r⟩ ⟨2, n, h, y, s⟩ from S4).r c uk um ug ux ur
  have GF : Hid (Kq w (s6 w4 (w.heap.size + 2) c uk um ug ux ur)) := s6_kq (show Bw w w4 w.heap.size ⟨2, m, g, x, r⟩ ⟨2, n, h, y, s⟩ from S4).kq (by omega) c uk um ug ux ur
  obtain ⟨WF, hWF⟩ : ∃ WF, WF = s6 w4 (w.heap.size + 2) c uk um ug ux ur := ⟨_, rfl⟩
  rw [← hWF] at e0 e1 e2 e3 e4 e5 GF
  have hWF' := hWF
  unfold s6 at hWF'
  rw [← hWF']
  clear hWF hWF'
  refine bodyPost_ret (by simp [results, Tryz.results7, go_sem, e0, e1, e2, e3, e4, e5]; rfl) rfl ?_
  exact ⟨⟨c, ⟨uk, um, ug, ux, ur⟩, rfl, HU⟩, GF⟩
set_option maxHeartbeats 4000000 in
theorem im_b_na (op : Int) (a b : Vv) (ha : vok a) (hb : vok b) (hxa : (a.x.size : Int) ≤ 1048576) (hxb : (b.x.size : Int) ≤ 1048576) (o2 : op ≤ 11) (na : ¬ nmb a) (w : World) : Calls Tryz.prog 7 #[.int .i64 op, vv a, vv b] w fun e w' => e = .returned (va 1 ⟨0, 0, 0, ⟨#[]⟩, 0⟩) ∧ Kq w w' := by
  have OA := fun w => im_ok a hxa w
  rw [dc_t ha] at OA
  have OB := fun w => im_ok b hxb w
  rw [dc_t hb] at OB
  have q12 : (op == 12) = false := by simp; omega
  have q13 : (op == 13) = false := by simp; omega
  have q14 : (op == 14) = false := by simp; omega
  have h15 : ¬ 15 ≤ op := by omega
  have HF := fun w => im_fail 1 w
  have NA := fun w => im_num a w
  rw [dc_f na] at NA
  have nk : ¬ (a.k = 2 ∧ b.k = 2) := fun h => na (.inl h.1)
  have ka : ¬ a.k = 2 := fun h => na (.inl h)
  have AI := fun w => im_ints2 a b w
  rw [dc_f nk] at AI
  obtain ⟨k, m, g, x, r⟩ := a
  obtain ⟨l, n, h, y, s⟩ := b
  unfold vv at *
  try unfold va at *
  try dsimp only at *
  clear ha hb hxa hxb na nk
  have hst : ∀ (a : Addr) (n : Nat) (m : Mode) (w : World), (store a (.float .f64 n) m).run Tryz.prog w = stored Tryz.prog w a (.float .f64 n) m := fun a n m w => run_store _ _ _ _ _ rfl
  go_enter Tryz.func7, Tryz.ntmps7
  go_wp2_with fail
  refine (OA _).mono ?_
  rintro e w1 ⟨rfl, g1⟩
  have S1 : Hid (Bw w w1 w.heap.size ⟨k, m, g, x, r⟩ ⟨l, n, h, y, s⟩) := Bw.step (Bw.new w _ _ _ _ _ _ _ _ _ _ _ _) (.of_grown g1)
  clear g1
  obtain ⟨_, ⟨c0, c1, c2, c3, c4⟩, ⟨d0, d1, d2, d3, d4⟩, ⟨r0, r1, r2, r3, r4, r5, rz⟩⟩ := (show Bw w w1 w.heap.size ⟨k, m, g, x, r⟩ ⟨l, n, h, y, s⟩ from S1)
  go_wp2_with fail
  refine (OB _).mono ?_
  rintro e w2 ⟨rfl, g2⟩
  have S2 : Hid (Bw w w2 w.heap.size ⟨k, m, g, x, r⟩ ⟨l, n, h, y, s⟩) := Bw.step S1 (.of_grown g2)
  clear g2 S1 c0 c1 c2 c3 c4 d0 d1 d2 d3 d4 r0 r1 r2 r3 r4 r5 rz
  obtain ⟨_, ⟨c0, c1, c2, c3, c4⟩, ⟨d0, d1, d2, d3, d4⟩, ⟨r0, r1, r2, r3, r4, r5, rz⟩⟩ := (show Bw w w2 w.heap.size ⟨k, m, g, x, r⟩ ⟨l, n, h, y, s⟩ from S2)
  go_wp2_with fail
  refine (AI _).mono ?_
  rintro e w3 ⟨rfl, g3⟩
  have S3 : Hid (Bw w w3 w.heap.size ⟨k, m, g, x, r⟩ ⟨l, n, h, y, s⟩) := Bw.step S2 (.of_grown g3)
  clear g3 S2 c0 c1 c2 c3 c4 d0 d1 d2 d3 d4 r0 r1 r2 r3 r4 r5 rz
  obtain ⟨_, ⟨c0, c1, c2, c3, c4⟩, ⟨d0, d1, d2, d3, d4⟩, ⟨r0, r1, r2, r3, r4, r5, rz⟩⟩ := (show Bw w w3 w.heap.size ⟨k, m, g, x, r⟩ ⟨l, n, h, y, s⟩ from S3)
  go_wp2_with fail
  refine (NA _).mono ?_
  rintro e w4 ⟨rfl, g4⟩
  have S4 : Hid (Bw w w4 w.heap.size ⟨k, m, g, x, r⟩ ⟨l, n, h, y, s⟩) := Bw.step S3 (.of_grown g4)
  clear g4 S3 c0 c1 c2 c3 c4 d0 d1 d2 d3 d4 r0 r1 r2 r3 r4 r5 rz
  obtain ⟨_, ⟨c0, c1, c2, c3, c4⟩, ⟨d0, d1, d2, d3, d4⟩, ⟨r0, r1, r2, r3, r4, r5, rz⟩⟩ := (show Bw w w4 w.heap.size ⟨k, m, g, x, r⟩ ⟨l, n, h, y, s⟩ from S4)
  go_wp2_with fail
  refine (HF _).mono ?_
  rintro e w5 ⟨rfl, g5⟩
  have S5 : Hid (Bw w w5 w.heap.size ⟨k, m, g, x, r⟩ ⟨l, n, h, y, s⟩) := Bw.step S4 (.of_grown g5)
  clear g5 S4 c0 c1 c2 c3 c4 d0 d1 d2 d3 d4 r0 r1 r2 r3 r4 r5 rz
  obtain ⟨_, ⟨c0, c1, c2, c3, c4⟩, ⟨d0, d1, d2, d3, d4⟩, ⟨r0, r1, r2, r3, r4, r5, rz⟩⟩ := (show Bw w w5 w.heap.size ⟨k, m, g, x, r⟩ ⟨l, n, h, y, s⟩ from S5)
  go_wp2_with fail
  obtain ⟨e0, e1, e2, e3, e4, e5⟩ := rv_set' (show Bw w w5 w.heap.size ⟨k, m, g, x, r⟩ ⟨l, n, h, y, s⟩ from S5).r 1 0 0 0 ⟨#[]⟩ 0
  have GF : Hid (Kq w (s6 w5 (w.heap.size + 2) 1 0 0 0 ⟨#[]⟩ 0)) := s6_kq (show Bw w w5 w.heap.size ⟨k, m, g, x, r⟩ ⟨l, n, h, y, s⟩ from S5).kq (by omega) 1 0 0 0 ⟨#[]⟩ 0
  obtain ⟨WF, hWF⟩ : ∃ WF, WF = s6 w5 (w.heap.size + 2) 1 0 0 0 ⟨#[]⟩ 0 := ⟨_, rfl⟩
  rw [← hWF] at e0 e1 e2 e3 e4 e5 GF
  have hWF' := hWF
  unfold s6 at hWF'
  rw [← hWF']
  clear hWF hWF'
  refine bodyPost_ret (by simp [results, Tryz.results7, go_sem, e0, e1, e2, e3, e4, e5]; rfl) rfl ?_
  exact ⟨rfl, GF⟩
set_option maxHeartbeats 4000000 in
theorem im_b_nb2 (op : Int) (a b : Vv) (ha : vok a) (hb : vok b) (hxa : (a.x.size : Int) ≤ 1048576) (hxb : (b.x.size : Int) ≤ 1048576) (o2 : op ≤ 11) (na : nmb a) (nb : ¬ nmb b) (ka : a.k = 2) (w : World) : Calls Tryz.prog 7 #[.int .i64 op, vv a, vv b] w fun e w' => e = .returned (va 1 ⟨0, 0, 0, ⟨#[]⟩, 0⟩) ∧ Kq w w' := by
  have OA := fun w => im_ok a hxa w
  rw [dc_t ha] at OA
  have OB := fun w => im_ok b hxb w
  rw [dc_t hb] at OB
  have q12 : (op == 12) = false := by simp; omega
  have q13 : (op == 13) = false := by simp; omega
  have q14 : (op == 14) = false := by simp; omega
  have h15 : ¬ 15 ≤ op := by omega
  have HF := fun w => im_fail 1 w
  have NA := fun w => im_num a w
  rw [dc_t na] at NA
  have NB := fun w => im_num b w
  rw [dc_f nb] at NB
  have nk : ¬ (a.k = 2 ∧ b.k = 2) := fun h => nb (.inl h.2)
  have kb : ¬ b.k = 2 := fun h => nb (.inl h)
  have AI := fun w => im_ints2 a b w
  rw [dc_f nk] at AI
  obtain ⟨k, m, g, x, r⟩ := a
  obtain ⟨l, n, h, y, s⟩ := b
  unfold vv at *
  try unfold va at *
  try dsimp only at *
  clear ha hb hxa hxb na nb nk
  subst ka
  have hst : ∀ (a : Addr) (n : Nat) (m : Mode) (w : World), (store a (.float .f64 n) m).run Tryz.prog w = stored Tryz.prog w a (.float .f64 n) m := fun a n m w => run_store _ _ _ _ _ rfl
  go_enter Tryz.func7, Tryz.ntmps7
  go_wp2_with fail
  refine (OA _).mono ?_
  rintro e w1 ⟨rfl, g1⟩
  have S1 : Hid (Bw w w1 w.heap.size ⟨2, m, g, x, r⟩ ⟨l, n, h, y, s⟩) := Bw.step (Bw.new w _ _ _ _ _ _ _ _ _ _ _ _) (.of_grown g1)
  clear g1
  obtain ⟨_, ⟨c0, c1, c2, c3, c4⟩, ⟨d0, d1, d2, d3, d4⟩, ⟨r0, r1, r2, r3, r4, r5, rz⟩⟩ := (show Bw w w1 w.heap.size ⟨2, m, g, x, r⟩ ⟨l, n, h, y, s⟩ from S1)
  go_wp2_with fail
  refine (OB _).mono ?_
  rintro e w2 ⟨rfl, g2⟩
  have S2 : Hid (Bw w w2 w.heap.size ⟨2, m, g, x, r⟩ ⟨l, n, h, y, s⟩) := Bw.step S1 (.of_grown g2)
  clear g2 S1 c0 c1 c2 c3 c4 d0 d1 d2 d3 d4 r0 r1 r2 r3 r4 r5 rz
  obtain ⟨_, ⟨c0, c1, c2, c3, c4⟩, ⟨d0, d1, d2, d3, d4⟩, ⟨r0, r1, r2, r3, r4, r5, rz⟩⟩ := (show Bw w w2 w.heap.size ⟨2, m, g, x, r⟩ ⟨l, n, h, y, s⟩ from S2)
  go_wp2_with fail
  refine (AI _).mono ?_
  rintro e w3 ⟨rfl, g3⟩
  have S3 : Hid (Bw w w3 w.heap.size ⟨2, m, g, x, r⟩ ⟨l, n, h, y, s⟩) := Bw.step S2 (.of_grown g3)
  clear g3 S2 c0 c1 c2 c3 c4 d0 d1 d2 d3 d4 r0 r1 r2 r3 r4 r5 rz
  obtain ⟨_, ⟨c0, c1, c2, c3, c4⟩, ⟨d0, d1, d2, d3, d4⟩, ⟨r0, r1, r2, r3, r4, r5, rz⟩⟩ := (show Bw w w3 w.heap.size ⟨2, m, g, x, r⟩ ⟨l, n, h, y, s⟩ from S3)
  go_wp2_with fail
  refine (NA _).mono ?_
  rintro e w4 ⟨rfl, g4⟩
  have S4 : Hid (Bw w w4 w.heap.size ⟨2, m, g, x, r⟩ ⟨l, n, h, y, s⟩) := Bw.step S3 (.of_grown g4)
  clear g4 S3 c0 c1 c2 c3 c4 d0 d1 d2 d3 d4 r0 r1 r2 r3 r4 r5 rz
  obtain ⟨_, ⟨c0, c1, c2, c3, c4⟩, ⟨d0, d1, d2, d3, d4⟩, ⟨r0, r1, r2, r3, r4, r5, rz⟩⟩ := (show Bw w w4 w.heap.size ⟨2, m, g, x, r⟩ ⟨l, n, h, y, s⟩ from S4)
  go_wp2_with fail
  refine (NB _).mono ?_
  rintro e w5 ⟨rfl, g5⟩
  have S5 : Hid (Bw w w5 w.heap.size ⟨2, m, g, x, r⟩ ⟨l, n, h, y, s⟩) := Bw.step S4 (.of_grown g5)
  clear g5 S4 c0 c1 c2 c3 c4 d0 d1 d2 d3 d4 r0 r1 r2 r3 r4 r5 rz
  obtain ⟨_, ⟨c0, c1, c2, c3, c4⟩, ⟨d0, d1, d2, d3, d4⟩, ⟨r0, r1, r2, r3, r4, r5, rz⟩⟩ := (show Bw w w5 w.heap.size ⟨2, m, g, x, r⟩ ⟨l, n, h, y, s⟩ from S5)
  go_wp2_with fail
  refine (HF _).mono ?_
  rintro e w6 ⟨rfl, g6⟩
  have S6 : Hid (Bw w w6 w.heap.size ⟨2, m, g, x, r⟩ ⟨l, n, h, y, s⟩) := Bw.step S5 (.of_grown g6)
  clear g6 S5 c0 c1 c2 c3 c4 d0 d1 d2 d3 d4 r0 r1 r2 r3 r4 r5 rz
  obtain ⟨_, ⟨c0, c1, c2, c3, c4⟩, ⟨d0, d1, d2, d3, d4⟩, ⟨r0, r1, r2, r3, r4, r5, rz⟩⟩ := (show Bw w w6 w.heap.size ⟨2, m, g, x, r⟩ ⟨l, n, h, y, s⟩ from S6)
  go_wp2_with fail
  obtain ⟨e0, e1, e2, e3, e4, e5⟩ := rv_set' (show Bw w w6 w.heap.size ⟨2, m, g, x, r⟩ ⟨l, n, h, y, s⟩ from S6).r 1 0 0 0 ⟨#[]⟩ 0
  have GF : Hid (Kq w (s6 w6 (w.heap.size + 2) 1 0 0 0 ⟨#[]⟩ 0)) := s6_kq (show Bw w w6 w.heap.size ⟨2, m, g, x, r⟩ ⟨l, n, h, y, s⟩ from S6).kq (by omega) 1 0 0 0 ⟨#[]⟩ 0
  obtain ⟨WF, hWF⟩ : ∃ WF, WF = s6 w6 (w.heap.size + 2) 1 0 0 0 ⟨#[]⟩ 0 := ⟨_, rfl⟩
  rw [← hWF] at e0 e1 e2 e3 e4 e5 GF
  have hWF' := hWF
  unfold s6 at hWF'
  rw [← hWF']
  clear hWF hWF'
  refine bodyPost_ret (by simp [results, Tryz.results7, go_sem, e0, e1, e2, e3, e4, e5]; rfl) rfl ?_
  exact ⟨rfl, GF⟩
end Go.Proofs.YtladepgpandklaaGreatDoor
