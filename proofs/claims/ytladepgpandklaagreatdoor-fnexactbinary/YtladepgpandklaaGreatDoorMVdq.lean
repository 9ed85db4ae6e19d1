import Derived.Test.YtladepgpandklaaGreatDoorMReg
namespace Go.Proofs.YtladepgpandklaaGreatDoor
open Go.ChangeShapes Go.WideShapes Go.ChangeAt Go.RowKit
set_option linter.unusedVariables false
set_option maxRecDepth 100000
set_option maxHeartbeats 4000000 in
theorem sp_b_a (op : Int) (a b : Vv) (ha : ¬ vok a) (hxa : (a.x.size : Int) ≤ 1048576) (hxb : (b.x.size : Int) ≤ 1048576) (w : World) : Calls Tryz.prog 5 #[.int .i64 op, vv a, vv b] w fun e w' => e = .returned (va 1 ⟨0, 0, 0, ⟨#[]⟩, 0⟩) ∧ Kq w w' := by
  have OA := fun w => sp_ok a hxa w
  rw [dc_f ha] at OA
  have HF := fun w => sp_fail 1 w
  obtain ⟨k, m, g, x, r⟩ := a
  obtain ⟨l, n, h, y, s⟩ := b
  unfold vv at *
  try unfold va at *
  try dsimp only at *
  clear ha hxa hxb
  have hst : ∀ (a : Addr) (n : Nat) (m : Mode) (w : World), (store a (.float .f64 n) m).run Tryz.prog w = stored Tryz.prog w a (.float .f64 n) m := fun a n m w => run_store _ _ _ _ _ rfl
  go_enter Tryz.func5, Tryz.ntmps5
  go_wp2_with fail
  refine (OA _).mono ?_
  rintro e w1 ⟨rfl, g1⟩
  have S1 : Hid (Bw w w1 w.heap.size ⟨k, m, g, x, r⟩ ⟨l, n, h, y, s⟩) := Bw.step (Bw.new w _ _ _ _ _ _ _ _ _ _ _ _) (.of_grown g1)
  clear g1
  obtain ⟨_, ⟨c0, c1, c2, c3, c4⟩, ⟨d0, d1, d2, d3, d4⟩, ⟨r0, r1, r2, r3, r4, r5, rz⟩⟩ := (show Bw w w1 w.heap.size ⟨k, m, g, x, r⟩ ⟨l, n, h, y, s⟩ from S1)
  go_wp2_with fail
  refine (HF _).mono ?_
  rintro e w2 ⟨rfl, g2⟩
  have S2 : Hid (Bw w w2 w.heap.size ⟨k, m, g, x, r⟩ ⟨l, n, h, y, s⟩) := Bw.step S1 (.of_grown g2)
  clear g2 S1 c0 c1 c2 c3 c4 d0 d1 d2 d3 d4 r0 r1 r2 r3 r4 r5 rz
  obtain ⟨_, ⟨c0, c1, c2, c3, c4⟩, ⟨d0, d1, d2, d3, d4⟩, ⟨r0, r1, r2, r3, r4, r5, rz⟩⟩ := (show Bw w w2 w.heap.size ⟨k, m, g, x, r⟩ ⟨l, n, h, y, s⟩ from S2)
  go_wp2_with fail
  obtain ⟨e0, e1, e2, e3, e4, e5⟩ := rv_set' (show Bw w w2 w.heap.size ⟨k, m, g, x, r⟩ ⟨l, n, h, y, s⟩ from S2).r 1 0 0 0 ⟨#[]⟩ 0
  have GF : Hid (Kq w (s6 w2 (w.heap.size + 2) 1 0 0 0 ⟨#[]⟩ 0)) := s6_kq (show Bw w w2 w.heap.size ⟨k, m, g, x, r⟩ ⟨l, n, h, y, s⟩ from S2).kq (by omega) 1 0 0 0 ⟨#[]⟩ 0
  obtain ⟨WF, hWF⟩ : ∃ WF, WF = s6 w2 (w.heap.size + 2) 1 0 0 0 ⟨#[]⟩ 0 := ⟨_, rfl⟩
  rw [← hWF] at e0 e1 e2 e3 e4 e5 GF
  have hWF' := hWF
  unfold s6 at hWF'
  rw [← hWF']
  clear hWF hWF'
  refine bodyPost_ret (by simp [results, Tryz.results5, go_sem, e0, e1, e2, e3, e4, e5]; rfl) rfl ?_
  exact ⟨rfl, GF⟩
set_option maxHeartbeats 4000000 in
theorem sp_b_b (op : Int) (a b : Vv) (ha : vok a) (hb : ¬ vok b) (hxa : (a.x.size : Int) ≤ 1048576) (hxb : (b.x.size : Int) ≤ 1048576) (w : World) : Calls Tryz.prog 5 #[.int .i64 op, vv a, vv b] w fun e w' => e = .returned (va 1 ⟨0, 0, 0, ⟨#[]⟩, 0⟩) ∧ Kq w w' := by
  have OA := fun w => sp_ok a hxa w
  rw [dc_t ha] at OA
  have OB := fun w => sp_ok b hxb w
  rw [dc_f hb] at OB
  have HF := fun w => sp_fail 1 w
  obtain ⟨k, m, g, x, r⟩ := a
  obtain ⟨l, n, h, y, s⟩ := b
  unfold vv at *
  try unfold va at *
  try dsimp only at *
  clear ha hb hxa hxb
  have hst : ∀ (a : Addr) (n : Nat) (m : Mode) (w : World), (store a (.float .f64 n) m).run Tryz.prog w = stored Tryz.prog w a (.float .f64 n) m := fun a n m w => run_store _ _ _ _ _ rfl
  go_enter Tryz.func5, Tryz.ntmps5
  go_wp2_with fail
  refine (OA _).mono ?_
  rintro e w1 ⟨rfl, g1⟩
  have S1 : Hid (Bw w w1 w.heap.size ⟨k, m, g, x, r⟩ ⟨l, n, h, y, s⟩) := Bw.step (Bw.new w _ _ _ _ _ _ _ _ _ _ _ _) (.of_grown g1)
  clear g1
  obtain ⟨_, ⟨c0, c1, c2, c3, c4⟩, ⟨d0, d1, d2, d3, d4⟩, ⟨r0, r1, r2, r3, r4, r5, rz⟩⟩ := (show Bw w w1 w.heap.size ⟨k, m, g, x, r⟩ ⟨l, n, h, y, s⟩ from S1)
  go_wp2_with fail
  refine (OB _).mono ?_
  rintro e w2 ⟨rfl, g2⟩
  have S2 : Hid (Bw w w2 w.heap.size ⟨k, m, g, x, r⟩ ⟨l, n, h, y, s⟩) := Bw.step S1 (.of_grown g2)
  clear g2 S1 c0 c1 c2 c3 c4 d0 d1 d2 d3 d4 r0 r1 r2 r3 r4 r5 rz
  obtain ⟨_, ⟨c0, c1, c2, c3, c4⟩, ⟨d0, d1, d2, d3, d4⟩, ⟨r0, r1, r2, r3, r4, r5, rz⟩⟩ := (show Bw w w2 w.heap.size ⟨k, m, g, x, r⟩ ⟨l, n, h, y, s⟩ from S2)
  go_wp2_with fail
  refine (HF _).mono ?_
  rintro e w3 ⟨rfl, g3⟩
  have S3 : Hid (Bw w w3 w.heap.size ⟨k, m, g, x, r⟩ ⟨l, n, h, y, s⟩) := Bw.step S2 (.of_grown g3)
  clear g3 S2 c0 c1 c2 c3 c4 d0 d1 d2 d3 d4 r0 r1 r2 r3 r4 r5 rz
  obtain ⟨_, ⟨c0, c1, c2, c3, c4⟩, ⟨d0, d1, d2, d3, d4⟩, ⟨r0, r1, r2, r3, r4, r5, rz⟩⟩ := (show Bw w w3 w.heap.size ⟨k, m, g, x, r⟩ ⟨l, n, h, y, s⟩ from S3)
  go_wp2_with fail
  obtain ⟨e0, e1, e2, e3, e4, e5⟩ := rv_set' (show Bw w w3 w.heap.size ⟨k, m, g, x, r⟩ ⟨l, n, h, y, s⟩ from S3).r 1 0 0 0 ⟨#[]⟩ 0
  have GF : Hid (Kq w (s6 w3 (w.heap.size + 2) 1 0 0 0 ⟨#[]⟩ 0)) := s6_kq (show Bw w w3 w.heap.size ⟨k, m, g, x, r⟩ ⟨l, n, h, y, s⟩ from S3).kq (by omega) 1 0 0 0 ⟨#[]⟩ 0
  obtain ⟨WF, hWF⟩ : ∃ WF, WF = s6 w3 (w.heap.size + 2) 1 0 0 0 ⟨#[]⟩ 0 := ⟨_, rfl⟩
  rw [← hWF] at e0 e1 e2 e3 e4 e5 GF
  have hWF' := hWF
  unfold s6 at hWF'
  rw [← hWF']
  clear hWF hWF'
  refine bodyPost_ret (by simp [results, Tryz.results5, go_sem, e0, e1, e2, e3, e4, e5]; rfl) rfl ?_
  exact ⟨rfl, GF⟩
set_option maxHeartbeats 4000000 in
theorem sp_b_xl (op : Int) (a b : Vv) (ha : vok a) (hb : vok b) (hxa : (a.x.size : Int) ≤ 1048576) (hxb : (b.x.size : Int) ≤ 1048576) (ho : op < 1) (w : World) : Calls Tryz.prog 5 #[.int .i64 op, vv a, vv b] w fun e w' => e = .returned (va 1 ⟨0, 0, 0, ⟨#[]⟩, 0⟩) ∧ Kq w w' := by
  have OA := fun w => sp_ok a hxa w
  rw [dc_t ha] at OA
  have OB := fun w => sp_ok b hxb w
  rw [dc_t hb] at OB
  have HF := fun w => sp_fail 1 w
  obtain ⟨k, m, g, x, r⟩ := a
  obtain ⟨l, n, h, y, s⟩ := b
  unfold vv at *
  try unfold va at *
  try dsimp only at *
  clear ha hb hxa hxb
  have hst : ∀ (a : Addr) (n : Nat) (m : Mode) (w : World), (store a (.float .f64 n) m).run Tryz.prog w = stored Tryz.prog w a (.float .f64 n) m := fun a n m w => run_store _ _ _ _ _ rfl
  go_enter Tryz.func5, Tryz.ntmps5
  go_wp2_with fail
  refine (OA _).mono ?_
  rintro e w1 ⟨rfl, g1⟩
  have S1 : Hid (Bw w w1 w.heap.size ⟨k, m, g, x, r⟩ ⟨l, n, h, y, s⟩) := Bw.step (Bw.new w _ _ _ _ _ _ _ _ _ _ _ _) (.of_grown g1)
  clear g1
  obtain ⟨_, ⟨c0, c1, c2, c3, c4⟩, ⟨d0, d1, d2, d3, d4⟩, ⟨r0, r1, r2, r3, r4, r5, rz⟩⟩ := (show Bw w w1 w.heap.size ⟨k, m, g, x, r⟩ ⟨l, n, h, y, s⟩ from S1)
  go_wp2_with fail
  refine (OB _).mono ?_
  rintro e w2 ⟨rfl, g2⟩
  have S2 : Hid (Bw w w2 w.heap.size ⟨k, m, g, x, r⟩ ⟨l, n, h, y, s⟩) := Bw.step S1 (.of_grown g2)
  clear g2 S1 c0 c1 c2 c3 c4 d0 d1 d2 d3 d4 r0 r1 r2 r3 r4 r5 rz
  obtain ⟨_, ⟨c0, c1, c2, c3, c4⟩, ⟨d0, d1, d2, d3, d4⟩, ⟨r0, r1, r2, r3, r4, r5, rz⟩⟩ := (show Bw w w2 w.heap.size ⟨k, m, g, x, r⟩ ⟨l, n, h, y, s⟩ from S2)
  go_wp2_with fail
  refine (HF _).mono ?_
  rintro e w3 ⟨rfl, g3⟩
  have S3 : Hid (Bw w w3 w.heap.size ⟨k, m, g, x, r⟩ ⟨l, n, h, y, s⟩) := Bw.step S2 (.of_grown g3)
  clear g3 S2 c0 c1 c2 c3 c4 d0 d1 d2 d3 d4 r0 r1 r2 r3 r4 r5 rz
  obtain ⟨_, ⟨c0, c1, c2, c3, c4⟩, ⟨d0, d1, d2, d3, d4⟩, ⟨r0, r1, r2, r3, r4, r5, rz⟩⟩ := (show Bw w w3 w.heap.size ⟨k, m, g, x, r⟩ ⟨l, n, h, y, s⟩ from S3)
  go_wp2_with fail
  obtain ⟨e0, e1, e2, e3, e4, e5⟩ := rv_set' (show Bw w w3 w.heap.size ⟨k, m, g, x, r⟩ ⟨l, n, h, y, s⟩ from S3).r 1 0 0 0 ⟨#[]⟩ 0
  have GF : Hid (Kq w (s6 w3 (w.heap.size + 2) 1 0 0 0 ⟨#[]⟩ 0)) := s6_kq (show Bw w w3 w.heap.size ⟨k, m, g, x, r⟩ ⟨l, n, h, y, s⟩ from S3).kq (by omega) 1 0 0 0 ⟨#[]⟩ 0
  obtain ⟨WF, hWF⟩ : ∃ WF, WF = s6 w3 (w.heap.size + 2) 1 0 0 0 ⟨#[]⟩ 0 := ⟨_, rfl⟩
  rw [← hWF] at e0 e1 e2 e3 e4 e5 GF
  have hWF' := hWF
  unfold s6 at hWF'
  rw [← hWF']
  clear hWF hWF'
  refine bodyPost_ret (by simp [results, Tryz.results5, go_sem, e0, e1, e2, e3, e4, e5]; rfl) rfl ?_
  exact ⟨rfl, GF⟩
set_option maxHeartbeats 4000000 in
theorem sp_b_xg (op : Int) (a b : Vv) (ha : vok a) (hb : vok b) (hxa : (a.x.size : Int) ≤ 1048576) (hxb : (b.x.size : Int) ≤ 1048576) (ho : 18 < op) (w : World) : Calls Tryz.prog 5 #[.int .i64 op, vv a, vv b] w fun e w' => e = .returned (va 1 ⟨0, 0, 0, ⟨#[]⟩, 0⟩) ∧ Kq w w' := by
  have OA := fun w => sp_ok a hxa w
  rw [dc_t ha] at OA
  have OB := fun w => sp_ok b hxb w
  rw [dc_t hb] at OB
  have HF := fun w => sp_fail 1 w
  have h1 : ¬ op < 1 := by omega
  obtain ⟨k, m, g, x, r⟩ := a
  obtain ⟨l, n, h, y, s⟩ := b
  unfold vv at *
  try unfold va at *
  try dsimp only at *
  clear ha hb hxa hxb
  have hst : ∀ (a : Addr) (n : Nat) (m : Mode) (w : World), (store a (.float .f64 n) m).run Tryz.prog w = stored Tryz.prog w a (.float .f64 n) m := fun a n m w => run_store _ _ _ _ _ rfl
  go_enter Tryz.func5, Tryz.ntmps5
  go_wp2_with fail
  refine (OA _).mono ?_
  rintro e w1 ⟨rfl, g1⟩
  have S1 : Hid (Bw w w1 w.heap.size ⟨k, m, g, x, r⟩ ⟨l, n, h, y, s⟩) := Bw.step (Bw.new w _ _ _ _ _ _ _ _ _ _ _ _) (.of_grown g1)
  clear g1
  obtain ⟨_, ⟨c0, c1, c2, c3, c4⟩, ⟨d0, d1, d2, d3, d4⟩, ⟨r0, r1, r2, r3, r4, r5, rz⟩⟩ := (show Bw w w1 w.heap.size ⟨k, m, g, x, r⟩ ⟨l, n, h, y, s⟩ from S1)
  go_wp2_with fail
  refine (OB _).mono ?_
  rintro e w2 ⟨rfl, g2⟩
  have S2 : Hid (Bw w w2 w.heap.size ⟨k, m, g, x, r⟩ ⟨l, n, h, y, s⟩) := Bw.step S1 (.of_grown g2)
  clear g2 S1 c0 c1 c2 c3 c4 d0 d1 d2 d3 d4 r0 r1 r2 r3 r4 r5 rz
  obtain ⟨_, ⟨c0, c1, c2, c3, c4⟩, ⟨d0, d1, d2, d3, d4⟩, ⟨r0, r1, r2, r3, r4, r5, rz⟩⟩ := (show Bw w w2 w.heap.size ⟨k, m, g, x, r⟩ ⟨l, n, h, y, s⟩ from S2)
  go_wp2_with fail
  refine (HF _).mono ?_
  rintro e w3 ⟨rfl, g3⟩
  have S3 : Hid (Bw w w3 w.heap.size ⟨k, m, g, x, r⟩ ⟨l, n, h, y, s⟩) := Bw.step S2 (.of_grown g3)
  clear g3 S2 c0 c1 c2 c3 c4 d0 d1 d2 d3 d4 r0 r1 r2 r3 r4 r5 rz
  obtain ⟨_, ⟨c0, c1, c2, c3, c4⟩, ⟨d0, d1, d2, d3, d4⟩, ⟨r0, r1, r2, r3, r4, r5, rz⟩⟩ := (show Bw w w3 w.heap.size ⟨k, m, g, x, r⟩ ⟨l, n, h, y, s⟩ from S3)
  go_wp2_with fail
  obtain ⟨e0, e1, e2, e3, e4, e5⟩ := rv_set' (show Bw w w3 w.heap.size ⟨k, m, g, x, r⟩ ⟨l, n, h, y, s⟩ from S3).r 1 0 0 0 ⟨#[]⟩ 0
  have GF : Hid (Kq w (s6 w3 (w.heap.size + 2) 1 0 0 0 ⟨#[]⟩ 0)) := s6_kq (show Bw w w3 w.heap.size ⟨k, m, g, x, r⟩ ⟨l, n, h, y, s⟩ from S3).kq (by omega) 1 0 0 0 ⟨#[]⟩ 0
  obtain ⟨WF, hWF⟩ : ∃ WF, WF = s6 w3 (w.heap.size + 2) 1 0 0 0 ⟨#[]⟩ 0 := ⟨_, rfl⟩
  rw [← hWF] at e0 e1 e2 e3 e4 e5 GF
  have hWF' := hWF
  unfold s6 at hWF'
  rw [← hWF']
  clear hWF hWF'
  refine bodyPost_ret (by simp [results, Tryz.results5, go_sem, e0, e1, e2, e3, e4, e5]; rfl) rfl ?_
  exact ⟨rfl, GF⟩
set_option maxHeartbeats 4000000 in
theorem sp_b_ja (a b : Vv) (ha : vok a) (hb : vok b) (hxa : (a.x.size : Int) ≤ 1048576) (hxb : (b.x.size : Int) ≤ 1048576) (ja : ¬ jn a) (w : World) : Calls Tryz.prog 5 #[.int .i64 12, vv a, vv b] w fun e w' => e = .returned (va 1 ⟨0, 0, 0, ⟨#[]⟩, 0⟩) ∧ Kq w w' := by
  have OA := fun w => sp_ok a hxa w
  rw [dc_t ha] at OA
  have OB := fun w => sp_ok b hxb w
  rw [dc_t hb] at OB
  have HF := fun w => sp_fail 1 w
  have JA := fun w => sp_jn a w
  rw [dc_f ja] at JA
  obtain ⟨k, m, g, x, r⟩ := a
  obtain ⟨l, n, h, y, s⟩ := b
  unfold vv at *
  try unfold va at *
  try dsimp only at *
  clear ha hb hxa hxb ja
  have hst : ∀ (a : Addr) (n : Nat) (m : Mode) (w : World), (store a (.float .f64 n) m).run Tryz.prog w = stored Tryz.prog w a (.float .f64 n) m := fun a n m w => run_store _ _ _ _ _ rfl
  go_enter Tryz.func5, Tryz.ntmps5
  go_wp2_with fail
  refine (OA _).mono ?_
  rintro e w1 ⟨rfl, g1⟩
  have S1 : Hid (Bw w w1 w.heap.size ⟨k, m, g, x, r⟩ ⟨l, n, h, y, s⟩) := Bw.step (Bw.new w _ _ _ _ _ _ _ _ _ _ _ _) (.of_grown g1)
  clear g1
  obtain ⟨_, ⟨c0, c1, c2, c3, c4⟩, ⟨d0, d1, d2, d3, d4⟩, ⟨r0, r1, r2, r3, r4, r5, rz⟩⟩ := (show Bw w w1 w.heap.size ⟨k, m, g, x, r⟩ ⟨l, n, h, y, s⟩ from S1)
  go_wp2_with fail
  refine (OB _).mono ?_
  rintro e w2 ⟨rfl, g2⟩
  have S2 : Hid (Bw w w2 w.heap.size ⟨k, m, g, x, r⟩ ⟨l, n, h, y, s⟩) := Bw.step S1 (.of_grown g2)
  clear g2 S1 c0 c1 c2 c3 c4 d0 d1 d2 d3 d4 r0 r1 r2 r3 r4 r5 rz
  obtain ⟨_, ⟨c0, c1, c2, c3, c4⟩, ⟨d0, d1, d2, d3, d4⟩, ⟨r0, r1, r2, r3, r4, r5, rz⟩⟩ := (show Bw w w2 w.heap.size ⟨k, m, g, x, r⟩ ⟨l, n, h, y, s⟩ from S2)
  go_wp2_with fail
  refine (JA _).mono ?_
  rintro e w3 ⟨rfl, g3⟩
  have S3 : Hid (Bw w w3 w.heap.size ⟨k, m, g, x, r⟩ ⟨l, n, h, y, s⟩) := Bw.step S2 (.of_grown g3)
  clear g3 S2 c0 c1 c2 c3 c4 d0 d1 d2 d3 d4 r0 r1 r2 r3 r4 r5 rz
  obtain ⟨_, ⟨c0, c1, c2, c3, c4⟩, ⟨d0, d1, d2, d3, d4⟩, ⟨r0, r1, r2, r3, r4, r5, rz⟩⟩ := (show Bw w w3 w.heap.size ⟨k, m, g, x, r⟩ ⟨l, n, h, y, s⟩ from S3)
  go_wp2_with fail
  refine (HF _).mono ?_
  rintro e w4 ⟨rfl, g4⟩
  have S4 : Hid (Bw w w4 w.heap.size ⟨k, m, g, x, r⟩ ⟨l, n, h, y, s⟩) := Bw.step S3 (.of_grown g4)
  clear g4 S3 c0 c1 c2 c3 c4 d0 d1 d2 d3 d4 r0 r1 r2 r3 r4 r5 rz
  obtain ⟨_, ⟨c0, c1, c2, c3, c4⟩, ⟨d0, d1, d2, d3, d4⟩, ⟨r0, r1, r2, r3, r4, r5, rz⟩⟩ := (show Bw w w4 w.heap.size ⟨k, m, g, x, r⟩ ⟨l, n, h, y, s⟩ from S4)
  go_wp2_with fail
  obtain ⟨e0, e1, e2, e3, e4, e5⟩ := rv_set' (show Bw w w4 w.heap.size ⟨k, m, g, x, r⟩ ⟨l, n, h, y, s⟩ from S4).r 1 0 0 0 ⟨#[]⟩ 0
  have GF : Hid (Kq w (s6 w4 (w.heap.size + 2) 1 0 0 0 ⟨#[]⟩ 0)) := s6_kq (show Bw w w4 w.heap.size ⟨k, m, g, x, r⟩ ⟨l, n, h, y, s⟩ from S4).kq (by omega) 1 0 0 0 ⟨#[]⟩ 0
  obtain ⟨WF, hWF⟩ : ∃ WF, WF = s6 w4 (w.heap.size + 2) 1 0 0 0 ⟨#[]⟩ 0 := ⟨_, rfl⟩
  rw [← hWF] at e0 e1 e2 e3 e4 e5 GF
  have hWF' := hWF
  unfold s6 at hWF'
  rw [← hWF']
  clear hWF hWF'
  refine bodyPost_ret (by simp [results, Tryz.results5, go_sem, e0, e1, e2, e3, e4, e5]; rfl) rfl ?_
  exact ⟨rfl, GF⟩
set_option maxHeartbeats 4000000 in
theorem sp_b_jb (a b : Vv) (ha : vok a) (hb : vok b) (hxa : (a.x.size : Int) ≤ 1048576) (hxb : (b.x.size : Int) ≤ 1048576) (ja : jn a) (jb : ¬ jn b) (w : World) : Calls Tryz.prog 5 #[.int .i64 12, vv a, vv b] w fun e w' => e = .returned (va 1 ⟨0, 0, 0, ⟨#[]⟩, 0⟩) ∧ Kq w w' := by
  have OA := fun w => sp_ok a hxa w
  rw [dc_t ha] at OA
  have OB := fun w => sp_ok b hxb w
  rw [dc_t hb] at OB
  have HF := fun w => sp_fail 1 w
  have JA := fun w => sp_jn a w
  rw [dc_t ja] at JA
  have JB := fun w => sp_jn b w
  rw [dc_f jb] at JB
  obtain ⟨k, m, g, x, r⟩ := a
  obtain ⟨l, n, h, y, s⟩ := b
  unfold vv at *
  try unfold va at *
  try dsimp only at *
  clear ha hb hxa hxb ja jb
  have hst : ∀ (a : Addr) (n : Nat) (m : Mode) (w : World), (store a (.float .f64 n) m).run Tryz.prog w = stored Tryz.prog w a (.float .f64 n) m := fun a n m w => run_store _ _ _ _ _ rfl
  go_enter Tryz.func5, Tryz.ntmps5
  go_wp2_with fail
  refine (OA _).mono ?_
  rintro e w1 ⟨rfl, g1⟩
  have S1 : Hid (Bw w w1 w.heap.size ⟨k, m, g, x, r⟩ ⟨l, n, h, y, s⟩) := Bw.step (Bw.new w _ _ _ _ _ _ _ _ _ _ _ _) (.of_grown g1)
  clear g1
  obtain ⟨_, ⟨c0, c1, c2, c3, c4⟩, ⟨d0, d1, d2, d3, d4⟩, ⟨r0, r1, r2, r3, r4, r5, rz⟩⟩ := (show Bw w w1 w.heap.size ⟨k, m, g, x, r⟩ ⟨l, n, h, y, s⟩ from S1)
  go_wp2_with fail
  refine (OB _).mono ?_
  rintro e w2 ⟨rfl, g2⟩
  have S2 : Hid (Bw w w2 w.heap.size ⟨k, m, g, x, r⟩ ⟨l, n, h, y, s⟩) := Bw.step S1 (.of_grown g2)
  clear g2 S1 c0 c1 c2 c3 c4 d0 d1 d2 d3 d4 r0 r1 r2 r3 r4 r5 rz
  obtain ⟨_, ⟨c0, c1, c2, c3, c4⟩, ⟨d0, d1, d2, d3, d4⟩, ⟨r0, r1, r2, r3, r4, r5, rz⟩⟩ := (show Bw w w2 w.heap.size ⟨k, m, g, x, r⟩ ⟨l, n, h, y, s⟩ from S2)
  go_wp2_with fail
  refine (JA _).mono ?_
  rintro e w3 ⟨rfl, g3⟩
  have S3 : Hid (Bw w w3 w.heap.size ⟨k, m, g, x, r⟩ ⟨l, n, h, y, s⟩) := Bw.step S2 (.of_grown g3)
  clear g3 S2 c0 c1 c2 c3 c4 d0 d1 d2 d3 d4 r0 r1 r2 r3 r4 r5 rz
  obtain ⟨_, ⟨c0, c1, c2, c3, c4⟩, ⟨d0, d1, d2, d3, d4⟩, ⟨r0, r1, r2, r3, r4, r5, rz⟩⟩ := (show Bw w w3 w.heap.size ⟨k, m, g, x, r⟩ ⟨l, n, h, y, s⟩ from S3)
  go_wp2_with fail
  refine (JB _).mono ?_
  rintro e w4 ⟨rfl, g4⟩
  have S4 : Hid (Bw w w4 w.heap.size ⟨k, m, g, x, r⟩ ⟨l, n, h, y, s⟩) := Bw.step S3 (.of_grown g4)
  clear g4 S3 c0 c1 c2 c3 c4 d0 d1 d2 d3 d4 r0 r1 r2 r3 r4 r5 rz
  obtain ⟨_, ⟨c0, c1, c2, c3, c4⟩, ⟨d0, d1, d2, d3, d4⟩, ⟨r0, r1, r2, r3, r4, r5, rz⟩⟩ := (show Bw w w4 w.heap.size ⟨k, m, g, x, r⟩ ⟨l, n, h, y, s⟩ from S4)
  go_wp2_with fail
  refine (HF _).mono ?_
  rintro e w5 ⟨rfl, g5⟩
  have S5 : Hid (Bw w w5 w.heap.size ⟨k, m, g, x, r⟩ ⟨l, n, h, y, s⟩) := Bw.step S4 (.of_grown g5)
  clear g5 S4 c0 c1 c2 c3 c4 d0 d1 d2 d3 d4 r0 r1 r2 r3 r4 r5 rz
  obtain ⟨_, ⟨c0, c1, c2, c3, c4⟩, ⟨d0, d1, d2, d3, d4⟩, ⟨r0, r1, r2, r3, r4, r5, rz⟩⟩ := (show Bw w w5 w.heap.size ⟨k, m, g, x, r⟩ ⟨l, n, h, y, s⟩ from S5)
  go_wp2_with fail
  obtain ⟨e0, e1, e2, e3, e4, e5⟩ := rv_set' (show Bw w w5 w.heap.size ⟨k, m, g, x, r⟩ ⟨l, n, h, y, s⟩ from S5).r 1 0 0 0 ⟨#[]⟩ 0
  have GF : Hid (Kq w (s6 w5 (w.heap.size + 2) 1 0 0 0 ⟨#[]⟩ 0)) := s6_kq (show Bw w w5 w.heap.size ⟨k, m, g, x, r⟩ ⟨l, n, h, y, s⟩ from S5).kq (by omega) 1 0 0 0 ⟨#[]⟩ 0
  obtain ⟨WF, hWF⟩ : ∃ WF, WF = s6 w5 (w.heap.size + 2) 1 0 0 0 ⟨#[]⟩ 0 := ⟨_, rfl⟩
  rw [← hWF] at e0 e1 e2 e3 e4 e5 GF
  have hWF' := hWF
  unfold s6 at hWF'
  rw [← hWF']
  clear hWF hWF'
  refine bodyPost_ret (by simp [results, Tryz.results5, go_sem, e0, e1, e2, e3, e4, e5]; rfl) rfl ?_
  exact ⟨rfl, GF⟩
set_option maxHeartbeats 4000000 in
theorem sp_b_jl (a b : Vv) (ha : vok a) (hb : vok b) (hxa : (a.x.size : Int) ≤ 1048576) (hxb : (b.x.size : Int) ≤ 1048576) (ja : jn a) (jb : jn b) (TA TB : ByteArray) (HTA : (∀ w, Calls Tryz.prog 12 #[vv a] w fun e w' => e = .returned (.string TA) ∧ Grown w w')) (HTB : (∀ w, Calls Tryz.prog 12 #[vv b] w fun e w' => e = .returned (.string TB) ∧ Grown w w')) (zA : TA.size ≤ 4000) (zB : TB.size ≤ 4000) (hz : 4000 < (TA.size : Int) + (TB.size : Int)) (w : World) : Calls Tryz.prog 5 #[.int .i64 12, vv a, vv b] w fun e w' => e = .returned (va 4 ⟨0, 0, 0, ⟨#[]⟩, 0⟩) ∧ Kq w w' := by
  have OA := fun w => sp_ok a hxa w
  rw [dc_t ha] at OA
  have OB := fun w => sp_ok b hxb w
  rw [dc_t hb] at OB
  have HF := fun w => sp_fail 4 w
  have JA := fun w => sp_jn a w
  rw [dc_t ja] at JA
  have JB := fun w => sp_jn b w
  rw [dc_t jb] at JB
  have hcat : TA.size + TB.size ≤ 9223372036854775807 := by omega
  have hct2 : ¬ 9223372036854775807 < TA.size + TB.size := by omega
  have hrn := fun (w : World) => run_string_add_sum (P := Tryz.prog) (w := w) TA TB hcat
  have hwz : wrap64 ((TA.size : Int) + (TB.size : Int)) = (TA.size : Int) + (TB.size : Int) := wrap_id (by omega) (by omega)
  obtain ⟨k, m, g, x, r⟩ := a
  obtain ⟨l, n, h, y, s⟩ := b
  unfold vv at *
  try unfold va at *
  try dsimp only at *
  clear ha hb hxa hxb ja jb zA zB
  have hst : ∀ (a : Addr) (n : Nat) (m : Mode) (w : World), (store a (.float .f64 n) m).run Tryz.prog w = stored Tryz.prog w a (.float .f64 n) m := fun a n m w => run_store _ _ _ _ _ rfl
  go_enter Tryz.func5, Tryz.ntmps5
  go_wp2_with fail
  refine (OA _).mono ?_
  rintro e w1 ⟨rfl, g1⟩
  have S1 : Hid (Bw w w1 w.heap.size ⟨k, m, g, x, r⟩ ⟨l, n, h, y, s⟩) := Bw.step (Bw.new w _ _ _ _ _ _ _ _ _ _ _ _) (.of_grown g1)
  clear g1
  obtain ⟨_, ⟨c0, c1, c2, c3, c4⟩, ⟨d0, d1, d2, d3, d4⟩, ⟨r0, r1, r2, r3, r4, r5, rz⟩⟩ := (show Bw w w1 w.heap.size ⟨k, m, g, x, r⟩ ⟨l, n, h, y, s⟩ from S1)
  go_wp2_with fail
  refine (OB _).mono ?_
  rintro e w2 ⟨rfl, g2⟩
  have S2 : Hid (Bw w w2 w.heap.size ⟨k, m, g, x, r⟩ ⟨l, n, h, y, s⟩) := Bw.step S1 (.of_grown g2)
  clear g2 S1 c0 c1 c2 c3 c4 d0 d1 d2 d3 d4 r0 r1 r2 r3 r4 r5 rz
  obtain ⟨_, ⟨c0, c1, c2, c3, c4⟩, ⟨d0, d1, d2, d3, d4⟩, ⟨r0, r1, r2, r3, r4, r5, rz⟩⟩ := (show Bw w w2 w.heap.size ⟨k, m, g, x, r⟩ ⟨l, n, h, y, s⟩ from S2)
  go_wp2_with fail
  refine (JA _).mono ?_
  rintro e w3 ⟨rfl, g3⟩
  have S3 : Hid (Bw w w3 w.heap.size ⟨k, m, g, x, r⟩ ⟨l, n, h, y, s⟩) := Bw.step S2 (.of_grown g3)
  clear g3 S2 c0 c1 c2 c3 c4 d0 d1 d2 d3 d4 r0 r1 r2 r3 r4 r5 rz
  obtain ⟨_, ⟨c0, c1, c2, c3, c4⟩, ⟨d0, d1, d2, d3, d4⟩, ⟨r0, r1, r2, r3, r4, r5, rz⟩⟩ := (show Bw w w3 w.heap.size ⟨k, m, g, x, r⟩ ⟨l, n, h, y, s⟩ from S3)
  go_wp2_with fail
  refine (JB _).mono ?_
  rintro e w4 ⟨rfl, g4⟩
  have S4 : Hid (Bw w w4 w.heap.size ⟨k, m, g, x, r⟩ ⟨l, n, h, y, s⟩) := Bw.step S3 (.of_grown g4)
  clear g4 S3 c0 c1 c2 c3 c4 d0 d1 d2 d3 d4 r0 r1 r2 r3 r4 r5 rz
  obtain ⟨_, ⟨c0, c1, c2, c3, c4⟩, ⟨d0, d1, d2, d3, d4⟩, ⟨r0, r1, r2, r3, r4, r5, rz⟩⟩ := (show Bw w w4 w.heap.size ⟨k, m, g, x, r⟩ ⟨l, n, h, y, s⟩ from S4)
  go_wp2_with fail
  refine (HTA _).mono ?_
  rintro e w5 ⟨rfl, g5⟩
  have S5 : Hid (Bw w w5 w.heap.size ⟨k, m, g, x, r⟩ ⟨l, n, h, y, s⟩) := Bw.step S4 (.of_grown g5)
  clear g5 S4 c0 c1 c2 c3 c4 d0 d1 d2 d3 d4 r0 r1 r2 r3 r4 r5 rz
  obtain ⟨_, ⟨c0, c1, c2, c3, c4⟩, ⟨d0, d1, d2, d3, d4⟩, ⟨r0, r1, r2, r3, r4, r5, rz⟩⟩ := (show Bw w w5 w.heap.size ⟨k, m, g, x, r⟩ ⟨l, n, h, y, s⟩ from S5)
  go_wp2_with fail
  refine (HTB _).mono ?_
  rintro e w6 ⟨rfl, g6⟩
  have S6 : Hid (Bw w w6 w.heap.size ⟨k, m, g, x, r⟩ ⟨l, n, h, y, s⟩) := Bw.step S5 (.of_grown g6)
  clear g6 S5 c0 c1 c2 c3 c4 d0 d1 d2 d3 d4 r0 r1 r2 r3 r4 r5 rz
  obtain ⟨_, ⟨c0, c1, c2, c3, c4⟩, ⟨d0, d1, d2, d3, d4⟩, ⟨r0, r1, r2, r3, r4, r5, rz⟩⟩ := (show Bw w w6 w.heap.size ⟨k, m, g, x, r⟩ ⟨l, n, h, y, s⟩ from S6)
  go_wp2_with fail
  refine (HF _).mono ?_
  rintro e w7 ⟨rfl, g7⟩
  have S7 : Hid (Bw w w7 w.heap.size ⟨k, m, g, x, r⟩ ⟨l, n, h, y, s⟩) := Bw.step S6 (.of_grown g7)
  clear g7 S6 c0 c1 c2 c3 c4 d0 d1 d2 d3 d4 r0 r1 r2 r3 r4 r5 rz
  obtain ⟨_, ⟨c0, c1, c2, c3, c4⟩, ⟨d0, d1, d2, d3, d4⟩, ⟨r0, r1, r2, r3, r4, r5, rz⟩⟩ := (show Bw w w7 w.heap.size ⟨k, m, g, x, r⟩ ⟨l, n, h, y, s⟩ from S7)
  go_wp2_with fail
  obtain ⟨e0, e1, e2, e3, e4, e5⟩ := rv_set' (show Bw w w7 w.heap.size ⟨k, m, g, x, r⟩ ⟨l, n, h, y, s⟩ from S7).r 4 0 0 0 ⟨#[]⟩ 0
  have GF : Hid (Kq w (s6 w7 (w.heap.size + 2) 4 0 0 0 ⟨#[]⟩ 0)) := s6_kq (show Bw w w7 w.heap.size ⟨k, m, g, x, r⟩ ⟨l, n, h, y, s⟩ from S7).kq (by omega) 4 0 0 0 ⟨#[]⟩ 0
  obtain ⟨WF, hWF⟩ : ∃ WF, WF = s6 w7 (w.heap.size + 2) 4 0 0 0 ⟨#[]⟩ 0 := ⟨_, rfl⟩
  rw [← hWF] at e0 e1 e2 e3 e4 e5 GF
  have hWF' := hWF
  unfold s6 at hWF'
  rw [← hWF']
  clear hWF hWF'
  refine bodyPost_ret (by simp [results, Tryz.results5, go_sem, e0, e1, e2, e3, e4, e5]; rfl) rfl ?_
  exact ⟨rfl, GF⟩
set_option maxHeartbeats 4000000 in
theorem sp_b_jo (a b : Vv) (ha : vok a) (hb : vok b) (hxa : (a.x.size : Int) ≤ 1048576) (hxb : (b.x.size : Int) ≤ 1048576) (ja : jn a) (jb : jn b) (TA TB : ByteArray) (HTA : (∀ w, Calls Tryz.prog 12 #[vv a] w fun e w' => e = .returned (.string TA) ∧ Grown w w')) (HTB : (∀ w, Calls Tryz.prog 12 #[vv b] w fun e w' => e = .returned (.string TB) ∧ Grown w w')) (zA : TA.size ≤ 4000) (zB : TB.size ≤ 4000) (hz : ¬ 4000 < (TA.size : Int) + (TB.size : Int)) (w : World) : Calls Tryz.prog 5 #[.int .i64 12, vv a, vv b] w fun e w' => e = .returned (va 0 ⟨4, 0, 0, TA ++ TB, 0⟩) ∧ Kq w w' := by
  have OA := fun w => sp_ok a hxa w
  rw [dc_t ha] at OA
  have OB := fun w => sp_ok b hxb w
  rw [dc_t hb] at OB
  have JA := fun w => sp_jn a w
  rw [dc_t ja] at JA
  have JB := fun w => sp_jn b w
  rw [dc_t jb] at JB
  have hcat : TA.size + TB.size ≤ 9223372036854775807 := by omega
  have hct2 : ¬ 9223372036854775807 < TA.size + TB.size := by omega
  have hrn := fun (w : World) => run_string_add_sum (P := Tryz.prog) (w := w) TA TB hcat
  have hwz : wrap64 ((TA.size : Int) + (TB.size : Int)) = (TA.size : Int) + (TB.size : Int) := wrap_id (by omega) (by omega)
  have HI := fun w => sp_str (TA ++ TB) w
  have HG := fun w => sp_got ⟨4, 0, 0, TA ++ TB, 0⟩ w
  obtain ⟨k, m, g, x, r⟩ := a
  obtain ⟨l, n, h, y, s⟩ := b
  unfold vv at *
  try unfold va at *
  try dsimp only at *
  clear ha hb hxa hxb ja jb zA zB
  have hst : ∀ (a : Addr) (n : Nat) (m : Mode) (w : World), (store a (.float .f64 n) m).run Tryz.prog w = stored Tryz.prog w a (.float .f64 n) m := fun a n m w => run_store _ _ _ _ _ rfl
  go_enter Tryz.func5, Tryz.ntmps5
  go_wp2_with fail
  refine (OA _).mono ?_
  rintro e w1 ⟨rfl, g1⟩
  have S1 : Hid (Bw w w1 w.heap.size ⟨k, m, g, x, r⟩ ⟨l, n, h, y, s⟩) := Bw.step (Bw.new w _ _ _ _ _ _ _ _ _ _ _ _) (.of_grown g1)
  clear g1
  obtain ⟨_, ⟨c0, c1, c2, c3, c4⟩, ⟨d0, d1, d2, d3, d4⟩, ⟨r0, r1, r2, r3, r4, r5, rz⟩⟩ := (show Bw w w1 w.heap.size ⟨k, m, g, x, r⟩ ⟨l, n, h, y, s⟩ from S1)
  go_wp2_with fail
  refine (OB _).mono ?_
  rintro e w2 ⟨rfl, g2⟩
  have S2 : Hid (Bw w w2 w.heap.size ⟨k, m, g, x, r⟩ ⟨l, n, h, y, s⟩) := Bw.step S1 (.of_grown g2)
  clear g2 S1 c0 c1 c2 c3 c4 d0 d1 d2 d3 d4 r0 r1 r2 r3 r4 r5 rz
  obtain ⟨_, ⟨c0, c1, c2, c3, c4⟩, ⟨d0, d1, d2, d3, d4⟩, ⟨r0, r1, r2, r3, r4, r5, rz⟩⟩ := (show Bw w w2 w.heap.size ⟨k, m, g, x, r⟩ ⟨l, n, h, y, s⟩ from S2)
  go_wp2_with fail
  refine (JA _).mono ?_
  rintro e w3 ⟨rfl, g3⟩
  have S3 : Hid (Bw w w3 w.heap.size ⟨k, m, g, x, r⟩ ⟨l, n, h, y, s⟩) := Bw.step S2 (.of_grown g3)
  clear g3 S2 c0 c1 c2 c3 c4 d0 d1 d2 d3 d4 r0 r1 r2 r3 r4 r5 rz
  obtain ⟨_, ⟨c0, c1, c2, c3, c4⟩, ⟨d0, d1, d2, d3, d4⟩, ⟨r0, r1, r2, r3, r4, r5, rz⟩⟩ := (show Bw w w3 w.heap.size ⟨k, m, g, x, r⟩ ⟨l, n, h, y, s⟩ from S3)
  go_wp2_with fail
  refine (JB _).mono ?_
  rintro e w4 ⟨rfl, g4⟩
  have S4 : Hid (Bw w w4 w.heap.size ⟨k, m, g, x, r⟩ ⟨l, n, h, y, s⟩) := Bw.step S3 (.of_grown g4)
  clear g4 S3 c0 c1 c2 c3 c4 d0 d1 d2 d3 d4 r0 r1 r2 r3 r4 r5 rz
  obtain ⟨_, ⟨c0, c1, c2, c3, c4⟩, ⟨d0, d1, d2, d3, d4⟩, ⟨r0, r1, r2, r3, r4, r5, rz⟩⟩ := (show Bw w w4 w.heap.size ⟨k, m, g, x, r⟩ ⟨l, n, h, y, s⟩ from S4)
  go_wp2_with fail
  refine (HTA _).mono ?_
  rintro e w5 ⟨rfl, g5⟩
  have S5 : Hid (Bw w w5 w.heap.size ⟨k, m, g, x, r⟩ ⟨l, n, h, y, s⟩) := Bw.step S4 (.of_grown g5)
  clear g5 S4 c0 c1 c2 c3 c4 d0 d1 d2 d3 d4 r0 r1 r2 r3 r4 r5 rz
  obtain ⟨_, ⟨c0, c1, c2, c3, c4⟩, ⟨d0, d1, d2, d3, d4⟩, ⟨r0, r1, r2, r3, r4, r5, rz⟩⟩ := (show Bw w w5 w.heap.size ⟨k, m, g, x, r⟩ ⟨l, n, h, y, s⟩ from S5)
  go_wp2_with fail
  refine (HTB _).mono ?_
  rintro e w6 ⟨rfl, g6⟩
  have S6 : Hid (Bw w w6 w.heap.size ⟨k, m, g, x, r⟩ ⟨l, n, h, y, s⟩) := Bw.step S5 (.of_grown g6)
  clear g6 S5 c0 c1 c2 c3 c4 d0 d1 d2 d3 d4 r0 r1 r2 r3 r4 r5 rz
  obtain ⟨_, ⟨c0, c1, c2, c3, c4⟩, ⟨d0, d1, d2, d3, d4⟩, ⟨r0, r1, r2, r3, r4, r5, rz⟩⟩ := (show Bw w w6 w.heap.size ⟨k, m, g, x, r⟩ ⟨l, n, h, y, s⟩ from S6)
  go_wp2_with fail
  refine (HI _).mono ?_
  rintro e w7 ⟨rfl, g7⟩
  have S7 : Hid (Bw w w7 w.heap.size ⟨k, m, g, x, r⟩ ⟨l, n, h, y, s⟩) := Bw.step S6 (.of_grown g7)
  clear g7 S6 c0 c1 c2 c3 c4 d0 d1 d2 d3 d4 r0 r1 r2 r3 r4 r5 rz
  obtain ⟨_, ⟨c0, c1, c2, c3, c4⟩, ⟨d0, d1, d2, d3, d4⟩, ⟨r0, r1, r2, r3, r4, r5, rz⟩⟩ := (show Bw w w7 w.heap.size ⟨k, m, g, x, r⟩ ⟨l, n, h, y, s⟩ from S7)
  go_wp2_with fail
  refine (HG _).mono ?_
  rintro e w8 ⟨rfl, g8⟩
  have S8 : Hid (Bw w w8 w.heap.size ⟨k, m, g, x, r⟩ ⟨l, n, h, y, s⟩) := Bw.step S7 (.of_grown g8)
  clear g8 S7 c0 c1 c2 c3 c4 d0 d1 d2 d3 d4 r0 r1 r2 r3 r4 r5 rz
  obtain ⟨_, ⟨c0, c1, c2, c3, c4⟩, ⟨d0, d1, d2, d3, d4⟩, ⟨r0, r1, r2, r3, r4, r5, rz⟩⟩ := (show Bw w w8 w.heap.size ⟨k, m, g, x, r⟩ ⟨l, n, h, y, s⟩ from S8)
  go_wp2_with fail
  obtain ⟨e0, e1, e2, e3, e4, e5⟩ := rv_set' (show Bw w w8 w.heap.size ⟨k, m, g, x, r⟩ ⟨l, n, h, y, s⟩ from S8).r 0 4 0 0 (TA ++ TB) 0
  have GF : Hid (Kq w (s6 w8 (w.heap.size + 2) 0 4 0 0 (TA ++ TB) 0)) := s6_kq (show Bw w w8 w.heap.size ⟨k, m, g, x, r⟩ ⟨l, n, h, y, s⟩ from S8).kq (by omega) 0 4 0 0 (TA ++ TB) 0
  obtain ⟨WF, hWF⟩ : ∃ WF, WF = s6 w8 (w.heap.size + 2) 0 4 0 0 (TA ++ TB) 0 := ⟨_, rfl⟩
  rw [← hWF] at e0 e1 e2 e3 e4 e5 GF
  have hWF' := hWF
  unfold s6 at hWF'
  rw [← hWF']
  clear hWF hWF'
  refine bodyPost_ret (by simp [results, Tryz.results5, go_sem, e0, e1, e2, e3, e4, e5]; rfl) rfl ?_
  exact ⟨rfl, GF⟩
set_option maxHeartbeats 4000000 in
theorem sp_b_e (a b : Vv) (ha : vok a) (hb : vok b) (hxa : (a.x.size : Int) ≤ 1048576) (hxb : (b.x.size : Int) ≤ 1048576) (R : Bool) (HV : (∀ w, Calls Tryz.prog 16 #[vv a, vv b] w fun e w' => e = .returned (.bool R) ∧ Grown w w')) (w : World) : Calls Tryz.prog 5 #[.int .i64 13, vv a, vv b] w fun e w' => e = .returned (va 0 ⟨1, (R).toInt, 0, ⟨#[]⟩, 0⟩) ∧ Kq w w' := by
  have OA := fun w => sp_ok a hxa w
  rw [dc_t ha] at OA
  have OB := fun w => sp_ok b hxb w
  rw [dc_t hb] at OB
  have HB := fun w => sp_tru R w
  have HG := fun w => sp_got ⟨1, (R).toInt, 0, ⟨#[]⟩, 0⟩ w
  generalize hrt : (R).toInt = rt at *
  obtain ⟨k, m, g, x, r⟩ := a
  obtain ⟨l, n, h, y, s⟩ := b
  unfold vv at *
  try unfold va at *
  try dsimp only at *
  clear ha hb hxa hxb
  have hst : ∀ (a : Addr) (n : Nat) (m : Mode) (w : World), (store a (.float .f64 n) m).run Tryz.prog w = stored Tryz.prog w a (.float .f64 n) m := fun a n m w => run_store _ _ _ _ _ rfl
  go_enter Tryz.func5, Tryz.ntmps5
  go_wp2_with fail
  refine (OA _).mono ?_
  rintro e w1 ⟨rfl, g1⟩
  have S1 : Hid (Bw w w1 w.heap.size ⟨k, m, g, x, r⟩ ⟨l, n, h, y, s⟩) := Bw.step (Bw.new w _ _ _ _ _ _ _ _ _ _ _ _) (.of_grown g1)
  clear g1
  obtain ⟨_, ⟨c0, c1, c2, c3, c4⟩, ⟨d0, d1, d2, d3, d4⟩, ⟨r0, r1, r2, r3, r4, r5, rz⟩⟩ := (show Bw w w1 w.heap.size ⟨k, m, g, x, r⟩ ⟨l, n, h, y, s⟩ from S1)
  go_wp2_with fail
  refine (OB _).mono ?_
  rintro e w2 ⟨rfl, g2⟩
  have S2 : Hid (Bw w w2 w.heap.size ⟨k, m, g, x, r⟩ ⟨l, n, h, y, s⟩) := Bw.step S1 (.of_grown g2)
  clear g2 S1 c0 c1 c2 c3 c4 d0 d1 d2 d3 d4 r0 r1 r2 r3 r4 r5 rz
  obtain ⟨_, ⟨c0, c1, c2, c3, c4⟩, ⟨d0, d1, d2, d3, d4⟩, ⟨r0, r1, r2, r3, r4, r5, rz⟩⟩ := (show Bw w w2 w.heap.size ⟨k, m, g, x, r⟩ ⟨l, n, h, y, s⟩ from S2)
  go_wp2_with fail
  refine (HV _).mono ?_
  rintro e w3 ⟨rfl, g3⟩
  have S3 : Hid (Bw w w3 w.heap.size ⟨k, m, g, x, r⟩ ⟨l, n, h, y, s⟩) := Bw.step S2 (.of_grown g3)
  clear g3 S2 c0 c1 c2 c3 c4 d0 d1 d2 d3 d4 r0 r1 r2 r3 r4 r5 rz
  obtain ⟨_, ⟨c0, c1, c2, c3, c4⟩, ⟨d0, d1, d2, d3, d4⟩, ⟨r0, r1, r2, r3, r4, r5, rz⟩⟩ := (show Bw w w3 w.heap.size ⟨k, m, g, x, r⟩ ⟨l, n, h, y, s⟩ from S3)
  go_wp2_with fail
  refine (HB _).mono ?_
  rintro e w4 ⟨rfl, g4⟩
  have S4 : Hid (Bw w w4 w.heap.size ⟨k, m, g, x, r⟩ ⟨l, n, h, y, s⟩) := Bw.step S3 (.of_grown g4)
  clear g4 S3 c0 c1 c2 c3 c4 d0 d1 d2 d3 d4 r0 r1 r2 r3 r4 r5 rz
  obtain ⟨_, ⟨c0, c1, c2, c3, c4⟩, ⟨d0, d1, d2, d3, d4⟩, ⟨r0, r1, r2, r3, r4, r5, rz⟩⟩ := (show Bw w w4 w.heap.size ⟨k, m, g, x, r⟩ ⟨l, n, h, y, s⟩ from S4)
  go_wp2_with fail
  refine (HG _).mono ?_
  rintro e w5 ⟨rfl, g5⟩
  have S5 : Hid (Bw w w5 w.heap.size ⟨k, m, g, x, r⟩ ⟨l, n, h, y, s⟩) := Bw.step S4 (.of_grown g5)
  clear g5 S4 c0 c1 c2 c3 c4 d0 d1 d2 d3 d4 r0 r1 r2 r3 r4 r5 rz
  obtain ⟨_, ⟨c0, c1, c2, c3, c4⟩, ⟨d0, d1, d2, d3, d4⟩, ⟨r0, r1, r2, r3, r4, r5, rz⟩⟩ := (show Bw w w5 w.heap.size ⟨k, m, g, x, r⟩ ⟨l, n, h, y, s⟩ from S5)
  go_wp2_with fail
  obtain ⟨e0, e1, e2, e3, e4, e5⟩ := rv_set' (show Bw w w5 w.heap.size ⟨k, m, g, x, r⟩ ⟨l, n, h, y, s⟩ from S5).r 0 1 rt 0 ⟨#[]⟩ 0
  have GF : Hid (Kq w (s6 w5 (w.heap.size + 2) 0 1 rt 0 ⟨#[]⟩ 0)) := s6_kq (show Bw w w5 w.heap.size ⟨k, m, g, x, r⟩ ⟨l, n, h, y, s⟩ from S5).kq (by omega) 0 1 rt 0 ⟨#[]⟩ 0
  obtain ⟨WF, hWF⟩ : ∃ WF, WF = s6 w5 (w.heap.size + 2) 0 1 rt 0 ⟨#[]⟩ 0 := ⟨_, rfl⟩
  rw [← hWF] at e0 e1 e2 e3 e4 e5 GF
  have hWF' := hWF
  unfold s6 at hWF'
  rw [← hWF']
  clear hWF hWF'
  refine bodyPost_ret (by simp [results, Tryz.results5, go_sem, e0, e1, e2, e3, e4, e5]; rfl) rfl ?_
  exact ⟨rfl, GF⟩
set_option maxHeartbeats 4000000 in
theorem sp_b_n (a b : Vv) (ha : vok a) (hb : vok b) (hxa : (a.x.size : Int) ≤ 1048576) (hxb : (b.x.size : Int) ≤ 1048576) (R : Bool) (HV : (∀ w, Calls Tryz.prog 16 #[vv a, vv b] w fun e w' => e = .returned (.bool R) ∧ Grown w w')) (w : World) : Calls Tryz.prog 5 #[.int .i64 14, vv a, vv b] w fun e w' => e = .returned (va 0 ⟨1, ((!R)).toInt, 0, ⟨#[]⟩, 0⟩) ∧ Kq w w' := by
  have OA := fun w => sp_ok a hxa w
  rw [dc_t ha] at OA
  have OB := fun w => sp_ok b hxb w
  rw [dc_t hb] at OB
  have HB := fun w => sp_tru (!R) w
  have HG := fun w => sp_got ⟨1, ((!R)).toInt, 0, ⟨#[]⟩, 0⟩ w
  generalize hrt : ((!R)).toInt = rt at *
  obtain ⟨k, m, g, x, r⟩ := a
  obtain ⟨l, n, h, y, s⟩ := b
  unfold vv at *
  try unfold va at *
  try dsimp only at *
  clear ha hb hxa hxb
  have hst : ∀ (a : Addr) (n : Nat) (m : Mode) (w : World), (store a (.float .f64 n) m).run Tryz.prog w = stored Tryz.prog w a (.float .f64 n) m := fun a n m w => run_store _ _ _ _ _ rfl
  go_enter Tryz.func5, Tryz.ntmps5
  go_wp2_with fail
  refine (OA _).mono ?_
  rintro e w1 ⟨rfl, g1⟩
  have S1 : Hid (Bw w w1 w.heap.size ⟨k, m, g, x, r⟩ ⟨l, n, h, y, s⟩) := Bw.step (Bw.new w _ _ _ _ _ _ _ _ _ _ _ _) (.of_grown g1)
  clear g1
  obtain ⟨_, ⟨c0, c1, c2, c3, c4⟩, ⟨d0, d1, d2, d3, d4⟩, ⟨r0, r1, r2, r3, r4, r5, rz⟩⟩ := (show Bw w w1 w.heap.size ⟨k, m, g, x, r⟩ ⟨l, n, h, y, s⟩ from S1)
  go_wp2_with fail
  refine (OB _).mono ?_
  rintro e w2 ⟨rfl, g2⟩
  have S2 : Hid (Bw w w2 w.heap.size ⟨k, m, g, x, r⟩ ⟨l, n, h, y, s⟩) := Bw.step S1 (.of_grown g2)
  clear g2 S1 c0 c1 c2 c3 c4 d0 d1 d2 d3 d4 r0 r1 r2 r3 r4 r5 rz
  obtain ⟨_, ⟨c0, c1, c2, c3, c4⟩, ⟨d0, d1, d2, d3, d4⟩, ⟨r0, r1, r2, r3, r4, r5, rz⟩⟩ := (show Bw w w2 w.heap.size ⟨k, m, g, x, r⟩ ⟨l, n, h, y, s⟩ from S2)
  go_wp2_with fail
  refine (HV _).mono ?_
  rintro e w3 ⟨rfl, g3⟩
  have S3 : Hid (Bw w w3 w.heap.size ⟨k, m, g, x, r⟩ ⟨l, n, h, y, s⟩) := Bw.step S2 (.of_grown g3)
  clear g3 S2 c0 c1 c2 c3 c4 d0 d1 d2 d3 d4 r0 r1 r2 r3 r4 r5 rz
  obtain ⟨_, ⟨c0, c1, c2, c3, c4⟩, ⟨d0, d1, d2, d3, d4⟩, ⟨r0, r1, r2, r3, r4, r5, rz⟩⟩ := (show Bw w w3 w.heap.size ⟨k, m, g, x, r⟩ ⟨l, n, h, y, s⟩ from S3)
  go_wp2_with fail
  refine (HB _).mono ?_
  rintro e w4 ⟨rfl, g4⟩
  have S4 : Hid (Bw w w4 w.heap.size ⟨k, m, g, x, r⟩ ⟨l, n, h, y, s⟩) := Bw.step S3 (.of_grown g4)
  clear g4 S3 c0 c1 c2 c3 c4 d0 d1 d2 d3 d4 r0 r1 r2 r3 r4 r5 rz
  obtain ⟨_, ⟨c0, c1, c2, c3, c4⟩, ⟨d0, d1, d2, d3, d4⟩, ⟨r0, r1, r2, r3, r4, r5, rz⟩⟩ := (show Bw w w4 w.heap.size ⟨k, m, g, x, r⟩ ⟨l, n, h, y, s⟩ from S4)
  go_wp2_with fail
  refine (HG _).mono ?_
  rintro e w5 ⟨rfl, g5⟩
  have S5 : Hid (Bw w w5 w.heap.size ⟨k, m, g, x, r⟩ ⟨l, n, h, y, s⟩) := Bw.step S4 (.of_grown g5)
  clear g5 S4 c0 c1 c2 c3 c4 d0 d1 d2 d3 d4 r0 r1 r2 r3 r4 r5 rz
  obtain ⟨_, ⟨c0, c1, c2, c3, c4⟩, ⟨d0, d1, d2, d3, d4⟩, ⟨r0, r1, r2, r3, r4, r5, rz⟩⟩ := (show Bw w w5 w.heap.size ⟨k, m, g, x, r⟩ ⟨l, n, h, y, s⟩ from S5)
  go_wp2_with fail
  obtain ⟨e0, e1, e2, e3, e4, e5⟩ := rv_set' (show Bw w w5 w.heap.size ⟨k, m, g, x, r⟩ ⟨l, n, h, y, s⟩ from S5).r 0 1 rt 0 ⟨#[]⟩ 0
  have GF : Hid (Kq w (s6 w5 (w.heap.size + 2) 0 1 rt 0 ⟨#[]⟩ 0)) := s6_kq (show Bw w w5 w.heap.size ⟨k, m, g, x, r⟩ ⟨l, n, h, y, s⟩ from S5).kq (by omega) 0 1 rt 0 ⟨#[]⟩ 0
  obtain ⟨WF, hWF⟩ : ∃ WF, WF = s6 w5 (w.heap.size + 2) 0 1 rt 0 ⟨#[]⟩ 0 := ⟨_, rfl⟩
  rw [← hWF] at e0 e1 e2 e3 e4 e5 GF
  have hWF' := hWF
  unfold s6 at hWF'
  rw [← hWF']
  clear hWF hWF'
  refine bodyPost_ret (by simp [results, Tryz.results5, go_sem, e0, e1, e2, e3, e4, e5]; rfl) rfl ?_
  exact ⟨rfl, GF⟩
end Go.Proofs.YtladepgpandklaaGreatDoor
