import Derived.Test.YtladepgpandklaaGreatDoorMVdl
import Derived.Test.YtladepgpandklaaGreatDoorMVdk
namespace Go.Proofs.YtladepgpandklaaGreatDoor
open Go.ChangeShapes Go.WideShapes Go.ChangeAt Go.RowKit
set_option linter.unusedVariables false
set_option maxRecDepth 100000
theorem cb_rng : ∀ l m : List UInt8, -1 ≤ Lib.compareBytes l m ∧ Lib.compareBytes l m ≤ 1
  | [], [] => by simp [Lib.compareBytes]
  | [], _ :: _ => by simp [Lib.compareBytes]
  | _ :: _, [] => by simp [Lib.compareBytes]
  | a :: l, b :: m => by
    by_cases h1 : (a.toNat : Int) < (b.toNat : Int)
    · rw [cb_lt h1]; omega
    by_cases h2 : (b.toNat : Int) < (a.toNat : Int)
    · rw [cb_gt h2]; omega
    rw [cb_eq h1 h2]
    exact cb_rng l m
theorem num_both2 (a b : Vv) (ha : vok a) (hb : vok b) (hxa : (a.x.size : Int) ≤ 1048576) (hxb : (b.x.size : Int) ≤ 1048576) (ba : Vb a) (bb : Vb b) (na : nmb a) (nb : nmb b) : ∃ z : Int, (-1 ≤ z ∧ z ≤ 3) ∧ (∀ w, Calls Tryz.prog 17 #[vv a, vv b] w fun e w' => e = .returned (.int .i64 z) ∧ Grown w w') ∧ (∀ w, Calls Tryz.prog 48 #[vv a, vv b] w fun e w' => e = .returned (.int .i64 z) ∧ Grown w w') := by
  rcases na with ka | ka <;> rcases nb with kb | kb
  · rcases Int.lt_trichotomy a.m b.m with q | q | q
    · exact ⟨_, by omega, fun w => sp_ii_lt a b ha hb hxa hxb ka kb q w, fun w => by rw [← cmpi_lt q]; exact im_ii a b ka kb w⟩
    · exact ⟨_, by omega, fun w => sp_ii_eq a b ha hb hxa hxb ka kb q w, fun w => by rw [← cmpi_eq q]; exact im_ii a b ka kb w⟩
    · exact ⟨_, by omega, fun w => sp_ii_gt a b ha hb hxa hxb ka kb q w, fun w => by rw [← cmpi_gt q]; exact im_ii a b ka kb w⟩
  · rcases fl_self b.g with hn | hn
    · exact ⟨_, by omega, fun w => sp_if_nan a b ha hb hxa hxb ka kb hn w, fun w => im_if a b ka kb 2 (fun w => im_oi_nan a.m b.g hn w) w⟩
    · obtain ⟨z, hz0, h1, h2⟩ := oi_both a.m b.g bb.g hn
      exact ⟨z, by omega, fun w => sp_if a b ha hb hxa hxb ka kb hn z h1 w, fun w => im_if a b ka kb z h2 w⟩
  · rcases fl_self a.g with hn | hn
    · exact ⟨_, by omega, fun w => sp_fi_nan a b ha hb hxa hxb ka kb hn w, fun w => im_fi a b ka kb 2 (fun w => im_oi_nan b.m a.g hn w) 2 im_turn2 w⟩
    · obtain ⟨z, hz, h1, h2⟩ := oi_both b.m a.g ba.g hn
      rcases hz with rfl | rfl | rfl
      · exact ⟨1, by omega, fun w => sp_fi_m a b ha hb hxa hxb ka kb hn h1 w, fun w => im_fi a b ka kb _ h2 1 (fun w => im_turn _ (by omega) w) w⟩
      · exact ⟨0, by omega, fun w => sp_fi_z a b ha hb hxa hxb ka kb hn h1 w, fun w => im_fi a b ka kb _ h2 0 (fun w => im_turn _ (by omega) w) w⟩
      · exact ⟨-1, by omega, fun w => sp_fi_p a b ha hb hxa hxb ka kb hn h1 w, fun w => im_fi a b ka kb _ h2 (-1) (fun w => im_turn _ (by omega) w) w⟩
  · have e : ∀ o z, FloatKind.f64.format.order a.g b.g = o → (match o with | some .lt => (-1 : Int) | some .gt => 1 | some .eq => 0 | none => 2) = z → odf a.g b.g = z := fun o z h1 h2 => by unfold odf; rw [h1]; exact h2
    rcases fl_self a.g with hm | hm
    · exact ⟨2, by omega, fun w => sp_ff_nana a b ha hb hxa hxb ka kb hm w, fun w => by rw [← e none 2 (fl_nan _ _ (.inl hm)) rfl]; exact im_ff a b ka kb w⟩
    rcases fl_self b.g with hn | hn
    · exact ⟨2, by omega, fun w => sp_ff_nanb a b ha hb hxa hxb ka kb hm hn w, fun w => by rw [← e none 2 (fl_nan _ _ (.inr hn)) rfl]; exact im_ff a b ka kb w⟩
    cases ho : FloatKind.f64.format.order a.g b.g with
    | none =>
      exfalso
      obtain ⟨o, h⟩ := fl_some a.g b.g hm hn
      rw [h] at ho; cases ho
    | some c =>
      cases c
      · exact ⟨-1, by omega, fun w => sp_ff_lt a b ha hb hxa hxb ka kb hm hn ho w, fun w => by rw [← e (some .lt) (-1) ho rfl]; exact im_ff a b ka kb w⟩
      · exact ⟨0, by omega, fun w => sp_ff_eq a b ha hb hxa hxb ka kb hm hn ho w, fun w => by rw [← e (some .eq) 0 ho rfl]; exact im_ff a b ka kb w⟩
      · exact ⟨1, by omega, fun w => sp_ff_gt a b ha hb hxa hxb ka kb hm hn ho w, fun w => by rw [← e (some .gt) 1 ho rfl]; exact im_ff a b ka kb w⟩
theorem comp_both2 (a b : Vv) (ba : Vb a) (bb : Vb b) (hxa : (a.x.size : Int) ≤ 1048576) (hxb : (b.x.size : Int) ≤ 1048576) : ∃ R : Int, (-1 ≤ R ∧ R ≤ 3) ∧ (∀ w, Calls Tryz.prog 17 #[vv a, vv b] w fun e w' => e = .returned (.int .i64 R) ∧ Grown w w') ∧ (∀ w, Calls Tryz.prog 28 #[vv a, vv b] w fun e w' => e = .returned (.int .i64 R) ∧ Grown w w') := by
  by_cases ha : vok a
  case neg => exact ⟨_, by omega, fun w => sp_cp_a a b ha hxa hxb w, fun w => im_cp_a a b ha hxa hxb w⟩
  by_cases hb : vok b
  case neg => exact ⟨_, by omega, fun w => sp_cp_b a b ha hb hxa hxb w, fun w => im_cp_b a b ha hb hxa hxb w⟩
  by_cases na : nmb a
  · by_cases nb : nmb b
    · obtain ⟨z, hz0, h1, h2⟩ := num_both2 a b ha hb hxa hxb ba bb na nb
      exact ⟨z, hz0, h1, fun w => im_cp_z a b ha hb hxa hxb na nb z h2 w⟩
    · exact ⟨_, by omega, fun w => sp_cp_t a b ha hb hxa hxb na nb w, fun w => im_cp_t a b ha hb hxa hxb na nb w⟩
  by_cases ka : a.k = 4
  · by_cases kb : b.k = 4
    · exact ⟨_, by have := cb_rng a.x.data.toList b.x.data.toList; omega, fun w => sp_cp_s a b ha hb hxa hxb ka kb w, fun w => im_cp_s a b ha hb hxa hxb ka kb w⟩
    · exact ⟨_, by omega, fun w => sp_cp_n4 a b ha hb hxa hxb na ka kb w, fun w => im_cp_n4 a b ha hb hxa hxb na ka kb w⟩
  exact ⟨_, by omega, fun w => sp_cp_n a b ha hb hxa hxb na ka w, fun w => im_cp_n a b ha hb hxa hxb na ka w⟩
/-- what an order says -/
def ordb (op z : Int) : Bool := if op = 15 then z == -1 else if op = 16 then z == -1 || z == 0 else if op = 17 then z == 1 else z == 1 || z == 0
set_option maxHeartbeats 2000000 in
theorem im_ord_3 (op : Int) (w : World) : Calls Tryz.prog 27 #[.int .i64 op, .int .i64 3] w fun e w' => e = .returned (va 1 ⟨0, 0, 0, ⟨#[]⟩, 0⟩) ∧ Grown w w' := by
  have HF := fun w => im_fail 1 w
  unfold va at HF
  dsimp only at HF
  unfold va
  dsimp only
  have hst : ∀ (a : Addr) (n : Nat) (m : Mode) (w : World), (store a (.float .f64 n) m).run Tryz.prog w = stored Tryz.prog w a (.float .f64 n) m := fun a n m w => run_store _ _ _ _ _ rfl
  go_enter Tryz.func27, Tryz.ntmps27
  go_wp2_with fail
  refine (HF _).mono ?_
  rintro e w1 ⟨rfl, g1⟩
  have G1 : Hid (Grown w w1) := Grown.trans (by go_grown) g1
  have R1 : Hid (Rv w1 w.heap.size) := Rv.grown (Rv.new w 28) g1
  clear g1
  obtain ⟨r0, r1, r2, r3, r4, r5, rz⟩ := (show Rv w1 w.heap.size from R1)
  go_wp2_with fail
  obtain ⟨e0, e1, e2, e3, e4, e5⟩ := rv_set' (show Rv w1 w.heap.size from R1) 1 0 0 0 ⟨#[]⟩ 0
  have GG : Hid (Grown w (s6 w1 (w.heap.size) 1 0 0 0 ⟨#[]⟩ 0)) := s6_grown G1 (by omega) 1 0 0 0 ⟨#[]⟩ 0
  obtain ⟨WF, hWF⟩ : ∃ WF, WF = s6 w1 (w.heap.size) 1 0 0 0 ⟨#[]⟩ 0 := ⟨_, rfl⟩
  rw [← hWF] at e0 e1 e2 e3 e4 e5 GG
  have hWF' := hWF
  unfold s6 at hWF'
  rw [← hWF']
  clear hWF hWF'
  refine bodyPost_ret (by simp [results, Tryz.results27, go_sem, e0, e1, e2, e3, e4, e5]; rfl) rfl ?_
  exact ⟨rfl, GG⟩
set_option maxHeartbeats 2000000 in
theorem im_ord_15_0 (w : World) : Calls Tryz.prog 27 #[.int .i64 15, .int .i64 (-1)] w fun e w' => e = .returned (va 0 ⟨1, 1, 0, ⟨#[]⟩, 0⟩) ∧ Grown w w' := by
  have HB := fun w => im_bool_true w
  unfold va at HB
  dsimp only at HB
  unfold va
  dsimp only
  have hst : ∀ (a : Addr) (n : Nat) (m : Mode) (w : World), (store a (.float .f64 n) m).run Tryz.prog w = stored Tryz.prog w a (.float .f64 n) m := fun a n m w => run_store _ _ _ _ _ rfl
  go_enter Tryz.func27, Tryz.ntmps27
  go_wp2_with fail
  refine (HB _).mono ?_
  rintro e w1 ⟨rfl, g1⟩
  have G1 : Hid (Grown w w1) := Grown.trans (by go_grown) g1
  have R1 : Hid (Rv w1 w.heap.size) := Rv.grown (Rv.new w 28) g1
  clear g1
  obtain ⟨r0, r1, r2, r3, r4, r5, rz⟩ := (show Rv w1 w.heap.size from R1)
  go_wp2_with fail
  obtain ⟨e0, e1, e2, e3, e4, e5⟩ := rv_set' (show Rv w1 w.heap.size from R1) 0 1 1 0 ⟨#[]⟩ 0
  have GG : Hid (Grown w (s6 w1 (w.heap.size) 0 1 1 0 ⟨#[]⟩ 0)) := s6_grown G1 (by omega) 0 1 1 0 ⟨#[]⟩ 0
  obtain ⟨WF, hWF⟩ : ∃ WF, WF = s6 w1 (w.heap.size) 0 1 1 0 ⟨#[]⟩ 0 := ⟨_, rfl⟩
  rw [← hWF] at e0 e1 e2 e3 e4 e5 GG
  have hWF' := hWF
  unfold s6 at hWF'
  rw [← hWF']
  clear hWF hWF'
  refine bodyPost_ret (by simp [results, Tryz.results27, go_sem, e0, e1, e2, e3, e4, e5]; rfl) rfl ?_
  exact ⟨rfl, GG⟩
set_option maxHeartbeats 2000000 in
theorem im_ord_15_1 (w : World) : Calls Tryz.prog 27 #[.int .i64 15, .int .i64 0] w fun e w' => e = .returned (va 0 ⟨1, 0, 0, ⟨#[]⟩, 0⟩) ∧ Grown w w' := by
  have HB := fun w => im_bool_false w
  unfold va at HB
  dsimp only at HB
  unfold va
  dsimp only
  have hst : ∀ (a : Addr) (n : Nat) (m : Mode) (w : World), (store a (.float .f64 n) m).run Tryz.prog w = stored Tryz.prog w a (.float .f64 n) m := fun a n m w => run_store _ _ _ _ _ rfl
  go_enter Tryz.func27, Tryz.ntmps27
  go_wp2_with fail
  refine (HB _).mono ?_
  rintro e w1 ⟨rfl, g1⟩
  have G1 : Hid (Grown w w1) := Grown.trans (by go_grown) g1
  have R1 : Hid (Rv w1 w.heap.size) := Rv.grown (Rv.new w 28) g1
  clear g1
  obtain ⟨r0, r1, r2, r3, r4, r5, rz⟩ := (show Rv w1 w.heap.size from R1)
  go_wp2_with fail
  obtain ⟨e0, e1, e2, e3, e4, e5⟩ := rv_set' (show Rv w1 w.heap.size from R1) 0 1 0 0 ⟨#[]⟩ 0
  have GG : Hid (Grown w (s6 w1 (w.heap.size) 0 1 0 0 ⟨#[]⟩ 0)) := s6_grown G1 (by omega) 0 1 0 0 ⟨#[]⟩ 0
  obtain ⟨WF, hWF⟩ : ∃ WF, WF = s6 w1 (w.heap.size) 0 1 0 0 ⟨#[]⟩ 0 := ⟨_, rfl⟩
  rw [← hWF] at e0 e1 e2 e3 e4 e5 GG
  have hWF' := hWF
  unfold s6 at hWF'
  rw [← hWF']
  clear hWF hWF'
  refine bodyPost_ret (by simp [results, Tryz.results27, go_sem, e0, e1, e2, e3, e4, e5]; rfl) rfl ?_
  exact ⟨rfl, GG⟩
set_option maxHeartbeats 2000000 in
theorem im_ord_15_2 (w : World) : Calls Tryz.prog 27 #[.int .i64 15, .int .i64 1] w fun e w' => e = .returned (va 0 ⟨1, 0, 0, ⟨#[]⟩, 0⟩) ∧ Grown w w' := by
  have HB := fun w => im_bool_false w
  unfold va at HB
  dsimp only at HB
  unfold va
  dsimp only
  have hst : ∀ (a : Addr) (n : Nat) (m : Mode) (w : World), (store a (.float .f64 n) m).run Tryz.prog w = stored Tryz.prog w a (.float .f64 n) m := fun a n m w => run_store _ _ _ _ _ rfl
  go_enter Tryz.func27, Tryz.ntmps27
  go_wp2_with fail
  refine (HB _).mono ?_
  rintro e w1 ⟨rfl, g1⟩
  have G1 : Hid (Grown w w1) := Grown.trans (by go_grown) g1
  have R1 : Hid (Rv w1 w.heap.size) := Rv.grown (Rv.new w 28) g1
  clear g1
  obtain ⟨r0, r1, r2, r3, r4, r5, rz⟩ := (show Rv w1 w.heap.size from R1)
  go_wp2_with fail
  obtain ⟨e0, e1, e2, e3, e4, e5⟩ := rv_set' (show Rv w1 w.heap.size from R1) 0 1 0 0 ⟨#[]⟩ 0
  have GG : Hid (Grown w (s6 w1 (w.heap.size) 0 1 0 0 ⟨#[]⟩ 0)) := s6_grown G1 (by omega) 0 1 0 0 ⟨#[]⟩ 0
  obtain ⟨WF, hWF⟩ : ∃ WF, WF = s6 w1 (w.heap.size) 0 1 0 0 ⟨#[]⟩ 0 := ⟨_, rfl⟩
  rw [← hWF] at e0 e1 e2 e3 e4 e5 GG
  have hWF' := hWF
  unfold s6 at hWF'
  rw [← hWF']
  clear hWF hWF'
  refine bodyPost_ret (by simp [results, Tryz.results27, go_sem, e0, e1, e2, e3, e4, e5]; rfl) rfl ?_
  exact ⟨rfl, GG⟩
set_option maxHeartbeats 2000000 in
theorem im_ord_15_3 (w : World) : Calls Tryz.prog 27 #[.int .i64 15, .int .i64 2] w fun e w' => e = .returned (va 0 ⟨1, 0, 0, ⟨#[]⟩, 0⟩) ∧ Grown w w' := by
  have HB := fun w => im_bool_false w
  unfold va at HB
  dsimp only at HB
  unfold va
  dsimp only
  have hst : ∀ (a : Addr) (n : Nat) (m : Mode) (w : World), (store a (.float .f64 n) m).run Tryz.prog w = stored Tryz.prog w a (.float .f64 n) m := fun a n m w => run_store _ _ _ _ _ rfl
  go_enter Tryz.func27, Tryz.ntmps27
  go_wp2_with fail
  refine (HB _).mono ?_
  rintro e w1 ⟨rfl, g1⟩
  have G1 : Hid (Grown w w1) := Grown.trans (by go_grown) g1
  have R1 : Hid (Rv w1 w.heap.size) := Rv.grown (Rv.new w 28) g1
  clear g1
  obtain ⟨r0, r1, r2, r3, r4, r5, rz⟩ := (show Rv w1 w.heap.size from R1)
  go_wp2_with fail
  obtain ⟨e0, e1, e2, e3, e4, e5⟩ := rv_set' (show Rv w1 w.heap.size from R1) 0 1 0 0 ⟨#[]⟩ 0
  have GG : Hid (Grown w (s6 w1 (w.heap.size) 0 1 0 0 ⟨#[]⟩ 0)) := s6_grown G1 (by omega) 0 1 0 0 ⟨#[]⟩ 0
  obtain ⟨WF, hWF⟩ : ∃ WF, WF = s6 w1 (w.heap.size) 0 1 0 0 ⟨#[]⟩ 0 := ⟨_, rfl⟩
  rw [← hWF] at e0 e1 e2 e3 e4 e5 GG
  have hWF' := hWF
  unfold s6 at hWF'
  rw [← hWF']
  clear hWF hWF'
  refine bodyPost_ret (by simp [results, Tryz.results27, go_sem, e0, e1, e2, e3, e4, e5]; rfl) rfl ?_
  exact ⟨rfl, GG⟩
set_option maxHeartbeats 2000000 in
theorem im_ord_16_0 (w : World) : Calls Tryz.prog 27 #[.int .i64 16, .int .i64 (-1)] w fun e w' => e = .returned (va 0 ⟨1, 1, 0, ⟨#[]⟩, 0⟩) ∧ Grown w w' := by
  have HB := fun w => im_bool_true w
  unfold va at HB
  dsimp only at HB
  unfold va
  dsimp only
  have hst : ∀ (a : Addr) (n : Nat) (m : Mode) (w : World), (store a (.float .f64 n) m).run Tryz.prog w = stored Tryz.prog w a (.float .f64 n) m := fun a n m w => run_store _ _ _ _ _ rfl
  go_enter Tryz.func27, Tryz.ntmps27
  go_wp2_with fail
  refine (HB _).mono ?_
  rintro e w1 ⟨rfl, g1⟩
  have G1 : Hid (Grown w w1) := Grown.trans (by go_grown) g1
  have R1 : Hid (Rv w1 w.heap.size) := Rv.grown (Rv.new w 28) g1
  clear g1
  obtain ⟨r0, r1, r2, r3, r4, r5, rz⟩ := (show Rv w1 w.heap.size from R1)
  go_wp2_with fail
  obtain ⟨e0, e1, e2, e3, e4, e5⟩ := rv_set' (show Rv w1 w.heap.size from R1) 0 1 1 0 ⟨#[]⟩ 0
  have GG : Hid (Grown w (s6 w1 (w.heap.size) 0 1 1 0 ⟨#[]⟩ 0)) := s6_grown G1 (by omega) 0 1 1 0 ⟨#[]⟩ 0
  obtain ⟨WF, hWF⟩ : ∃ WF, WF = s6 w1 (w.heap.size) 0 1 1 0 ⟨#[]⟩ 0 := ⟨_, rfl⟩
  rw [← hWF] at e0 e1 e2 e3 e4 e5 GG
  have hWF' := hWF
  unfold s6 at hWF'
  rw [← hWF']
  clear hWF hWF'
  refine bodyPost_ret (by simp [results, Tryz.results27, go_sem, e0, e1, e2, e3, e4, e5]; rfl) rfl ?_
  exact ⟨rfl, GG⟩
set_option maxHeartbeats 2000000 in
theorem im_ord_16_1 (w : World) : Calls Tryz.prog 27 #[.int .i64 16, .int .i64 0] w fun e w' => e = .returned (va 0 ⟨1, 1, 0, ⟨#[]⟩, 0⟩) ∧ Grown w w' := by
  have HB := fun w => im_bool_true w
  unfold va at HB
  dsimp only at HB
  unfold va
  dsimp only
  have hst : ∀ (a : Addr) (n : Nat) (m : Mode) (w : World), (store a (.float .f64 n) m).run Tryz.prog w = stored Tryz.prog w a (.float .f64 n) m := fun a n m w => run_store _ _ _ _ _ rfl
  go_enter Tryz.func27, Tryz.ntmps27
  go_wp2_with fail
  refine (HB _).mono ?_
  rintro e w1 ⟨rfl, g1⟩
  have G1 : Hid (Grown w w1) := Grown.trans (by go_grown) g1
  have R1 : Hid (Rv w1 w.heap.size) := Rv.grown (Rv.new w 28) g1
  clear g1
  obtain ⟨r0, r1, r2, r3, r4, r5, rz⟩ := (show Rv w1 w.heap.size from R1)
  go_wp2_with fail
  obtain ⟨e0, e1, e2, e3, e4, e5⟩ := rv_set' (show Rv w1 w.heap.size from R1) 0 1 1 0 ⟨#[]⟩ 0
  have GG : Hid (Grown w (s6 w1 (w.heap.size) 0 1 1 0 ⟨#[]⟩ 0)) := s6_grown G1 (by omega) 0 1 1 0 ⟨#[]⟩ 0
  obtain ⟨WF, hWF⟩ : ∃ WF, WF = s6 w1 (w.heap.size) 0 1 1 0 ⟨#[]⟩ 0 := ⟨_, rfl⟩
  rw [← hWF] at e0 e1 e2 e3 e4 e5 GG
  have hWF' := hWF
  unfold s6 at hWF'
  rw [← hWF']
  clear hWF hWF'
  refine bodyPost_ret (by simp [results, Tryz.results27, go_sem, e0, e1, e2, e3, e4, e5]; rfl) rfl ?_
  exact ⟨rfl, GG⟩
set_option maxHeartbeats 2000000 in
theorem im_ord_16_2 (w : World) : Calls Tryz.prog 27 #[.int .i64 16, .int .i64 1] w fun e w' => e = .returned (va 0 ⟨1, 0, 0, ⟨#[]⟩, 0⟩) ∧ Grown w w' := by
  have HB := fun w => im_bool_false w
  unfold va at HB
  dsimp only at HB
  unfold va
  dsimp only
  have hst : ∀ (a : Addr) (n : Nat) (m : Mode) (w : World), (store a (.float .f64 n) m).run Tryz.prog w = stored Tryz.prog w a (.float .f64 n) m := fun a n m w => run_store _ _ _ _ _ rfl
  go_enter Tryz.func27, Tryz.ntmps27
  go_wp2_with fail
  refine (HB _).mono ?_
  rintro e w1 ⟨rfl, g1⟩
  have G1 : Hid (Grown w w1) := Grown.trans (by go_grown) g1
  have R1 : Hid (Rv w1 w.heap.size) := Rv.grown (Rv.new w 28) g1
  clear g1
  obtain ⟨r0, r1, r2, r3, r4, r5, rz⟩ := (show Rv w1 w.heap.size from R1)
  go_wp2_with fail
  obtain ⟨e0, e1, e2, e3, e4, e5⟩ := rv_set' (show Rv w1 w.heap.size from R1) 0 1 0 0 ⟨#[]⟩ 0
  have GG : Hid (Grown w (s6 w1 (w.heap.size) 0 1 0 0 ⟨#[]⟩ 0)) := s6_grown G1 (by omega) 0 1 0 0 ⟨#[]⟩ 0
  obtain ⟨WF, hWF⟩ : ∃ WF, WF = s6 w1 (w.heap.size) 0 1 0 0 ⟨#[]⟩ 0 := ⟨_, rfl⟩
  rw [← hWF] at e0 e1 e2 e3 e4 e5 GG
  have hWF' := hWF
  unfold s6 at hWF'
  rw [← hWF']
  clear hWF hWF'
  refine bodyPost_ret (by simp [results, Tryz.results27, go_sem, e0, e1, e2, e3, e4, e5]; rfl) rfl ?_
  exact ⟨rfl, GG⟩
set_option maxHeartbeats 2000000 in
theorem im_ord_16_3 (w : World) : Calls Tryz.prog 27 #[.int .i64 16, .int .i64 2] w fun e w' => e = .returned (va 0 ⟨1, 0, 0, ⟨#[]⟩, 0⟩) ∧ Grown w w' := by
  have HB := fun w => im_bool_false w
  unfold va at HB
  dsimp only at HB
  unfold va
  dsimp only
  have hst : ∀ (a : Addr) (n : Nat) (m : Mode) (w : World), (store a (.float .f64 n) m).run Tryz.prog w = stored Tryz.prog w a (.float .f64 n) m := fun a n m w => run_store _ _ _ _ _ rfl
  go_enter Tryz.func27, Tryz.ntmps27
  go_wp2_with fail
  refine (HB _).mono ?_
  rintro e w1 ⟨rfl, g1⟩
  have G1 : Hid (Grown w w1) := Grown.trans (by go_grown) g1
  have R1 : Hid (Rv w1 w.heap.size) := Rv.grown (Rv.new w 28) g1
  clear g1
  obtain ⟨r0, r1, r2, r3, r4, r5, rz⟩ := (show Rv w1 w.heap.size from R1)
  go_wp2_with fail
  obtain ⟨e0, e1, e2, e3, e4, e5⟩ := rv_set' (show Rv w1 w.heap.size from R1) 0 1 0 0 ⟨#[]⟩ 0
  have GG : Hid (Grown w (s6 w1 (w.heap.size) 0 1 0 0 ⟨#[]⟩ 0)) := s6_grown G1 (by omega) 0 1 0 0 ⟨#[]⟩ 0
  obtain ⟨WF, hWF⟩ : ∃ WF, WF = s6 w1 (w.heap.size) 0 1 0 0 ⟨#[]⟩ 0 := ⟨_, rfl⟩
  rw [← hWF] at e0 e1 e2 e3 e4 e5 GG
  have hWF' := hWF
  unfold s6 at hWF'
  rw [← hWF']
  clear hWF hWF'
  refine bodyPost_ret (by simp [results, Tryz.results27, go_sem, e0, e1, e2, e3, e4, e5]; rfl) rfl ?_
  exact ⟨rfl, GG⟩
set_option maxHeartbeats 2000000 in
theorem im_ord_17_0 (w : World) : Calls Tryz.prog 27 #[.int .i64 17, .int .i64 (-1)] w fun e w' => e = .returned (va 0 ⟨1, 0, 0, ⟨#[]⟩, 0⟩) ∧ Grown w w' := by
  have HB := fun w => im_bool_false w
  unfold va at HB
  dsimp only at HB
  unfold va
  dsimp only
  have hst : ∀ (a : Addr) (n : Nat) (m : Mode) (w : World), (store a (.float .f64 n) m).run Tryz.prog w = stored Tryz.prog w a (.float .f64 n) m := fun a n m w => run_store _ _ _ _ _ rfl
  go_enter Tryz.func27, Tryz.ntmps27
  go_wp2_with fail
  refine (HB _).mono ?_
  rintro e w1 ⟨rfl, g1⟩
  have G1 : Hid (Grown w w1) := Grown.trans (by go_grown) g1
  have R1 : Hid (Rv w1 w.heap.size) := Rv.grown (Rv.new w 28) g1
  clear g1
  obtain ⟨r0, r1, r2, r3, r4, r5, rz⟩ := (show Rv w1 w.heap.size from R1)
  go_wp2_with fail
  obtain ⟨e0, e1, e2, e3, e4, e5⟩ := rv_set' (show Rv w1 w.heap.size from R1) 0 1 0 0 ⟨#[]⟩ 0
  have GG : Hid (Grown w (s6 w1 (w.heap.size) 0 1 0 0 ⟨#[]⟩ 0)) := s6_grown G1 (by omega) 0 1 0 0 ⟨#[]⟩ 0
  obtain ⟨WF, hWF⟩ : ∃ WF, WF = s6 w1 (w.heap.size) 0 1 0 0 ⟨#[]⟩ 0 := ⟨_, rfl⟩
  rw [← hWF] at e0 e1 e2 e3 e4 e5 GG
  have hWF' := hWF
  unfold s6 at hWF'
  rw [← hWF']
  clear hWF hWF'
  refine bodyPost_ret (by simp [results, Tryz.results27, go_sem, e0, e1, e2, e3, e4, e5]; rfl) rfl ?_
  exact ⟨rfl, GG⟩
set_option maxHeartbeats 2000000 in
theorem im_ord_17_1 (w : World) : Calls Tryz.prog 27 #[.int .i64 17, .int .i64 0] w fun e w' => e = .returned (va 0 ⟨1, 0, 0, ⟨#[]⟩, 0⟩) ∧ Grown w w' := by
  have HB := fun w => im_bool_false w
  unfold va at HB
  dsimp only at HB
  unfold va
  dsimp only
  have hst : ∀ (a : Addr) (n : Nat) (m : Mode) (w : World), (store a (.float .f64 n) m).run Tryz.prog w = stored Tryz.prog w a (.float .f64 n) m := fun a n m w => run_store _ _ _ _ _ rfl
  go_enter Tryz.func27, Tryz.ntmps27
  go_wp2_with fail
  refine (HB _).mono ?_
  rintro e w1 ⟨rfl, g1⟩
  have G1 : Hid (Grown w w1) := Grown.trans (by go_grown) g1
  have R1 : Hid (Rv w1 w.heap.size) := Rv.grown (Rv.new w 28) g1
  clear g1
  obtain ⟨r0, r1, r2, r3, r4, r5, rz⟩ := (show Rv w1 w.heap.size from R1)
  go_wp2_with fail
  obtain ⟨e0, e1, e2, e3, e4, e5⟩ := rv_set' (show Rv w1 w.heap.size from R1) 0 1 0 0 ⟨#[]⟩ 0
  have GG : Hid (Grown w (s6 w1 (w.heap.size) 0 1 0 0 ⟨#[]⟩ 0)) := s6_grown G1 (by omega) 0 1 0 0 ⟨#[]⟩ 0
  obtain ⟨WF, hWF⟩ : ∃ WF, WF = s6 w1 (w.heap.size) 0 1 0 0 ⟨#[]⟩ 0 := ⟨_, rfl⟩
  rw [← hWF] at e0 e1 e2 e3 e4 e5 GG
  have hWF' := hWF
  unfold s6 at hWF'
  rw [← hWF']
  clear hWF hWF'
  refine bodyPost_ret (by simp [results, Tryz.results27, go_sem, e0, e1, e2, e3, e4, e5]; rfl) rfl ?_
  exact ⟨rfl, GG⟩
set_option maxHeartbeats 2000000 in
theorem im_ord_17_2 (w : World) : Calls Tryz.prog 27 #[.int .i64 17, .int .i64 1] w fun e w' => e = .returned (va 0 ⟨1, 1, 0, ⟨#[]⟩, 0⟩) ∧ Grown w w' := by
  have HB := fun w => im_bool_true w
  unfold va at HB
  dsimp only at HB
  unfold va
  dsimp only
  have hst : ∀ (a : Addr) (n : Nat) (m : Mode) (w : World), (store a (.float .f64 n) m).run Tryz.prog w = stored Tryz.prog w a (.float .f64 n) m := fun a n m w => run_store _ _ _ _ _ rfl
  go_enter Tryz.func27, Tryz.ntmps27
  go_wp2_with fail
  refine (HB _).mono ?_
  rintro e w1 ⟨rfl, g1⟩
  have G1 : Hid (Grown w w1) := Grown.trans (by go_grown) g1
  have R1 : Hid (Rv w1 w.heap.size) := Rv.grown (Rv.new w 28) g1
  clear g1
  obtain ⟨r0, r1, r2, r3, r4, r5, rz⟩ := (show Rv w1 w.heap.size from R1)
  go_wp2_with fail
  obtain ⟨e0, e1, e2, e3, e4, e5⟩ := rv_set' (show Rv w1 w.heap.size from R1) 0 1 1 0 ⟨#[]⟩ 0
  have GG : Hid (Grown w (s6 w1 (w.heap.size) 0 1 1 0 ⟨#[]⟩ 0)) := s6_grown G1 (by omega) 0 1 1 0 ⟨#[]⟩ 0
  obtain ⟨WF, hWF⟩ : ∃ WF, WF = s6 w1 (w.heap.size) 0 1 1 0 ⟨#[]⟩ 0 := ⟨_, rfl⟩
  rw [← hWF] at e0 e1 e2 e3 e4 e5 GG
  have hWF' := hWF
  unfold s6 at hWF'
  rw [← hWF']
  clear hWF hWF'
  refine bodyPost_ret (by simp [results, Tryz.results27, go_sem, e0, e1, e2, e3, e4, e5]; rfl) rfl ?_
  exact ⟨rfl, GG⟩
set_option maxHeartbeats 2000000 in
theorem im_ord_17_3 (w : World) : Calls Tryz.prog 27 #[.int .i64 17, .int .i64 2] w fun e w' => e = .returned (va 0 ⟨1, 0, 0, ⟨#[]⟩, 0⟩) ∧ Grown w w' := by
  have HB := fun w => im_bool_false w
  unfold va at HB
  dsimp only at HB
  unfold va
  dsimp only
  have hst : ∀ (a : Addr) (n : Nat) (m : Mode) (w : World), (store a (.float .f64 n) m).run Tryz.prog w = stored Tryz.prog w a (.float .f64 n) m := fun a n m w => run_store _ _ _ _ _ rfl
  go_enter Tryz.func27, Tryz.ntmps27
  go_wp2_with fail
  refine (HB _).mono ?_
  rintro e w1 ⟨rfl, g1⟩
  have G1 : Hid (Grown w w1) := Grown.trans (by go_grown) g1
  have R1 : Hid (Rv w1 w.heap.size) := Rv.grown (Rv.new w 28) g1
  clear g1
  obtain ⟨r0, r1, r2, r3, r4, r5, rz⟩ := (show Rv w1 w.heap.size from R1)
  go_wp2_with fail
  obtain ⟨e0, e1, e2, e3, e4, e5⟩ := rv_set' (show Rv w1 w.heap.size from R1) 0 1 0 0 ⟨#[]⟩ 0
  have GG : Hid (Grown w (s6 w1 (w.heap.size) 0 1 0 0 ⟨#[]⟩ 0)) := s6_grown G1 (by omega) 0 1 0 0 ⟨#[]⟩ 0
  obtain ⟨WF, hWF⟩ : ∃ WF, WF = s6 w1 (w.heap.size) 0 1 0 0 ⟨#[]⟩ 0 := ⟨_, rfl⟩
  rw [← hWF] at e0 e1 e2 e3 e4 e5 GG
  have hWF' := hWF
  unfold s6 at hWF'
  rw [← hWF']
  clear hWF hWF'
  refine bodyPost_ret (by simp [results, Tryz.results27, go_sem, e0, e1, e2, e3, e4, e5]; rfl) rfl ?_
  exact ⟨rfl, GG⟩
set_option maxHeartbeats 2000000 in
theorem im_ord_18_0 (w : World) : Calls Tryz.prog 27 #[.int .i64 18, .int .i64 (-1)] w fun e w' => e = .returned (va 0 ⟨1, 0, 0, ⟨#[]⟩, 0⟩) ∧ Grown w w' := by
  have HB := fun w => im_bool_false w
  unfold va at HB
  dsimp only at HB
  unfold va
  dsimp only
  have hst : ∀ (a : Addr) (n : Nat) (m : Mode) (w : World), (store a (.float .f64 n) m).run Tryz.prog w = stored Tryz.prog w a (.float .f64 n) m := fun a n m w => run_store _ _ _ _ _ rfl
  go_enter Tryz.func27, Tryz.ntmps27
  go_wp2_with fail
  refine (HB _).mono ?_
  rintro e w1 ⟨rfl, g1⟩
  have G1 : Hid (Grown w w1) := Grown.trans (by go_grown) g1
  have R1 : Hid (Rv w1 w.heap.size) := Rv.grown (Rv.new w 28) g1
  clear g1
  obtain ⟨r0, r1, r2, r3, r4, r5, rz⟩ := (show Rv w1 w.heap.size from R1)
  go_wp2_with fail
  obtain ⟨e0, e1, e2, e3, e4, e5⟩ := rv_set' (show Rv w1 w.heap.size from R1) 0 1 0 0 ⟨#[]⟩ 0
  have GG : Hid (Grown w (s6 w1 (w.heap.size) 0 1 0 0 ⟨#[]⟩ 0)) := s6_grown G1 (by omega) 0 1 0 0 ⟨#[]⟩ 0
  obtain ⟨WF, hWF⟩ : ∃ WF, WF = s6 w1 (w.heap.size) 0 1 0 0 ⟨#[]⟩ 0 := ⟨_, rfl⟩
  rw [← hWF] at e0 e1 e2 e3 e4 e5 GG
  have hWF' := hWF
  unfold s6 at hWF'
  rw [← hWF']
  clear hWF hWF'
  refine bodyPost_ret (by simp [results, Tryz.results27, go_sem, e0, e1, e2, e3, e4, e5]; rfl) rfl ?_
  exact ⟨rfl, GG⟩
set_option maxHeartbeats 2000000 in
theorem im_ord_18_1 (w : World) : Calls Tryz.prog 27 #[.int .i64 18, .int .i64 0] w fun e w' => e = .returned (va 0 ⟨1, 1, 0, ⟨#[]⟩, 0⟩) ∧ Grown w w' := by
  have HB := fun w => im_bool_true w
  unfold va at HB
  dsimp only at HB
  unfold va
  dsimp only
  have hst : ∀ (a : Addr) (n : Nat) (m : Mode) (w : World), (store a (.float .f64 n) m).run Tryz.prog w = stored Tryz.prog w a (.float .f64 n) m := fun a n m w => run_store _ _ _ _ _ rfl
  go_enter Tryz.func27, Tryz.ntmps27
  go_wp2_with fail
  refine (HB _).mono ?_
  rintro e w1 ⟨rfl, g1⟩
  have G1 : Hid (Grown w w1) := Grown.trans (by go_grown) g1
  have R1 : Hid (Rv w1 w.heap.size) := Rv.grown (Rv.new w 28) g1
  clear g1
  obtain ⟨r0, r1, r2, r3, r4, r5, rz⟩ := (show Rv w1 w.heap.size from R1)
  go_wp2_with fail
  obtain ⟨e0, e1, e2, e3, e4, e5⟩ := rv_set' (show Rv w1 w.heap.size from R1) 0 1 1 0 ⟨#[]⟩ 0
  have GG : Hid (Grown w (s6 w1 (w.heap.size) 0 1 1 0 ⟨#[]⟩ 0)) := s6_grown G1 (by omega) 0 1 1 0 ⟨#[]⟩ 0
  obtain ⟨WF, hWF⟩ : ∃ WF, WF = s6 w1 (w.heap.size) 0 1 1 0 ⟨#[]⟩ 0 := ⟨_, rfl⟩
  rw [← hWF] at e0 e1 e2 e3 e4 e5 GG
  have hWF' := hWF
  unfold s6 at hWF'
  rw [← hWF']
  clear hWF hWF'
  refine bodyPost_ret (by simp [results, Tryz.results27, go_sem, e0, e1, e2, e3, e4, e5]; rfl) rfl ?_
  exact ⟨rfl, GG⟩
set_option maxHeartbeats 2000000 in
theorem im_ord_18_2 (w : World) : Calls Tryz.prog 27 #[.int .i64 18, .int .i64 1] w fun e w' => e = .returned (va 0 ⟨1, 1, 0, ⟨#[]⟩, 0⟩) ∧ Grown w w' := by
  have HB := fun w => im_bool_true w
  unfold va at HB
  dsimp only at HB
  unfold va
  dsimp only
  have hst : ∀ (a : Addr) (n : Nat) (m : Mode) (w : World), (store a (.float .f64 n) m).run Tryz.prog w = stored Tryz.prog w a (.float .f64 n) m := fun a n m w => run_store _ _ _ _ _ rfl
  go_enter Tryz.func27, Tryz.ntmps27
  go_wp2_with fail
  refine (HB _).mono ?_
  rintro e w1 ⟨rfl, g1⟩
  have G1 : Hid (Grown w w1) := Grown.trans (by go_grown) g1
  have R1 : Hid (Rv w1 w.heap.size) := Rv.grown (Rv.new w 28) g1
  clear g1
  obtain ⟨r0, r1, r2, r3, r4, r5, rz⟩ := (show Rv w1 w.heap.size from R1)
  go_wp2_with fail
  obtain ⟨e0, e1, e2, e3, e4, e5⟩ := rv_set' (show Rv w1 w.heap.size from R1) 0 1 1 0 ⟨#[]⟩ 0
  have GG : Hid (Grown w (s6 w1 (w.heap.size) 0 1 1 0 ⟨#[]⟩ 0)) := s6_grown G1 (by omega) 0 1 1 0 ⟨#[]⟩ 0
  obtain ⟨WF, hWF⟩ : ∃ WF, WF = s6 w1 (w.heap.size) 0 1 1 0 ⟨#[]⟩ 0 := ⟨_, rfl⟩
  rw [← hWF] at e0 e1 e2 e3 e4 e5 GG
  have hWF' := hWF
  unfold s6 at hWF'
  rw [← hWF']
  clear hWF hWF'
  refine bodyPost_ret (by simp [results, Tryz.results27, go_sem, e0, e1, e2, e3, e4, e5]; rfl) rfl ?_
  exact ⟨rfl, GG⟩
set_option maxHeartbeats 2000000 in
theorem im_ord_18_3 (w : World) : Calls Tryz.prog 27 #[.int .i64 18, .int .i64 2] w fun e w' => e = .returned (va 0 ⟨1, 0, 0, ⟨#[]⟩, 0⟩) ∧ Grown w w' := by
  have HB := fun w => im_bool_false w
  unfold va at HB
  dsimp only at HB
  unfold va
  dsimp only
  have hst : ∀ (a : Addr) (n : Nat) (m : Mode) (w : World), (store a (.float .f64 n) m).run Tryz.prog w = stored Tryz.prog w a (.float .f64 n) m := fun a n m w => run_store _ _ _ _ _ rfl
  go_enter Tryz.func27, Tryz.ntmps27
  go_wp2_with fail
  refine (HB _).mono ?_
  rintro e w1 ⟨rfl, g1⟩
  have G1 : Hid (Grown w w1) := Grown.trans (by go_grown) g1
  have R1 : Hid (Rv w1 w.heap.size) := Rv.grown (Rv.new w 28) g1
  clear g1
  obtain ⟨r0, r1, r2, r3, r4, r5, rz⟩ := (show Rv w1 w.heap.size from R1)
  go_wp2_with fail
  obtain ⟨e0, e1, e2, e3, e4, e5⟩ := rv_set' (show Rv w1 w.heap.size from R1) 0 1 0 0 ⟨#[]⟩ 0
  have GG : Hid (Grown w (s6 w1 (w.heap.size) 0 1 0 0 ⟨#[]⟩ 0)) := s6_grown G1 (by omega) 0 1 0 0 ⟨#[]⟩ 0
  obtain ⟨WF, hWF⟩ : ∃ WF, WF = s6 w1 (w.heap.size) 0 1 0 0 ⟨#[]⟩ 0 := ⟨_, rfl⟩
  rw [← hWF] at e0 e1 e2 e3 e4 e5 GG
  have hWF' := hWF
  unfold s6 at hWF'
  rw [← hWF']
  clear hWF hWF'
  refine bodyPost_ret (by simp [results, Tryz.results27, go_sem, e0, e1, e2, e3, e4, e5]; rfl) rfl ?_
  exact ⟨rfl, GG⟩
theorem im_ord (op z : Int) (ho : 15 ≤ op ∧ op ≤ 18) (hz : -1 ≤ z ∧ z ≤ 3) (h3 : ¬ z = 3) (w : World) : Calls Tryz.prog 27 #[.int .i64 op, .int .i64 z] w fun e w' => e = .returned (va 0 ⟨1, (ordb op z).toInt, 0, ⟨#[]⟩, 0⟩) ∧ Grown w w' := by
  have h : z = -1 ∨ z = 0 ∨ z = 1 ∨ z = 2 := by omega
  have o : op = 15 ∨ op = 16 ∨ op = 17 ∨ op = 18 := by omega
  rcases o with rfl | rfl | rfl | rfl <;> rcases h with rfl | rfl | rfl | rfl
  · exact im_ord_15_0 w
  · exact im_ord_15_1 w
  · exact im_ord_15_2 w
  · exact im_ord_15_3 w
  · exact im_ord_16_0 w
  · exact im_ord_16_1 w
  · exact im_ord_16_2 w
  · exact im_ord_16_3 w
  · exact im_ord_17_0 w
  · exact im_ord_17_1 w
  · exact im_ord_17_2 w
  · exact im_ord_17_3 w
  · exact im_ord_18_0 w
  · exact im_ord_18_1 w
  · exact im_ord_18_2 w
  · exact im_ord_18_3 w
end Go.Proofs.YtladepgpandklaaGreatDoor
