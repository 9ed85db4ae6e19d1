import Derived.Test.YtladepgpandklaaGreatDoorMVcf
import Derived.Test.YtladepgpandklaaGreatDoorMVah
namespace Go.Proofs.YtladepgpandklaaGreatDoor
open Go.ChangeShapes Go.WideShapes Go.ChangeAt Go.RowKit
set_option linter.unusedVariables false
set_option maxRecDepth 100000
theorem Vc.kq {a w : World} {B : Nat} {v : Vv} (h : Vc a B v) (g : Kq a w) : Vc w B v := ⟨g.cell h.c0, g.cell h.c1, g.cell h.c2, g.cell h.c3, g.cell h.c4⟩
set_option maxHeartbeats 2000000 in
theorem sp_tx_bad (v : Vv) (ho : ¬ vok v) (hx : (v.x.size : Int) ≤ 1048576) (w : World) : Calls Tryz.prog 12 #[vv v] w fun e w' => e = .returned (.string ⟨#[]⟩) ∧ Grown w w' := by
  have HO := fun w => sp_ok v hx w
  rw [dc_f ho] at HO
  obtain ⟨k, m, g, x, r⟩ := v
  unfold vv at *
  dsimp only at *
  clear hx ho
  go_enter Tryz.func12, Tryz.ntmps12
  go_wp2_with fail
  refine (HO _).mono ?_
  rintro e w1 ⟨rfl, g1⟩
  have A1 : Hid (Vc w1 w.heap.size ⟨k, m, g, x, r⟩) := (Vc.new w k m g x r 26).grown g1
  have G1 : Hid (Grown w w1) := Grown.trans (by go_grown) g1
  obtain ⟨c0, c1, c2, c3, c4⟩ := (show Vc w1 w.heap.size ⟨k, m, g, x, r⟩ from A1)
  clear g1 HO A1
  go_wp2_with fail
  go_ret
  exact ⟨by first | rfl | simp [*], G1⟩
set_option maxHeartbeats 2000000 in
theorem sp_tx_nil (v : Vv) (ho : vok v) (hk : v.k = 0) (hx : (v.x.size : Int) ≤ 1048576) (w : World) : Calls Tryz.prog 12 #[vv v] w fun e w' => e = .returned (.string ⟨#[110, 105, 108]⟩) ∧ Grown w w' := by
  have HO := fun w => sp_ok v hx w
  rw [dc_t ho] at HO
  obtain ⟨k, m, g, x, r⟩ := v
  unfold vv at *
  dsimp only at *
  clear hx ho
  subst hk
  go_enter Tryz.func12, Tryz.ntmps12
  go_wp2_with fail
  refine (HO _).mono ?_
  rintro e w1 ⟨rfl, g1⟩
  have A1 : Hid (Vc w1 w.heap.size ⟨0, m, g, x, r⟩) := (Vc.new w 0 m g x r 26).grown g1
  have G1 : Hid (Grown w w1) := Grown.trans (by go_grown) g1
  obtain ⟨c0, c1, c2, c3, c4⟩ := (show Vc w1 w.heap.size ⟨0, m, g, x, r⟩ from A1)
  clear g1 HO A1
  go_wp2_with fail
  go_ret
  exact ⟨by first | rfl | simp [*], G1⟩
set_option maxHeartbeats 2000000 in
theorem sp_tx_table (v : Vv) (ho : vok v) (hk : v.k = 5) (hx : (v.x.size : Int) ≤ 1048576) (w : World) : Calls Tryz.prog 12 #[vv v] w fun e w' => e = .returned (.string ⟨#[116, 97, 98, 108, 101]⟩) ∧ Grown w w' := by
  have HO := fun w => sp_ok v hx w
  rw [dc_t ho] at HO
  obtain ⟨k, m, g, x, r⟩ := v
  unfold vv at *
  dsimp only at *
  clear hx ho
  subst hk
  go_enter Tryz.func12, Tryz.ntmps12
  go_wp2_with fail
  refine (HO _).mono ?_
  rintro e w1 ⟨rfl, g1⟩
  have A1 : Hid (Vc w1 w.heap.size ⟨5, m, g, x, r⟩) := (Vc.new w 5 m g x r 26).grown g1
  have G1 : Hid (Grown w w1) := Grown.trans (by go_grown) g1
  obtain ⟨c0, c1, c2, c3, c4⟩ := (show Vc w1 w.heap.size ⟨5, m, g, x, r⟩ from A1)
  clear g1 HO A1
  go_wp2_with fail
  go_ret
  exact ⟨by first | rfl | simp [*], G1⟩
set_option maxHeartbeats 2000000 in
theorem sp_tx_fn (v : Vv) (ho : vok v) (hk : v.k = 6) (hx : (v.x.size : Int) ≤ 1048576) (w : World) : Calls Tryz.prog 12 #[vv v] w fun e w' => e = .returned (.string ⟨#[102, 110]⟩) ∧ Grown w w' := by
  have HO := fun w => sp_ok v hx w
  rw [dc_t ho] at HO
  obtain ⟨k, m, g, x, r⟩ := v
  unfold vv at *
  dsimp only at *
  clear hx ho
  subst hk
  go_enter Tryz.func12, Tryz.ntmps12
  go_wp2_with fail
  refine (HO _).mono ?_
  rintro e w1 ⟨rfl, g1⟩
  have A1 : Hid (Vc w1 w.heap.size ⟨6, m, g, x, r⟩) := (Vc.new w 6 m g x r 26).grown g1
  have G1 : Hid (Grown w w1) := Grown.trans (by go_grown) g1
  obtain ⟨c0, c1, c2, c3, c4⟩ := (show Vc w1 w.heap.size ⟨6, m, g, x, r⟩ from A1)
  clear g1 HO A1
  go_wp2_with fail
  go_ret
  exact ⟨by first | rfl | simp [*], G1⟩
set_option maxHeartbeats 2000000 in
theorem sp_tx_task (v : Vv) (ho : vok v) (hk : v.k = 7) (hx : (v.x.size : Int) ≤ 1048576) (w : World) : Calls Tryz.prog 12 #[vv v] w fun e w' => e = .returned (.string ⟨#[116, 97, 115, 107]⟩) ∧ Grown w w' := by
  have HO := fun w => sp_ok v hx w
  rw [dc_t ho] at HO
  obtain ⟨k, m, g, x, r⟩ := v
  unfold vv at *
  dsimp only at *
  clear hx ho
  subst hk
  go_enter Tryz.func12, Tryz.ntmps12
  go_wp2_with fail
  refine (HO _).mono ?_
  rintro e w1 ⟨rfl, g1⟩
  have A1 : Hid (Vc w1 w.heap.size ⟨7, m, g, x, r⟩) := (Vc.new w 7 m g x r 26).grown g1
  have G1 : Hid (Grown w w1) := Grown.trans (by go_grown) g1
  obtain ⟨c0, c1, c2, c3, c4⟩ := (show Vc w1 w.heap.size ⟨7, m, g, x, r⟩ from A1)
  clear g1 HO A1
  go_wp2_with fail
  go_ret
  exact ⟨by first | rfl | simp [*], G1⟩
set_option maxHeartbeats 2000000 in
theorem sp_tx_builtin (v : Vv) (ho : vok v) (hk : v.k = 8) (hx : (v.x.size : Int) ≤ 1048576) (w : World) : Calls Tryz.prog 12 #[vv v] w fun e w' => e = .returned (.string ⟨#[98, 117, 105, 108, 116, 105, 110]⟩) ∧ Grown w w' := by
  have HO := fun w => sp_ok v hx w
  rw [dc_t ho] at HO
  obtain ⟨k, m, g, x, r⟩ := v
  unfold vv at *
  dsimp only at *
  clear hx ho
  subst hk
  go_enter Tryz.func12, Tryz.ntmps12
  go_wp2_with fail
  refine (HO _).mono ?_
  rintro e w1 ⟨rfl, g1⟩
  have A1 : Hid (Vc w1 w.heap.size ⟨8, m, g, x, r⟩) := (Vc.new w 8 m g x r 26).grown g1
  have G1 : Hid (Grown w w1) := Grown.trans (by go_grown) g1
  obtain ⟨c0, c1, c2, c3, c4⟩ := (show Vc w1 w.heap.size ⟨8, m, g, x, r⟩ from A1)
  clear g1 HO A1
  go_wp2_with fail
  go_ret
  exact ⟨by first | rfl | simp [*], G1⟩
set_option maxHeartbeats 2000000 in
theorem sp_tx_true (v : Vv) (ho : vok v) (hk : v.k = 1) (hm : v.m = 1) (hx : (v.x.size : Int) ≤ 1048576) (w : World) : Calls Tryz.prog 12 #[vv v] w fun e w' => e = .returned (.string ⟨#[116, 114, 117, 101]⟩) ∧ Grown w w' := by
  have HO := fun w => sp_ok v hx w
  rw [dc_t ho] at HO
  obtain ⟨k, m, g, x, r⟩ := v
  unfold vv at *
  dsimp only at *
  clear hx ho
  subst hk
  subst hm
  go_enter Tryz.func12, Tryz.ntmps12
  go_wp2_with fail
  refine (HO _).mono ?_
  rintro e w1 ⟨rfl, g1⟩
  have A1 : Hid (Vc w1 w.heap.size ⟨1, 1, g, x, r⟩) := (Vc.new w 1 1 g x r 26).grown g1
  have G1 : Hid (Grown w w1) := Grown.trans (by go_grown) g1
  obtain ⟨c0, c1, c2, c3, c4⟩ := (show Vc w1 w.heap.size ⟨1, 1, g, x, r⟩ from A1)
  clear g1 HO A1
  go_wp2_with fail
  go_ret
  exact ⟨by first | rfl | simp [*], G1⟩
set_option maxHeartbeats 2000000 in
theorem sp_tx_false (v : Vv) (ho : vok v) (hk : v.k = 1) (hm : ¬ v.m = 1) (hx : (v.x.size : Int) ≤ 1048576) (w : World) : Calls Tryz.prog 12 #[vv v] w fun e w' => e = .returned (.string ⟨#[102, 97, 108, 115, 101]⟩) ∧ Grown w w' := by
  have HO := fun w => sp_ok v hx w
  rw [dc_t ho] at HO
  obtain ⟨k, m, g, x, r⟩ := v
  unfold vv at *
  dsimp only at *
  clear hx ho
  subst hk
  go_enter Tryz.func12, Tryz.ntmps12
  go_wp2_with fail
  refine (HO _).mono ?_
  rintro e w1 ⟨rfl, g1⟩
  have A1 : Hid (Vc w1 w.heap.size ⟨1, m, g, x, r⟩) := (Vc.new w 1 m g x r 26).grown g1
  have G1 : Hid (Grown w w1) := Grown.trans (by go_grown) g1
  obtain ⟨c0, c1, c2, c3, c4⟩ := (show Vc w1 w.heap.size ⟨1, m, g, x, r⟩ from A1)
  clear g1 HO A1
  go_wp2_with fail
  go_ret
  exact ⟨by first | rfl | simp [*], G1⟩
set_option maxHeartbeats 2000000 in
theorem sp_tx_int (v : Vv) (ho : vok v) (hk : v.k = 2) (hb : Vb v) (hx : (v.x.size : Int) ≤ 1048576) (w : World) : Calls Tryz.prog 12 #[vv v] w fun e w' => e = .returned (.string (itx v.m)) ∧ Grown w w' := by
  have HO := fun w => sp_ok v hx w
  rw [dc_t ho] at HO
  have HD := fun w => sp_dec v.m hb.m.1 hb.m.2 w
  generalize itx v.m = T at *
  obtain ⟨k, m, g, x, r⟩ := v
  unfold vv at *
  dsimp only at *
  clear hx ho
  subst hk
  go_enter Tryz.func12, Tryz.ntmps12
  go_wp2_with fail
  refine (HO _).mono ?_
  rintro e w1 ⟨rfl, g1⟩
  have A1 : Hid (Vc w1 w.heap.size ⟨2, m, g, x, r⟩) := (Vc.new w 2 m g x r 26).grown g1
  have G1 : Hid (Grown w w1) := Grown.trans (by go_grown) g1
  obtain ⟨c0, c1, c2, c3, c4⟩ := (show Vc w1 w.heap.size ⟨2, m, g, x, r⟩ from A1)
  clear g1 HO A1
  go_wp2_with fail
  refine (HD _).mono ?_
  rintro e w2 ⟨rfl, g2⟩
  have G2 : Hid (Grown w w2) := Grown.trans G1 g2
  clear g2
  go_wp2_with fail
  go_ret
  exact ⟨by first | rfl | simp [*], G2⟩
set_option maxHeartbeats 2000000 in
theorem sp_tx_flt (v : Vv) (ho : vok v) (hk : v.k = 3) (T : ByteArray) (HD : ∀ w, Calls Tryz.prog 37 #[.float .f64 v.g] w fun e w' => e = .returned (.string T) ∧ Grown w w') (hx : (v.x.size : Int) ≤ 1048576) (w : World) : Calls Tryz.prog 12 #[vv v] w fun e w' => e = .returned (.string T) ∧ Grown w w' := by
  have HO := fun w => sp_ok v hx w
  rw [dc_t ho] at HO
  obtain ⟨k, m, g, x, r⟩ := v
  unfold vv at *
  dsimp only at *
  clear hx ho
  subst hk
  go_enter Tryz.func12, Tryz.ntmps12
  go_wp2_with fail
  refine (HO _).mono ?_
  rintro e w1 ⟨rfl, g1⟩
  have A1 : Hid (Vc w1 w.heap.size ⟨3, m, g, x, r⟩) := (Vc.new w 3 m g x r 26).grown g1
  have G1 : Hid (Grown w w1) := Grown.trans (by go_grown) g1
  obtain ⟨c0, c1, c2, c3, c4⟩ := (show Vc w1 w.heap.size ⟨3, m, g, x, r⟩ from A1)
  clear g1 HO A1
  go_wp2_with fail
  refine (HD _).mono ?_
  rintro e w2 ⟨rfl, g2⟩
  have G2 : Hid (Grown w w2) := Grown.trans G1 g2
  clear g2
  go_wp2_with fail
  go_ret
  exact ⟨by first | rfl | simp [*], G2⟩
set_option maxHeartbeats 2000000 in
theorem sp_tx_str (v : Vv) (ho : vok v) (hk : v.k = 4) (hx : (v.x.size : Int) ≤ 1048576) (w : World) : Calls Tryz.prog 12 #[vv v] w fun e w' => e = .returned (.string v.x) ∧ Grown w w' := by
  have HO := fun w => sp_ok v hx w
  rw [dc_t ho] at HO
  obtain ⟨k, m, g, x, r⟩ := v
  unfold vv at *
  dsimp only at *
  clear hx ho
  subst hk
  go_enter Tryz.func12, Tryz.ntmps12
  go_wp2_with fail
  refine (HO _).mono ?_
  rintro e w1 ⟨rfl, g1⟩
  have A1 : Hid (Vc w1 w.heap.size ⟨4, m, g, x, r⟩) := (Vc.new w 4 m g x r 26).grown g1
  have G1 : Hid (Grown w w1) := Grown.trans (by go_grown) g1
  obtain ⟨c0, c1, c2, c3, c4⟩ := (show Vc w1 w.heap.size ⟨4, m, g, x, r⟩ from A1)
  clear g1 HO A1
  go_wp2_with fail
  go_ret
  exact ⟨by first | rfl | simp [*], G1⟩
set_option maxHeartbeats 2000000 in
theorem im_tx_bad (v : Vv) (ho : ¬ vok v) (hx : (v.x.size : Int) ≤ 1048576) (w : World) (hT : Tb w) : Calls Tryz.prog 46 #[vv v] w fun e w' => e = .returned (.string ⟨#[]⟩) ∧ Kq w w' := by
  have HO := fun w => im_ok v hx w
  rw [dc_f ho] at HO
  obtain ⟨k, m, g, x, r⟩ := v
  unfold vv at *
  dsimp only at *
  clear hx ho
  go_enter Tryz.func46, Tryz.ntmps46
  go_wp2_with fail
  refine (HO _).mono ?_
  rintro e w1 ⟨rfl, g1⟩
  have A1 : Hid (Vc w1 w.heap.size ⟨k, m, g, x, r⟩) := (Vc.new w k m g x r 26).grown g1
  have G1 : Hid (Kq w w1) := .of_grown (Grown.trans (by go_grown) g1)
  obtain ⟨c0, c1, c2, c3, c4⟩ := (show Vc w1 w.heap.size ⟨k, m, g, x, r⟩ from A1)
  clear g1 HO A1
  go_wp2_with fail
  go_ret
  exact ⟨by first | rfl | simp [*], G1⟩
set_option maxHeartbeats 2000000 in
theorem im_tx_nil (v : Vv) (ho : vok v) (hk : v.k = 0) (hx : (v.x.size : Int) ≤ 1048576) (w : World) (hT : Tb w) : Calls Tryz.prog 46 #[vv v] w fun e w' => e = .returned (.string ⟨#[110, 105, 108]⟩) ∧ Kq w w' := by
  have HO := fun w => im_ok v hx w
  rw [dc_t ho] at HO
  obtain ⟨k, m, g, x, r⟩ := v
  unfold vv at *
  dsimp only at *
  clear hx ho
  subst hk
  go_enter Tryz.func46, Tryz.ntmps46
  go_wp2_with fail
  refine (HO _).mono ?_
  rintro e w1 ⟨rfl, g1⟩
  have A1 : Hid (Vc w1 w.heap.size ⟨0, m, g, x, r⟩) := (Vc.new w 0 m g x r 26).grown g1
  have G1 : Hid (Kq w w1) := .of_grown (Grown.trans (by go_grown) g1)
  obtain ⟨c0, c1, c2, c3, c4⟩ := (show Vc w1 w.heap.size ⟨0, m, g, x, r⟩ from A1)
  clear g1 HO A1
  go_wp2_with fail
  go_ret
  exact ⟨by first | rfl | simp [*], G1⟩
set_option maxHeartbeats 2000000 in
theorem im_tx_table (v : Vv) (ho : vok v) (hk : v.k = 5) (hx : (v.x.size : Int) ≤ 1048576) (w : World) (hT : Tb w) : Calls Tryz.prog 46 #[vv v] w fun e w' => e = .returned (.string ⟨#[116, 97, 98, 108, 101]⟩) ∧ Kq w w' := by
  have HO := fun w => im_ok v hx w
  rw [dc_t ho] at HO
  obtain ⟨k, m, g, x, r⟩ := v
  unfold vv at *
  dsimp only at *
  clear hx ho
  subst hk
  go_enter Tryz.func46, Tryz.ntmps46
  go_wp2_with fail
  refine (HO _).mono ?_
  rintro e w1 ⟨rfl, g1⟩
  have A1 : Hid (Vc w1 w.heap.size ⟨5, m, g, x, r⟩) := (Vc.new w 5 m g x r 26).grown g1
  have G1 : Hid (Kq w w1) := .of_grown (Grown.trans (by go_grown) g1)
  obtain ⟨c0, c1, c2, c3, c4⟩ := (show Vc w1 w.heap.size ⟨5, m, g, x, r⟩ from A1)
  clear g1 HO A1
  go_wp2_with fail
  go_ret
  exact ⟨by first | rfl | simp [*], G1⟩
set_option maxHeartbeats 2000000 in
theorem im_tx_fn (v : Vv) (ho : vok v) (hk : v.k = 6) (hx : (v.x.size : Int) ≤ 1048576) (w : World) (hT : Tb w) : Calls Tryz.prog 46 #[vv v] w fun e w' => e = .returned (.string ⟨#[102, 110]⟩) ∧ Kq w w' := by
  have HO := fun w => im_ok v hx w
  rw [dc_t ho] at HO
  obtain ⟨k, m, g, x, r⟩ := v
  unfold vv at *
  dsimp only at *
  clear hx ho
  subst hk
  go_enter Tryz.func46, Tryz.ntmps46
  go_wp2_with fail
  refine (HO _).mono ?_
  rintro e w1 ⟨rfl, g1⟩
  have A1 : Hid (Vc w1 w.heap.size ⟨6, m, g, x, r⟩) := (Vc.new w 6 m g x r 26).grown g1
  have G1 : Hid (Kq w w1) := .of_grown (Grown.trans (by go_grown) g1)
  obtain ⟨c0, c1, c2, c3, c4⟩ := (show Vc w1 w.heap.size ⟨6, m, g, x, r⟩ from A1)
  clear g1 HO A1
  go_wp2_with fail
  go_ret
  exact ⟨by first | rfl | simp [*], G1⟩
set_option maxHeartbeats 2000000 in
theorem im_tx_task (v : Vv) (ho : vok v) (hk : v.k = 7) (hx : (v.x.size : Int) ≤ 1048576) (w : World) (hT : Tb w) : Calls Tryz.prog 46 #[vv v] w fun e w' => e = .returned (.string ⟨#[116, 97, 115, 107]⟩) ∧ Kq w w' := by
  have HO := fun w => im_ok v hx w
  rw [dc_t ho] at HO
  obtain ⟨k, m, g, x, r⟩ := v
  unfold vv at *
  dsimp only at *
  clear hx ho
  subst hk
  go_enter Tryz.func46, Tryz.ntmps46
  go_wp2_with fail
  refine (HO _).mono ?_
  rintro e w1 ⟨rfl, g1⟩
  have A1 : Hid (Vc w1 w.heap.size ⟨7, m, g, x, r⟩) := (Vc.new w 7 m g x r 26).grown g1
  have G1 : Hid (Kq w w1) := .of_grown (Grown.trans (by go_grown) g1)
  obtain ⟨c0, c1, c2, c3, c4⟩ := (show Vc w1 w.heap.size ⟨7, m, g, x, r⟩ from A1)
  clear g1 HO A1
  go_wp2_with fail
  go_ret
  exact ⟨by first | rfl | simp [*], G1⟩
set_option maxHeartbeats 2000000 in
theorem im_tx_builtin (v : Vv) (ho : vok v) (hk : v.k = 8) (hx : (v.x.size : Int) ≤ 1048576) (w : World) (hT : Tb w) : Calls Tryz.prog 46 #[vv v] w fun e w' => e = .returned (.string ⟨#[98, 117, 105, 108, 116, 105, 110]⟩) ∧ Kq w w' := by
  have HO := fun w => im_ok v hx w
  rw [dc_t ho] at HO
  obtain ⟨k, m, g, x, r⟩ := v
  unfold vv at *
  dsimp only at *
  clear hx ho
  subst hk
  go_enter Tryz.func46, Tryz.ntmps46
  go_wp2_with fail
  refine (HO _).mono ?_
  rintro e w1 ⟨rfl, g1⟩
  have A1 : Hid (Vc w1 w.heap.size ⟨8, m, g, x, r⟩) := (Vc.new w 8 m g x r 26).grown g1
  have G1 : Hid (Kq w w1) := .of_grown (Grown.trans (by go_grown) g1)
  obtain ⟨c0, c1, c2, c3, c4⟩ := (show Vc w1 w.heap.size ⟨8, m, g, x, r⟩ from A1)
  clear g1 HO A1
  go_wp2_with fail
  go_ret
  exact ⟨by first | rfl | simp [*], G1⟩
set_option maxHeartbeats 2000000 in
theorem im_tx_true (v : Vv) (ho : vok v) (hk : v.k = 1) (hm : v.m = 1) (hx : (v.x.size : Int) ≤ 1048576) (w : World) (hT : Tb w) : Calls Tryz.prog 46 #[vv v] w fun e w' => e = .returned (.string ⟨#[116, 114, 117, 101]⟩) ∧ Kq w w' := by
  have HO := fun w => im_ok v hx w
  rw [dc_t ho] at HO
  have HD := fun w => im_bool true w
  simp only [if_true] at HD
  obtain ⟨k, m, g, x, r⟩ := v
  unfold vv at *
  dsimp only at *
  clear hx ho
  subst hk
  subst hm
  go_enter Tryz.func46, Tryz.ntmps46
  go_wp2_with fail
  refine (HO _).mono ?_
  rintro e w1 ⟨rfl, g1⟩
  have A1 : Hid (Vc w1 w.heap.size ⟨1, 1, g, x, r⟩) := (Vc.new w 1 1 g x r 26).grown g1
  have G1 : Hid (Kq w w1) := .of_grown (Grown.trans (by go_grown) g1)
  obtain ⟨c0, c1, c2, c3, c4⟩ := (show Vc w1 w.heap.size ⟨1, 1, g, x, r⟩ from A1)
  clear g1 HO A1
  go_wp2_with fail
  refine (HD _).mono ?_
  rintro e w9 ⟨rfl, rfl⟩
  go_wp2_with fail
  go_ret
  exact ⟨by first | rfl | simp [*], G1⟩
set_option maxHeartbeats 2000000 in
theorem im_tx_false (v : Vv) (ho : vok v) (hk : v.k = 1) (hm : ¬ v.m = 1) (hx : (v.x.size : Int) ≤ 1048576) (w : World) (hT : Tb w) : Calls Tryz.prog 46 #[vv v] w fun e w' => e = .returned (.string ⟨#[102, 97, 108, 115, 101]⟩) ∧ Kq w w' := by
  have HO := fun w => im_ok v hx w
  rw [dc_t ho] at HO
  have HD := fun w => im_bool false w
  simp only [Bool.false_eq_true, if_false] at HD
  have hm2 : (v.m == 1) = false := by simpa using hm
  obtain ⟨k, m, g, x, r⟩ := v
  unfold vv at *
  dsimp only at *
  clear hx ho
  subst hk
  go_enter Tryz.func46, Tryz.ntmps46
  go_wp2_with fail
  refine (HO _).mono ?_
  rintro e w1 ⟨rfl, g1⟩
  have A1 : Hid (Vc w1 w.heap.size ⟨1, m, g, x, r⟩) := (Vc.new w 1 m g x r 26).grown g1
  have G1 : Hid (Kq w w1) := .of_grown (Grown.trans (by go_grown) g1)
  obtain ⟨c0, c1, c2, c3, c4⟩ := (show Vc w1 w.heap.size ⟨1, m, g, x, r⟩ from A1)
  clear g1 HO A1
  go_wp2_with fail
  refine (HD _).mono ?_
  rintro e w9 ⟨rfl, rfl⟩
  go_wp2_with fail
  go_ret
  exact ⟨by first | rfl | simp [*], G1⟩
set_option maxHeartbeats 2000000 in
theorem im_tx_int (v : Vv) (ho : vok v) (hk : v.k = 2) (hb : Vb v) (hx : (v.x.size : Int) ≤ 1048576) (w : World) (hT : Tb w) : Calls Tryz.prog 46 #[vv v] w fun e w' => e = .returned (.string (itx v.m)) ∧ Kq w w' := by
  have HO := fun w => im_ok v hx w
  rw [dc_t ho] at HO
  have HD := fun w hp => im_write v.m hb.m.1 hb.m.2 w hp
  generalize itx v.m = T at *
  obtain ⟨k, m, g, x, r⟩ := v
  unfold vv at *
  dsimp only at *
  clear hx ho
  subst hk
  go_enter Tryz.func46, Tryz.ntmps46
  go_wp2_with fail
  refine (HO _).mono ?_
  rintro e w1 ⟨rfl, g1⟩
  have A1 : Hid (Vc w1 w.heap.size ⟨2, m, g, x, r⟩) := (Vc.new w 2 m g x r 26).grown g1
  have G1 : Hid (Kq w w1) := .of_grown (Grown.trans (by go_grown) g1)
  obtain ⟨c0, c1, c2, c3, c4⟩ := (show Vc w1 w.heap.size ⟨2, m, g, x, r⟩ from A1)
  clear g1 HO A1
  go_wp2_with fail
  refine (HD _ (hT.kq G1).pw).mono ?_
  rintro e w2 ⟨rfl, g2⟩
  have G2 : Hid (Kq w w2) := Kq.trans G1 (.of_below g2)
  clear g2
  go_wp2_with fail
  go_ret
  exact ⟨by first | rfl | simp [*], G2⟩
set_option maxHeartbeats 2000000 in
theorem im_tx_flt (v : Vv) (ho : vok v) (hk : v.k = 3) (T : ByteArray) (HD : ∀ w, Tb w → Calls Tryz.prog 58 #[.float .f64 v.g] w fun e w' => e = .returned (.string T) ∧ Kq w w') (hx : (v.x.size : Int) ≤ 1048576) (w : World) (hT : Tb w) : Calls Tryz.prog 46 #[vv v] w fun e w' => e = .returned (.string T) ∧ Kq w w' := by
  have HO := fun w => im_ok v hx w
  rw [dc_t ho] at HO
  obtain ⟨k, m, g, x, r⟩ := v
  unfold vv at *
  dsimp only at *
  clear hx ho
  subst hk
  go_enter Tryz.func46, Tryz.ntmps46
  go_wp2_with fail
  refine (HO _).mono ?_
  rintro e w1 ⟨rfl, g1⟩
  have A1 : Hid (Vc w1 w.heap.size ⟨3, m, g, x, r⟩) := (Vc.new w 3 m g x r 26).grown g1
  have G1 : Hid (Kq w w1) := .of_grown (Grown.trans (by go_grown) g1)
  obtain ⟨c0, c1, c2, c3, c4⟩ := (show Vc w1 w.heap.size ⟨3, m, g, x, r⟩ from A1)
  clear g1 HO A1
  go_wp2_with fail
  refine (HD _ (hT.kq G1)).mono ?_
  rintro e w2 ⟨rfl, g2⟩
  have G2 : Hid (Kq w w2) := Kq.trans G1 g2
  clear g2
  go_wp2_with fail
  go_ret
  exact ⟨by first | rfl | simp [*], G2⟩
set_option maxHeartbeats 2000000 in
theorem im_tx_str (v : Vv) (ho : vok v) (hk : v.k = 4) (hx : (v.x.size : Int) ≤ 1048576) (w : World) (hT : Tb w) : Calls Tryz.prog 46 #[vv v] w fun e w' => e = .returned (.string v.x) ∧ Kq w w' := by
  have HO := fun w => im_ok v hx w
  rw [dc_t ho] at HO
  have HD := fun w => im_clone v.x (by omega) w
  obtain ⟨k, m, g, x, r⟩ := v
  unfold vv at *
  dsimp only at *
  clear hx ho
  subst hk
  go_enter Tryz.func46, Tryz.ntmps46
  go_wp2_with fail
  refine (HO _).mono ?_
  rintro e w1 ⟨rfl, g1⟩
  have A1 : Hid (Vc w1 w.heap.size ⟨4, m, g, x, r⟩) := (Vc.new w 4 m g x r 26).grown g1
  have G1 : Hid (Kq w w1) := .of_grown (Grown.trans (by go_grown) g1)
  obtain ⟨c0, c1, c2, c3, c4⟩ := (show Vc w1 w.heap.size ⟨4, m, g, x, r⟩ from A1)
  clear g1 HO A1
  go_wp2_with fail
  refine (HD _).mono ?_
  rintro e w2 ⟨rfl, g2⟩
  have G2 : Hid (Kq w w2) := Kq.trans G1 (.of_below g2)
  clear g2
  go_wp2_with fail
  go_ret
  exact ⟨by first | rfl | simp [*], G2⟩
theorem text_both (v : Vv) (hb : Vb v) (hs : (v.x.size : Int) ≤ 1048576) : ∃ T : ByteArray, T.size ≤ 4000 ∧ (∀ w, Calls Tryz.prog 12 #[vv v] w fun e w' => e = .returned (.string T) ∧ Grown w w') ∧ (∀ w, Tb w → Calls Tryz.prog 46 #[vv v] w fun e w' => e = .returned (.string T) ∧ Kq w w') := by
  by_cases ho : vok v
  case neg => exact ⟨_, by decide, fun w => sp_tx_bad v ho hs w, fun w hT => im_tx_bad v ho hs w hT⟩
  by_cases hk : v.k = 0 ∨ v.k = 1 ∨ v.k = 2 ∨ v.k = 3 ∨ v.k = 4 ∨ v.k = 5 ∨ v.k = 6 ∨ v.k = 7 ∨ v.k = 8
  case neg => exact absurd ho (vokx hk)
  rcases hk with hk | hk | hk | hk | hk | hk | hk | hk | hk
  · exact ⟨_, by decide, fun w => sp_tx_nil v ho hk hs w, fun w hT => im_tx_nil v ho hk hs w hT⟩
  · by_cases hm : v.m = 1
    · exact ⟨_, by decide, fun w => sp_tx_true v ho hk hm hs w, fun w hT => im_tx_true v ho hk hm hs w hT⟩
    · exact ⟨_, by decide, fun w => sp_tx_false v ho hk hm hs w, fun w hT => im_tx_false v ho hk hm hs w hT⟩
  · exact ⟨_, by have := itx_len v.m hb.m.1 hb.m.2; omega, fun w => sp_tx_int v ho hk hb hs w, fun w hT => im_tx_int v ho hk hb hs w hT⟩
  · obtain ⟨T, hT0, h1, h2⟩ := ft_both v.g hb.g
    exact ⟨T, by omega, fun w => sp_tx_flt v ho hk T h1 hs w, fun w hT => im_tx_flt v ho hk T h2 hs w hT⟩
  · have h4 := ((vok4 hk).1 ho).2
    exact ⟨_, h4, fun w => sp_tx_str v ho hk hs w, fun w hT => im_tx_str v ho hk hs w hT⟩
  · exact ⟨_, by decide, fun w => sp_tx_table v ho hk hs w, fun w hT => im_tx_table v ho hk hs w hT⟩
  · exact ⟨_, by decide, fun w => sp_tx_fn v ho hk hs w, fun w hT => im_tx_fn v ho hk hs w hT⟩
  · exact ⟨_, by decide, fun w => sp_tx_task v ho hk hs w, fun w hT => im_tx_task v ho hk hs w hT⟩
  · exact ⟨_, by decide, fun w => sp_tx_builtin v ho hk hs w, fun w hT => im_tx_builtin v ho hk hs w hT⟩
end Go.Proofs.YtladepgpandklaaGreatDoor
