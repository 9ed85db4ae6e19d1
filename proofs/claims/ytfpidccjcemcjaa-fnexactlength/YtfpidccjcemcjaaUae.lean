import Derived.Test.YtfpidccjcemcjaaUac
import Derived.Test.YtfpidccjcemcjaaVaw
import Derived.Test.YtfpidccjcemcjaaUad
namespace Go.Proofs.Ytfpidccjcemcjaa
open Go.ChangeShapes Go.WideShapes Go.ChangeAt Go.RowKit
set_option linter.unusedVariables false
set_option maxRecDepth 100000
set_option maxHeartbeats 4000000 in
theorem im_ko_bad (v : Vv) (hx : (v.x.size : Int) ≤ 1048576) (ho : ¬ vok v) (w : World) : Calls Try.prog 37 #[vv v] w fun e w' => e = .returned (va 1 ⟨0, 0, 0, ⟨#[]⟩, 0⟩) ∧ Kq w w' := by
  have HO := fun w => im_ok v hx w
  rw [dc_f ho] at HO
  have HF := fun w => im_fail 1 w
  obtain ⟨k, m, g, x, r⟩ := v
  unfold vv at *
  unfold va at *
  dsimp only at *
  clear hx ho
  have hst : ∀ (a : Addr) (n : Nat) (m : Mode) (w : World), (store a (.float .f64 n) m).run Try.prog w = stored Try.prog w a (.float .f64 n) m := fun a n m w => run_store _ _ _ _ _ rfl
  go_enter Try.func37, Try.ntmps37
  go_wp2_with fail
  refine (HO _).mono ?_
  rintro e w1 ⟨rfl, g1'⟩
  have g1 := Kq.of_grown g1'
  clear g1'
  have G1 : Hid (Kq w w1) := Kq.trans (.of_grown (by go_grown)) g1
  have V1 : Hid (Vc w1 w.heap.size ⟨k, m, g, x, r⟩) := Vc.kq ((Vc.new w k m g x r 26).grown (Grown.alloc (Grown.refl _) _ _)) g1
  have R1 : Hid (Rv w1 (w.heap.size + 1)) := by
    have h := Rv.new (w.alloc (.cells #[.int .i64 k, .int .i64 m, .float .f64 g, .string x, .int .i64 r] 26)) 28
    rw [World.size_alloc] at h
    exact h.kq g1
  have Z1 : w.heap.size + 1 < w1.heap.size := by have := g1.size; simp at this; omega
  obtain ⟨c0, c1, c2, c3, c4⟩ := (show Vc w1 w.heap.size ⟨k, m, g, x, r⟩ from V1)
  obtain ⟨r0, r1, r2, r3, r4, r5, rz⟩ := (show Rv w1 (w.heap.size + 1) from R1)
  clear g1
  go_wp2_with fail
  refine (HF _).mono ?_
  rintro e w2 ⟨rfl, g2'⟩
  have g2 := Kq.of_grown g2'
  clear g2'
  have G2 : Hid (Kq w w2) := Kq.trans G1 g2
  have V2 : Hid (Vc w2 w.heap.size ⟨k, m, g, x, r⟩) := Vc.kq V1 g2
  have R2 : Hid (Rv w2 (w.heap.size + 1)) := Rv.kq R1 g2
  have Z2 : w.heap.size + 1 < w2.heap.size := Nat.lt_of_lt_of_le Z1 g2.size
  clear G1 V1 R1 Z1 c0 c1 c2 c3 c4 r0 r1 r2 r3 r4 r5 rz
  obtain ⟨c0, c1, c2, c3, c4⟩ := (show Vc w2 w.heap.size ⟨k, m, g, x, r⟩ from V2)
  obtain ⟨r0, r1, r2, r3, r4, r5, rz⟩ := (show Rv w2 (w.heap.size + 1) from R2)
  clear g2
  go_wp2_with fail
  obtain ⟨e0, e1, e2, e3, e4, e5⟩ := rv_set' (show Rv w2 (w.heap.size + 1) from R2) 1 0 0 0 ⟨#[]⟩ 0
  have GG : Hid (Kq w (s6 w2 (w.heap.size + 1) 1 0 0 0 ⟨#[]⟩ 0)) := s6_kq G2 (by omega) 1 0 0 0 ⟨#[]⟩ 0
  obtain ⟨WF, hWF⟩ : ∃ WF, WF = s6 w2 (w.heap.size + 1) 1 0 0 0 ⟨#[]⟩ 0 := ⟨_, rfl⟩
  rw [← hWF] at e0 e1 e2 e3 e4 e5 GG
  have hWF' := hWF
  unfold s6 at hWF'
  rw [← hWF']
  clear hWF hWF'
  refine bodyPost_ret (by simp [results, Try.results37, go_sem, e0, e1, e2, e3, e4, e5]; rfl) rfl ?_
  exact ⟨rfl, GG⟩
set_option maxHeartbeats 4000000 in
theorem im_ko_nil (v : Vv) (hx : (v.x.size : Int) ≤ 1048576) (ho : vok v) (hk : v.k = 0) (w : World) : Calls Try.prog 37 #[vv v] w fun e w' => e = .returned (va 5 ⟨0, 0, 0, ⟨#[]⟩, 0⟩) ∧ Kq w w' := by
  have HO := fun w => im_ok v hx w
  rw [dc_t ho] at HO
  have HF := fun w => im_fail 5 w
  obtain ⟨k, m, g, x, r⟩ := v
  unfold vv at *
  unfold va at *
  dsimp only at *
  clear hx ho
  subst hk
  have hst : ∀ (a : Addr) (n : Nat) (m : Mode) (w : World), (store a (.float .f64 n) m).run Try.prog w = stored Try.prog w a (.float .f64 n) m := fun a n m w => run_store _ _ _ _ _ rfl
  go_enter Try.func37, Try.ntmps37
  go_wp2_with fail
  refine (HO _).mono ?_
  rintro e w1 ⟨rfl, g1'⟩
  have g1 := Kq.of_grown g1'
  clear g1'
  have G1 : Hid (Kq w w1) := Kq.trans (.of_grown (by go_grown)) g1
  have V1 : Hid (Vc w1 w.heap.size ⟨0, m, g, x, r⟩) := Vc.kq ((Vc.new w 0 m g x r 26).grown (Grown.alloc (Grown.refl _) _ _)) g1
  have R1 : Hid (Rv w1 (w.heap.size + 1)) := by
    have h := Rv.new (w.alloc (.cells #[.int .i64 0, .int .i64 m, .float .f64 g, .string x, .int .i64 r] 26)) 28
    rw [World.size_alloc] at h
    exact h.kq g1
  have Z1 : w.heap.size + 1 < w1.heap.size := by have := g1.size; simp at this; omega
  obtain ⟨c0, c1, c2, c3, c4⟩ := (show Vc w1 w.heap.size ⟨0, m, g, x, r⟩ from V1)
  obtain ⟨r0, r1, r2, r3, r4, r5, rz⟩ := (show Rv w1 (w.heap.size + 1) from R1)
  clear g1
  go_wp2_with fail
  refine (HF _).mono ?_
  rintro e w2 ⟨rfl, g2'⟩
  have g2 := Kq.of_grown g2'
  clear g2'
  have G2 : Hid (Kq w w2) := Kq.trans G1 g2
  have V2 : Hid (Vc w2 w.heap.size ⟨0, m, g, x, r⟩) := Vc.kq V1 g2
  have R2 : Hid (Rv w2 (w.heap.size + 1)) := Rv.kq R1 g2
  have Z2 : w.heap.size + 1 < w2.heap.size := Nat.lt_of_lt_of_le Z1 g2.size
  clear G1 V1 R1 Z1 c0 c1 c2 c3 c4 r0 r1 r2 r3 r4 r5 rz
  obtain ⟨c0, c1, c2, c3, c4⟩ := (show Vc w2 w.heap.size ⟨0, m, g, x, r⟩ from V2)
  obtain ⟨r0, r1, r2, r3, r4, r5, rz⟩ := (show Rv w2 (w.heap.size + 1) from R2)
  clear g2
  go_wp2_with fail
  obtain ⟨e0, e1, e2, e3, e4, e5⟩ := rv_set' (show Rv w2 (w.heap.size + 1) from R2) 5 0 0 0 ⟨#[]⟩ 0
  have GG : Hid (Kq w (s6 w2 (w.heap.size + 1) 5 0 0 0 ⟨#[]⟩ 0)) := s6_kq G2 (by omega) 5 0 0 0 ⟨#[]⟩ 0
  obtain ⟨WF, hWF⟩ : ∃ WF, WF = s6 w2 (w.heap.size + 1) 5 0 0 0 ⟨#[]⟩ 0 := ⟨_, rfl⟩
  rw [← hWF] at e0 e1 e2 e3 e4 e5 GG
  have hWF' := hWF
  unfold s6 at hWF'
  rw [← hWF']
  clear hWF hWF'
  refine bodyPost_ret (by simp [results, Try.results37, go_sem, e0, e1, e2, e3, e4, e5]; rfl) rfl ?_
  exact ⟨rfl, GG⟩
set_option maxHeartbeats 4000000 in
theorem im_ko_oth (v : Vv) (hx : (v.x.size : Int) ≤ 1048576) (ho : vok v) (k0 : ¬ v.k = 0) (k3 : ¬ v.k = 3) (w : World) : Calls Try.prog 37 #[vv v] w fun e w' => e = .returned (va 0 v) ∧ Kq w w' := by
  have HO := fun w => im_ok v hx w
  rw [dc_t ho] at HO
  obtain ⟨k, m, g, x, r⟩ := v
  unfold vv at *
  unfold va at *
  dsimp only at *
  clear hx ho
  have hst : ∀ (a : Addr) (n : Nat) (m : Mode) (w : World), (store a (.float .f64 n) m).run Try.prog w = stored Try.prog w a (.float .f64 n) m := fun a n m w => run_store _ _ _ _ _ rfl
  go_enter Try.func37, Try.ntmps37
  go_wp2_with fail
  refine (HO _).mono ?_
  rintro e w1 ⟨rfl, g1'⟩
  have g1 := Kq.of_grown g1'
  clear g1'
  have G1 : Hid (Kq w w1) := Kq.trans (.of_grown (by go_grown)) g1
  have V1 : Hid (Vc w1 w.heap.size ⟨k, m, g, x, r⟩) := Vc.kq ((Vc.new w k m g x r 26).grown (Grown.alloc (Grown.refl _) _ _)) g1
  have R1 : Hid (Rv w1 (w.heap.size + 1)) := by
    have h := Rv.new (w.alloc (.cells #[.int .i64 k, .int .i64 m, .float .f64 g, .string x, .int .i64 r] 26)) 28
    rw [World.size_alloc] at h
    exact h.kq g1
  have Z1 : w.heap.size + 1 < w1.heap.size := by have := g1.size; simp at this; omega
  obtain ⟨c0, c1, c2, c3, c4⟩ := (show Vc w1 w.heap.size ⟨k, m, g, x, r⟩ from V1)
  obtain ⟨r0, r1, r2, r3, r4, r5, rz⟩ := (show Rv w1 (w.heap.size + 1) from R1)
  clear g1
  go_wp2_with fail
  obtain ⟨e0, e1, e2, e3, e4, e5⟩ := rv_set' (show Rv w1 (w.heap.size + 1) from R1) 0 k m g x r
  have GG : Hid (Kq w (s6 w1 (w.heap.size + 1) 0 k m g x r)) := s6_kq G1 (by omega) 0 k m g x r
  obtain ⟨WF, hWF⟩ : ∃ WF, WF = s6 w1 (w.heap.size + 1) 0 k m g x r := ⟨_, rfl⟩
  rw [← hWF] at e0 e1 e2 e3 e4 e5 GG
  have hWF' := hWF
  unfold s6 at hWF'
  rw [← hWF']
  clear hWF hWF'
  refine bodyPost_ret (by simp [results, Try.results37, go_sem, e0, e1, e2, e3, e4, e5]; rfl) rfl ?_
  exact ⟨rfl, GG⟩
set_option maxHeartbeats 4000000 in
theorem im_ko_f (v : Vv) (hx : (v.x.size : Int) ≤ 1048576) (ho : vok v) (hk : v.k = 3) (c uk um : Int) (ug : Nat) (ux : ByteArray) (ur : Int) (HK : ∀ w, Calls Try.prog 60 #[vv v] w fun e w' => e = .returned (va c ⟨uk, um, ug, ux, ur⟩) ∧ Kq w w') (w : World) : Calls Try.prog 37 #[vv v] w fun e w' => e = .returned (va c ⟨uk, um, ug, ux, ur⟩) ∧ Kq w w' := by
  have HO := fun w => im_ok v hx w
  rw [dc_t ho] at HO
  obtain ⟨k, m, g, x, r⟩ := v
  unfold vv at *
  unfold va at *
  dsimp only at *
  clear hx ho
  subst hk
  have hst : ∀ (a : Addr) (n : Nat) (m : Mode) (w : World), (store a (.float .f64 n) m).run Try.prog w = stored Try.prog w a (.float .f64 n) m := fun a n m w => run_store _ _ _ _ _ rfl
  go_enter Try.func37, Try.ntmps37
  go_wp2_with fail
  refine (HO _).mono ?_
  rintro e w1 ⟨rfl, g1'⟩
  have g1 := Kq.of_grown g1'
  clear g1'
  have G1 : Hid (Kq w w1) := Kq.trans (.of_grown (by go_grown)) g1
  have V1 : Hid (Vc w1 w.heap.size ⟨3, m, g, x, r⟩) := Vc.kq ((Vc.new w 3 m g x r 26).grown (Grown.alloc (Grown.refl _) _ _)) g1
  have R1 : Hid (Rv w1 (w.heap.size + 1)) := by
    have h := Rv.new (w.alloc (.cells #[.int .i64 3, .int .i64 m, .float .f64 g, .string x, .int .i64 r] 26)) 28
    rw [World.size_alloc] at h
    exact h.kq g1
  have Z1 : w.heap.size + 1 < w1.heap.size := by have := g1.size; simp at this; omega
  obtain ⟨c0, c1, c2, c3, c4⟩ := (show Vc w1 w.heap.size ⟨3, m, g, x, r⟩ from V1)
  obtain ⟨r0, r1, r2, r3, r4, r5, rz⟩ := (show Rv w1 (w.heap.size + 1) from R1)
  clear g1
  go_wp2_with fail
  refine (HK _).mono ?_
  rintro e w2 ⟨rfl, g2⟩
  have G2 : Hid (Kq w w2) := Kq.trans G1 g2
  have V2 : Hid (Vc w2 w.heap.size ⟨3, m, g, x, r⟩) := Vc.kq V1 g2
  have R2 : Hid (Rv w2 (w.heap.size + 1)) := Rv.kq R1 g2
  have Z2 : w.heap.size + 1 < w2.heap.size := Nat.lt_of_lt_of_le Z1 g2.size
  clear G1 V1 R1 Z1 c0 c1 c2 c3 c4 r0 r1 r2 r3 r4 r5 rz
  obtain ⟨c0, c1, c2, c3, c4⟩ := (show Vc w2 w.heap.size ⟨3, m, g, x, r⟩ from V2)
  obtain ⟨r0, r1, r2, r3, r4, r5, rz⟩ := (show Rv w2 (w.heap.size + 1) from R2)
  clear g2
  go_wp2_with fail
  obtain ⟨e0, e1, e2, e3, e4, e5⟩ := rv_set' (show Rv w2 (w.heap.size + 1) from R2) c uk um ug ux ur
  have GG : Hid (Kq w (s6 w2 (w.heap.size + 1) c uk um ug ux ur)) := s6_kq G2 (by omega) c uk um ug ux ur
  obtain ⟨WF, hWF⟩ : ∃ WF, WF = s6 w2 (w.heap.size + 1) c uk um ug ux ur := ⟨_, rfl⟩
  rw [← hWF] at e0 e1 e2 e3 e4 e5 GG
  have hWF' := hWF
  unfold s6 at hWF'
  rw [← hWF']
  clear hWF hWF'
  refine bodyPost_ret (by simp [results, Try.results37, go_sem, e0, e1, e2, e3, e4, e5]; rfl) rfl ?_
  exact ⟨rfl, GG⟩

set_option maxHeartbeats 4000000 in
theorem im_key_of (v : Vv) (c uk um : Int) (ug : Nat) (ux : ByteArray) (ur : Int) (hx : (ux.size : Int) ≤ 1048576) (HK : ∀ w, Calls Try.prog 37 #[vv v] w fun e w' => e = .returned (va c ⟨uk, um, ug, ux, ur⟩) ∧ Kq w w') (w : World) : Calls Try.prog 12 #[vv v] w fun e w' => e = .returned (va c ⟨uk, um, ug, ux, ur⟩) ∧ Kq w w' := by
  have HC := fun w => im_cloned ⟨uk, um, ug, ux, ur⟩ hx w
  obtain ⟨k, m, g, x, r⟩ := v
  unfold vv at *
  unfold va at *
  dsimp only at *
  clear hx
  have hst : ∀ (a : Addr) (n : Nat) (m : Mode) (w : World), (store a (.float .f64 n) m).run Try.prog w = stored Try.prog w a (.float .f64 n) m := fun a n m w => run_store _ _ _ _ _ rfl
  go_enter Try.func12, Try.ntmps12
  go_wp2_with fail
  refine (HK _).mono ?_
  rintro e w1 ⟨rfl, g1⟩
  have G1 : Hid (Kq w w1) := Kq.trans (.of_grown (by go_grown)) g1
  have R1 : Hid (Rv w1 (w.heap.size + 1)) := by
    have h := Rv.new (w.alloc (.cells #[.int .i64 k, .int .i64 m, .float .f64 g, .string x, .int .i64 r] 26)) 28
    rw [World.size_alloc] at h
    exact h.kq g1
  have Z1 : w.heap.size + 1 < w1.heap.size := by have := g1.size; simp at this; omega
  clear g1
  go_wp2_with fail
  refine (HC _).mono ?_
  rintro e w2 ⟨rfl, g2⟩
  have ga : Kq w1 w2 := Kq.trans (.of_grown (Grown.alloc (Grown.refl _) _ _)) g2
  have G2 : Hid (Kq w w2) := Kq.trans G1 ga
  have R2 : Hid (Rv w2 (w.heap.size + 1)) := Rv.kq R1 ga
  have hl : w1.heap.size < (w1.alloc (.cells #[.int .i64 c, .int .i64 uk, .int .i64 um, .float .f64 ug, .string ux, .int .i64 ur] 28)).heap.size := by simp
  have d0 : w2.cell? ⟨w1.heap.size, 0, none⟩ = some (.int .i64 c) := g2.cell (by rw [World.cell?_alloc_at _ _ _ _ rfl]; rfl)
  have d1 : w2.cell? ⟨w1.heap.size, 1, none⟩ = some (.int .i64 uk) := g2.cell (by rw [World.cell?_alloc_at _ _ _ _ rfl]; rfl)
  have d2 : w2.cell? ⟨w1.heap.size, 2, none⟩ = some (.int .i64 um) := g2.cell (by rw [World.cell?_alloc_at _ _ _ _ rfl]; rfl)
  have d3 : w2.cell? ⟨w1.heap.size, 3, none⟩ = some (.float .f64 ug) := g2.cell (by rw [World.cell?_alloc_at _ _ _ _ rfl]; rfl)
  have d4 : w2.cell? ⟨w1.heap.size, 4, none⟩ = some (.string ux) := g2.cell (by rw [World.cell?_alloc_at _ _ _ _ rfl]; rfl)
  have d5 : w2.cell? ⟨w1.heap.size, 5, none⟩ = some (.int .i64 ur) := g2.cell (by rw [World.cell?_alloc_at _ _ _ _ rfl]; rfl)
  have dz : ∀ j, w2.frozen? ⟨w1.heap.size, j, none⟩ = false := fun j => (g2.frozen hl).trans (World.frozen?_alloc_at _ _ _ _ rfl)
  have Z2 : w1.heap.size < w2.heap.size := Nat.lt_of_lt_of_le hl g2.size
  clear ga g2 hl
  obtain ⟨r0, r1, r2, r3, r4, r5, rz⟩ := (show Rv w2 (w.heap.size + 1) from R2)
  have hne : w.heap.size + 1 ≠ w1.heap.size := by omega
  have hne' : w.heap.size ≤ w1.heap.size := by omega
  have HZ : Hid (w.heap.size + 1 ≠ w1.heap.size ∧ w.heap.size ≤ w1.heap.size ∧ (w.heap.size : Nat) = w.heap.size) := (⟨hne, hne', rfl⟩ : _ ∧ _ ∧ _)
  have HR : Hid (∀ j, w2.frozen? ⟨w.heap.size + 1, j, none⟩ = false) := rz
  clear hne hne' Z1 Z2 r0 r1 r2 r3 r4 r5 rz R1 G1
  go_upto_region 3 with fail
  obtain ⟨W2, hW2⟩ : ∃ W2, W2 = ((((w2.setCell ⟨w1.heap.size, 1, none⟩ (.int .i64 uk)).setCell ⟨w1.heap.size, 2, none⟩ (.int .i64 um)).setCell ⟨w1.heap.size, 3, none⟩ (.float .f64 ug)).setCell ⟨w1.heap.size, 4, none⟩ (.string ux)).setCell ⟨w1.heap.size, 5, none⟩ (.int .i64 ur) := ⟨_, rfl⟩
  have G3 : Hid (Kq w W2) := by rw [hW2]; exact kq_set (kq_set (kq_set (kq_set (kq_set G2 HZ.2.1) HZ.2.1) HZ.2.1) HZ.2.1) HZ.2.1
  have hbl : W2.heap[w.heap.size + 1]? = w2.heap[w.heap.size + 1]? := by
    rw [hW2]
    rw [Below.heap_setCell _ _ _ _ HZ.1, Below.heap_setCell _ _ _ _ HZ.1, Below.heap_setCell _ _ _ _ HZ.1, Below.heap_setCell _ _ _ _ HZ.1, Below.heap_setCell _ _ _ _ HZ.1]
  have R3 : Rv W2 (w.heap.size + 1) := by
    have e : ∀ j, W2.cell? ⟨w.heap.size + 1, j, none⟩ = w2.cell? ⟨w.heap.size + 1, j, none⟩ := fun j => World.cell?_of_block hbl
    have f : ∀ j, W2.frozen? ⟨w.heap.size + 1, j, none⟩ = false := fun j => by
      have := (show ∀ j, w2.frozen? ⟨w.heap.size + 1, j, none⟩ = false from HR) j
      unfold World.frozen? at this ⊢
      rw [hbl]
      exact this
    obtain ⟨r0, r1, r2, r3, r4, r5, rz⟩ := (show Rv w2 (w.heap.size + 1) from R2)
    exact ⟨(e _).trans r0, (e _).trans r1, (e _).trans r2, (e _).trans r3, (e _).trans r4, (e _).trans r5, f⟩
  have x0 : W2.cell? ⟨w1.heap.size, 0, none⟩ = some (.int .i64 c) := by rw [hW2, set_ne _ _ _ _ _ (by decide), set_ne _ _ _ _ _ (by decide), set_ne _ _ _ _ _ (by decide), set_ne _ _ _ _ _ (by decide), set_ne _ _ _ _ _ (by decide)]; exact d0
  have x1 : W2.cell? ⟨w1.heap.size, 1, none⟩ = some (.int .i64 uk) := by rw [hW2, set_ne _ _ _ _ _ (by decide), set_ne _ _ _ _ _ (by decide), set_ne _ _ _ _ _ (by decide), set_ne _ _ _ _ _ (by decide)]; exact set_eq _ _ _ _ _ d1
  have x2 : W2.cell? ⟨w1.heap.size, 2, none⟩ = some (.int .i64 um) := by rw [hW2, set_ne _ _ _ _ _ (by decide), set_ne _ _ _ _ _ (by decide), set_ne _ _ _ _ _ (by decide)]; exact set_eq _ _ _ _ _ ((set_ne _ _ _ _ _ (by decide)).trans d2)
  have x3 : W2.cell? ⟨w1.heap.size, 3, none⟩ = some (.float .f64 ug) := by rw [hW2, set_ne _ _ _ _ _ (by decide), set_ne _ _ _ _ _ (by decide)]; exact set_eq _ _ _ _ _ ((set_ne _ _ _ _ _ (by decide)).trans ((set_ne _ _ _ _ _ (by decide)).trans d3))
  have x4 : W2.cell? ⟨w1.heap.size, 4, none⟩ = some (.string ux) := by rw [hW2, set_ne _ _ _ _ _ (by decide)]; exact set_eq _ _ _ _ _ ((set_ne _ _ _ _ _ (by decide)).trans ((set_ne _ _ _ _ _ (by decide)).trans ((set_ne _ _ _ _ _ (by decide)).trans d4)))
  have x5 : W2.cell? ⟨w1.heap.size, 5, none⟩ = some (.int .i64 ur) := by rw [hW2]; exact set_eq _ _ _ _ _ ((set_ne _ _ _ _ _ (by decide)).trans ((set_ne _ _ _ _ _ (by decide)).trans ((set_ne _ _ _ _ _ (by decide)).trans ((set_ne _ _ _ _ _ (by decide)).trans d5))))
  rw [← hW2]
  clear hW2 d0 d1 d2 d3 d4 d5 dz hbl R2 G2 HR HZ
  have HR3 : Hid (Rv W2 (w.heap.size + 1)) := R3
  obtain ⟨r0, r1, r2, r3, r4, r5, rz⟩ := R3
  go_wp2_with fail
  have R3 := (show Rv W2 (w.heap.size + 1) from HR3)
  obtain ⟨e0, e1, e2, e3, e4, e5⟩ := rv_set' R3 c uk um ug ux ur
  have GG : Hid (Kq w (s6 W2 (w.heap.size + 1) c uk um ug ux ur)) := s6_kq G3 (Nat.le_succ _) c uk um ug ux ur
  obtain ⟨WF, hWF⟩ : ∃ WF, WF = s6 W2 (w.heap.size + 1) c uk um ug ux ur := ⟨_, rfl⟩
  rw [← hWF] at e0 e1 e2 e3 e4 e5 GG
  have hWF' := hWF
  unfold s6 at hWF'
  rw [← hWF']
  clear hWF hWF'
  refine bodyPost_ret (by simp [results, Try.results12, go_sem, e0, e1, e2, e3, e4, e5]; rfl) rfl ?_
  exact ⟨rfl, GG⟩

/-- what a value is as a key: a code and a value -/
inductive Ky : Vv → Int → Vv → Prop
  | bad (v : Vv) : ¬ vok v → Ky v 1 ⟨0, 0, 0, ⟨#[]⟩, 0⟩
  | nil (v : Vv) : vok v → v.k = 0 → Ky v 5 ⟨0, 0, 0, ⟨#[]⟩, 0⟩
  | nan (v : Vv) : vok v → v.k = 3 → FloatKind.f64.format.order v.g v.g = none → Ky v 5 ⟨0, 0, 0, ⟨#[]⟩, 0⟩
  | whole (v : Vv) (z : Int) : vok v → v.k = 3 → wh v.g z → Ky v 0 ⟨2, z, 0, ⟨#[]⟩, 0⟩
  | flt (v : Vv) : vok v → v.k = 3 → FloatKind.f64.format.order v.g v.g = some .eq → (∀ z, ¬ wh v.g z) → Ky v 0 v
  | oth (v : Vv) : vok v → ¬ v.k = 0 → ¬ v.k = 3 → Ky v 0 v
theorem ky_ex (v : Vv) : ∃ c u, Ky v c u := by
  by_cases ho : vok v
  case neg => exact ⟨_, _, .bad v ho⟩
  by_cases k0 : v.k = 0
  · exact ⟨_, _, .nil v ho k0⟩
  by_cases k3 : v.k = 3
  · rcases fl_self v.g with hn | hn
    · exact ⟨_, _, .nan v ho k3 hn⟩
    by_cases hw : ∃ z, wh v.g z
    · obtain ⟨z, hz⟩ := hw
      exact ⟨_, _, .whole v z ho k3 hz⟩
    · exact ⟨_, _, .flt v ho k3 hn (fun z hz => hw ⟨z, hz⟩)⟩
  · exact ⟨_, _, .oth v ho k0 k3⟩
theorem sp_key {v : Vv} {c : Int} {u : Vv} (h : Ky v c u) (hx : (v.x.size : Int) ≤ 1048576) (hg : v.g < 18446744073709551616) (w : World) : Calls Try.prog 10 #[vv v] w fun e w' => e = .returned (va c u) ∧ Kq w w' := by
  cases h with
  | bad ho => exact sp_key_bad v hx ho w
  | nil ho k0 => exact sp_key_nil v hx ho k0 w
  | nan ho k3 hn => exact sp_key_nan v hx ho k3 hn w
  | whole z ho k3 hw => exact sp_key_whole v hx ho k3 hg z hw w
  | flt ho k3 hn hw => exact sp_key_flt v hx ho k3 hg hn hw w
  | oth ho k0 k3 => exact sp_key_oth v hx ho k0 k3 w
theorem im_key {v : Vv} {c : Int} {u : Vv} (h : Ky v c u) (hx : (v.x.size : Int) ≤ 1048576) (hg : v.g < 18446744073709551616) (w : World) : Calls Try.prog 12 #[vv v] w fun e w' => e = .returned (va c u) ∧ Kq w w' := by
  cases h with
  | bad ho => exact im_key_of v 1 0 0 0 ⟨#[]⟩ 0 (by decide) (fun w => im_ko_bad v hx ho w) w
  | nil ho k0 => exact im_key_of v 5 0 0 0 ⟨#[]⟩ 0 (by decide) (fun w => im_ko_nil v hx ho k0 w) w
  | nan ho k3 hn => exact im_key_of v 5 0 0 0 ⟨#[]⟩ 0 (by decide) (fun w => im_ko_f v hx ho k3 5 0 0 0 ⟨#[]⟩ 0 (fun w => im_fk_nan v hx hn w) w) w
  | whole z ho k3 hw => exact im_key_of v 0 2 z 0 ⟨#[]⟩ 0 (by decide) (fun w => im_ko_f v hx ho k3 0 2 z 0 ⟨#[]⟩ 0 (fun w => im_fk_w v hx z hw w) w) w
  | flt ho k3 hn hw =>
    obtain ⟨c, hc, HT⟩ := im_toint_n v.g hg hn hw
    exact im_key_of v 0 v.k v.m v.g v.x v.r hx (fun w => im_ko_f v hx ho k3 0 v.k v.m v.g v.x v.r (fun w => im_fk_n v hx hn c hc HT w) w) w
  | oth ho k0 k3 => exact im_key_of v 0 v.k v.m v.g v.x v.r hx (fun w => im_ko_oth v hx ho k0 k3 w) w
theorem Ky.glt {v : Vv} {c : Int} {u : Vv} (h : Ky v c u) (hg : v.g < 18446744073709551616) : u.g < 18446744073709551616 := by
  cases h <;> first | exact hg | exact Nat.zero_lt_of_lt hg
end Go.Proofs.Ytfpidccjcemcjaa
