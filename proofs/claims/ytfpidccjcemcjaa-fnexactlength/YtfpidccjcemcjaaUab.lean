import Derived.Test.YtfpidccjcemcjaaUaa
import Derived.Test.YtfpidccjcemcjaaVau
import Derived.Deep.QuietTactic
import Derived.BigQuiet
import Derived.Deep.Cut
namespace Go.Proofs.Ytfpidccjcemcjaa
open Go.ChangeShapes Go.WideShapes Go.ChangeAt Go.RowKit
set_option linter.unusedVariables false
set_option maxRecDepth 100000
theorem Kq.drewN {a w : World} (h : Kq a w) (n : Nat) : Kq a (w.drewN n) := ⟨h.os, h.output, h.size, h.block⟩
theorem Rv.kq {a w : World} {B : Nat} (h : Rv a B) (g : Kq a w) : Rv w B :=
  ⟨g.cell h.c0, g.cell h.c1, g.cell h.c2, g.cell h.c3, g.cell h.c4, g.cell h.c5, fun j => (g.frozen (lt_of_cell h.c0)).trans (h.fz j)⟩
theorem kq_set {w W : World} {B j : Nat} {v : Value} (h : Kq w W) (hB : w.heap.size ≤ B) : Kq w (W.setCell ⟨B, j, none⟩ v) :=
  ⟨h.os, h.output, Nat.le_trans h.size (Nat.le_of_eq (World.size_setCell _ _ _).symm), fun i hi => (Below.heap_setCell W ⟨B, j, none⟩ v i (Nat.ne_of_lt (Nat.lt_of_lt_of_le hi hB))).trans (h.block i hi)⟩
theorem s6_kq {w W : World} {B : Nat} (h : Kq w W) (hB : w.heap.size ≤ B) (a0 a1 a2 : Int) (a3 : Nat) (a4 : ByteArray) (a5 : Int) : Kq w (s6 W B a0 a1 a2 a3 a4 a5) :=
  kq_set (kq_set (kq_set (kq_set (kq_set (kq_set h hB) hB) hB) hB) hB) hB
set_option maxHeartbeats 4000000 in
theorem sp_key_bad (v : Vv) (hx : (v.x.size : Int) ≤ 1048576) (ho : ¬ vok v) (w : World) : Calls Try.prog 10 #[vv v] w fun e w' => e = .returned (va 1 ⟨0, 0, 0, ⟨#[]⟩, 0⟩) ∧ Kq w w' := by
  have HO := fun w => sp_ok v hx w
  rw [dc_f ho] at HO
  have HF := fun w => sp_fail 1 w
  obtain ⟨k, m, g, x, r⟩ := v
  unfold vv at *
  unfold va at *
  dsimp only at *
  clear hx ho
  have hst : ∀ (a : Addr) (n : Nat) (m : Mode) (w : World), (store a (.float .f64 n) m).run Try.prog w = stored Try.prog w a (.float .f64 n) m := fun a n m w => run_store _ _ _ _ _ rfl
  go_enter Try.func10, Try.ntmps10
  go_wp2_with fail
  refine (HO _).mono ?_
  rintro e w1 ⟨rfl, g1'⟩
  have g1 := Kq.of_grown g1'
  clear g1'
  have G1 : Hid (Kq w w1) := Kq.trans (.of_grown (by go_grown)) g1
  have V1 : Hid (Vc w1 w.heap.size ⟨k, m, g, x, r⟩) := Vc.kq ((Vc.new w k m g x r 26).grown (Grown.alloc (Grown.refl _) _ _)) g1
  have R1 : Hid (Rv w1 (w.heap.size + 1)) := by
    have h := Rv.new (w.alloc (.cells #[.int .i64 k, .int .i64 m, .float .f64 g, .string x, .int .i64 r] 26)) 28
    rw [World.size_alloc] at h
    exact h.kq g1
  have Z1 : w.heap.size + 1 < w1.heap.size := by have := g1.size; simp at this; omega
  obtain ⟨c0, c1, c2, c3, c4⟩ := (show Vc w1 w.heap.size ⟨k, m, g, x, r⟩ from V1)
  obtain ⟨r0, r1, r2, r3, r4, r5, rz⟩ := (show Rv w1 (w.heap.size + 1) from R1)
  clear g1
  go_wp2_with fail
  refine (HF _).mono ?_
  rintro e w2 ⟨rfl, g2'⟩
  have g2 := Kq.of_grown g2'
  clear g2'
  have G2 : Hid (Kq w w2) := Kq.trans G1 g2
  have V2 : Hid (Vc w2 w.heap.size ⟨k, m, g, x, r⟩) := Vc.kq V1 g2
  have R2 : Hid (Rv w2 (w.heap.size + 1)) := Rv.kq R1 g2
  have Z2 : w.heap.size + 1 < w2.heap.size := Nat.lt_of_lt_of_le Z1 g2.size
  clear G1 V1 R1 Z1 c0 c1 c2 c3 c4 r0 r1 r2 r3 r4 r5 rz
  obtain ⟨c0, c1, c2, c3, c4⟩ := (show Vc w2 w.heap.size ⟨k, m, g, x, r⟩ from V2)
  obtain ⟨r0, r1, r2, r3, r4, r5, rz⟩ := (show Rv w2 (w.heap.size + 1) from R2)
  clear g2
  go_wp2_with fail
  obtain ⟨e0, e1, e2, e3, e4, e5⟩ := rv_set' (show Rv w2 (w.heap.size + 1) from R2) 1 0 0 0 ⟨#[]⟩ 0
  have GG : Hid (Kq w (s6 w2 (w.heap.size + 1) 1 0 0 0 ⟨#[]⟩ 0)) := s6_kq G2 (by omega) 1 0 0 0 ⟨#[]⟩ 0
  obtain ⟨WF, hWF⟩ : ∃ WF, WF = s6 w2 (w.heap.size + 1) 1 0 0 0 ⟨#[]⟩ 0 := ⟨_, rfl⟩
  rw [← hWF] at e0 e1 e2 e3 e4 e5 GG
  have hWF' := hWF
  unfold s6 at hWF'
  rw [← hWF']
  clear hWF hWF'
  refine bodyPost_ret (by simp [results, Try.results10, go_sem, e0, e1, e2, e3, e4, e5]; rfl) rfl ?_
  exact ⟨rfl, GG⟩
set_option maxHeartbeats 4000000 in
theorem sp_key_nil (v : Vv) (hx : (v.x.size : Int) ≤ 1048576) (ho : vok v) (hk : v.k = 0) (w : World) : Calls Try.prog 10 #[vv v] w fun e w' => e = .returned (va 5 ⟨0, 0, 0, ⟨#[]⟩, 0⟩) ∧ Kq w w' := by
  have HO := fun w => sp_ok v hx w
  rw [dc_t ho] at HO
  have HF := fun w => sp_fail 5 w
  obtain ⟨k, m, g, x, r⟩ := v
  unfold vv at *
  unfold va at *
  dsimp only at *
  clear hx ho
  subst hk
  have hst : ∀ (a : Addr) (n : Nat) (m : Mode) (w : World), (store a (.float .f64 n) m).run Try.prog w = stored Try.prog w a (.float .f64 n) m := fun a n m w => run_store _ _ _ _ _ rfl
  go_enter Try.func10, Try.ntmps10
  go_wp2_with fail
  refine (HO _).mono ?_
  rintro e w1 ⟨rfl, g1'⟩
  have g1 := Kq.of_grown g1'
  clear g1'
  have G1 : Hid (Kq w w1) := Kq.trans (.of_grown (by go_grown)) g1
  have V1 : Hid (Vc w1 w.heap.size ⟨0, m, g, x, r⟩) := Vc.kq ((Vc.new w 0 m g x r 26).grown (Grown.alloc (Grown.refl _) _ _)) g1
  have R1 : Hid (Rv w1 (w.heap.size + 1)) := by
    have h := Rv.new (w.alloc (.cells #[.int .i64 0, .int .i64 m, .float .f64 g, .string x, .int .i64 r] 26)) 28
    rw [World.size_alloc] at h
    exact h.kq g1
  have Z1 : w.heap.size + 1 < w1.heap.size := by have := g1.size; simp at this; omega
  obtain ⟨c0, c1, c2, c3, c4⟩ := (show Vc w1 w.heap.size ⟨0, m, g, x, r⟩ from V1)
  obtain ⟨r0, r1, r2, r3, r4, r5, rz⟩ := (show Rv w1 (w.heap.size + 1) from R1)
  clear g1
  go_wp2_with fail
  refine (HF _).mono ?_
  rintro e w2 ⟨rfl, g2'⟩
  have g2 := Kq.of_grown g2'
  clear g2'
  have G2 : Hid (Kq w w2) := Kq.trans G1 g2
  have V2 : Hid (Vc w2 w.heap.size ⟨0, m, g, x, r⟩) := Vc.kq V1 g2
  have R2 : Hid (Rv w2 (w.heap.size + 1)) := Rv.kq R1 g2
  have Z2 : w.heap.size + 1 < w2.heap.size := Nat.lt_of_lt_of_le Z1 g2.size
  clear G1 V1 R1 Z1 c0 c1 c2 c3 c4 r0 r1 r2 r3 r4 r5 rz
  obtain ⟨c0, c1, c2, c3, c4⟩ := (show Vc w2 w.heap.size ⟨0, m, g, x, r⟩ from V2)
  obtain ⟨r0, r1, r2, r3, r4, r5, rz⟩ := (show Rv w2 (w.heap.size + 1) from R2)
  clear g2
  go_wp2_with fail
  obtain ⟨e0, e1, e2, e3, e4, e5⟩ := rv_set' (show Rv w2 (w.heap.size + 1) from R2) 5 0 0 0 ⟨#[]⟩ 0
  have GG : Hid (Kq w (s6 w2 (w.heap.size + 1) 5 0 0 0 ⟨#[]⟩ 0)) := s6_kq G2 (by omega) 5 0 0 0 ⟨#[]⟩ 0
  obtain ⟨WF, hWF⟩ : ∃ WF, WF = s6 w2 (w.heap.size + 1) 5 0 0 0 ⟨#[]⟩ 0 := ⟨_, rfl⟩
  rw [← hWF] at e0 e1 e2 e3 e4 e5 GG
  have hWF' := hWF
  unfold s6 at hWF'
  rw [← hWF']
  clear hWF hWF'
  refine bodyPost_ret (by simp [results, Try.results10, go_sem, e0, e1, e2, e3, e4, e5]; rfl) rfl ?_
  exact ⟨rfl, GG⟩
set_option maxHeartbeats 4000000 in
theorem sp_key_nan (v : Vv) (hx : (v.x.size : Int) ≤ 1048576) (ho : vok v) (hk : v.k = 3) (hn : FloatKind.f64.format.order v.g v.g = none) (w : World) : Calls Try.prog 10 #[vv v] w fun e w' => e = .returned (va 5 ⟨0, 0, 0, ⟨#[]⟩, 0⟩) ∧ Kq w w' := by
  have HO := fun w => sp_ok v hx w
  rw [dc_t ho] at HO
  have HF := fun w => sp_fail 5 w
  have HN := fun w => sp_nan_t v.g hn w
  obtain ⟨k, m, g, x, r⟩ := v
  unfold vv at *
  unfold va at *
  dsimp only at *
  clear hx ho hn
  subst hk
  have hst : ∀ (a : Addr) (n : Nat) (m : Mode) (w : World), (store a (.float .f64 n) m).run Try.prog w = stored Try.prog w a (.float .f64 n) m := fun a n m w => run_store _ _ _ _ _ rfl
  go_enter Try.func10, Try.ntmps10
  go_wp2_with fail
  refine (HO _).mono ?_
  rintro e w1 ⟨rfl, g1'⟩
  have g1 := Kq.of_grown g1'
  clear g1'
  have G1 : Hid (Kq w w1) := Kq.trans (.of_grown (by go_grown)) g1
  have V1 : Hid (Vc w1 w.heap.size ⟨3, m, g, x, r⟩) := Vc.kq ((Vc.new w 3 m g x r 26).grown (Grown.alloc (Grown.refl _) _ _)) g1
  have R1 : Hid (Rv w1 (w.heap.size + 1)) := by
    have h := Rv.new (w.alloc (.cells #[.int .i64 3, .int .i64 m, .float .f64 g, .string x, .int .i64 r] 26)) 28
    rw [World.size_alloc] at h
    exact h.kq g1
  have Z1 : w.heap.size + 1 < w1.heap.size := by have := g1.size; simp at this; omega
  obtain ⟨c0, c1, c2, c3, c4⟩ := (show Vc w1 w.heap.size ⟨3, m, g, x, r⟩ from V1)
  obtain ⟨r0, r1, r2, r3, r4, r5, rz⟩ := (show Rv w1 (w.heap.size + 1) from R1)
  clear g1
  go_wp2_with fail
  refine (HN _).mono ?_
  rintro e w2 ⟨rfl, hw2⟩
  replace hw2 := hw2.symm
  subst hw2
  go_wp2_with fail
  refine (HF _).mono ?_
  rintro e w3 ⟨rfl, g3'⟩
  have g3 := Kq.of_grown g3'
  clear g3'
  have G3 : Hid (Kq w w3) := Kq.trans G1 g3
  have V3 : Hid (Vc w3 w.heap.size ⟨3, m, g, x, r⟩) := Vc.kq V1 g3
  have R3 : Hid (Rv w3 (w.heap.size + 1)) := Rv.kq R1 g3
  have Z3 : w.heap.size + 1 < w3.heap.size := Nat.lt_of_lt_of_le Z1 g3.size
  clear G1 V1 R1 Z1 c0 c1 c2 c3 c4 r0 r1 r2 r3 r4 r5 rz
  obtain ⟨c0, c1, c2, c3, c4⟩ := (show Vc w3 w.heap.size ⟨3, m, g, x, r⟩ from V3)
  obtain ⟨r0, r1, r2, r3, r4, r5, rz⟩ := (show Rv w3 (w.heap.size + 1) from R3)
  clear g3
  go_wp2_with fail
  obtain ⟨e0, e1, e2, e3, e4, e5⟩ := rv_set' (show Rv w3 (w.heap.size + 1) from R3) 5 0 0 0 ⟨#[]⟩ 0
  have GG : Hid (Kq w (s6 w3 (w.heap.size + 1) 5 0 0 0 ⟨#[]⟩ 0)) := s6_kq G3 (by omega) 5 0 0 0 ⟨#[]⟩ 0
  obtain ⟨WF, hWF⟩ : ∃ WF, WF = s6 w3 (w.heap.size + 1) 5 0 0 0 ⟨#[]⟩ 0 := ⟨_, rfl⟩
  rw [← hWF] at e0 e1 e2 e3 e4 e5 GG
  have hWF' := hWF
  unfold s6 at hWF'
  rw [← hWF']
  clear hWF hWF'
  refine bodyPost_ret (by simp [results, Try.results10, go_sem, e0, e1, e2, e3, e4, e5]; rfl) rfl ?_
  exact ⟨rfl, GG⟩
set_option maxHeartbeats 4000000 in
theorem sp_key_oth (v : Vv) (hx : (v.x.size : Int) ≤ 1048576) (ho : vok v) (k0 : ¬ v.k = 0) (k3 : ¬ v.k = 3) (w : World) : Calls Try.prog 10 #[vv v] w fun e w' => e = .returned (va 0 v) ∧ Kq w w' := by
  have HO := fun w => sp_ok v hx w
  rw [dc_t ho] at HO
  have HG := fun w => sp_got v w
  obtain ⟨k, m, g, x, r⟩ := v
  unfold vv at *
  unfold va at *
  dsimp only at *
  clear hx ho
  have k3 : (k == 3) = false := by simp [k3]
  have hst : ∀ (a : Addr) (n : Nat) (m : Mode) (w : World), (store a (.float .f64 n) m).run Try.prog w = stored Try.prog w a (.float .f64 n) m := fun a n m w => run_store _ _ _ _ _ rfl
  go_enter Try.func10, Try.ntmps10
  go_wp2_with fail
  refine (HO _).mono ?_
  rintro e w1 ⟨rfl, g1'⟩
  have g1 := Kq.of_grown g1'
  clear g1'
  have G1 : Hid (Kq w w1) := Kq.trans (.of_grown (by go_grown)) g1
  have V1 : Hid (Vc w1 w.heap.size ⟨k, m, g, x, r⟩) := Vc.kq ((Vc.new w k m g x r 26).grown (Grown.alloc (Grown.refl _) _ _)) g1
  have R1 : Hid (Rv w1 (w.heap.size + 1)) := by
    have h := Rv.new (w.alloc (.cells #[.int .i64 k, .int .i64 m, .float .f64 g, .string x, .int .i64 r] 26)) 28
    rw [World.size_alloc] at h
    exact h.kq g1
  have Z1 : w.heap.size + 1 < w1.heap.size := by have := g1.size; simp at this; omega
  obtain ⟨c0, c1, c2, c3, c4⟩ := (show Vc w1 w.heap.size ⟨k, m, g, x, r⟩ from V1)
  obtain ⟨r0, r1, r2, r3, r4, r5, rz⟩ := (show Rv w1 (w.heap.size + 1) from R1)
  clear g1
  go_wp2_with fail
  go_quiet (fail)
  have GD : Hid (Kq w (w1.drewN nq)) := Kq.drewN G1 nq
  have VD : Hid (Vc (w1.drewN nq) w.heap.size ⟨k, m, g, x, r⟩) := Vc.kq V1 (Kq.drewN (Kq.refl _) nq)
  have RD : Hid (Rv (w1.drewN nq) (w.heap.size + 1)) := Rv.kq R1 (Kq.drewN (Kq.refl _) nq)
  have ZD : w.heap.size + 1 < (w1.drewN nq).heap.size := Z1
  clear G1 V1 R1 Z1
  go_wp2_with fail
  refine (HG _).mono ?_
  rintro e w2 ⟨rfl, g2'⟩
  have g2 := Kq.of_grown g2'
  clear g2'
  have G2 : Hid (Kq w w2) := Kq.trans GD g2
  have V2 : Hid (Vc w2 w.heap.size ⟨k, m, g, x, r⟩) := Vc.kq VD g2
  have R2 : Hid (Rv w2 (w.heap.size + 1)) := Rv.kq RD g2
  have Z2 : w.heap.size + 1 < w2.heap.size := Nat.lt_of_lt_of_le ZD g2.size
  clear GD VD RD ZD c0 c1 c2 c3 c4 r0 r1 r2 r3 r4 r5 rz
  obtain ⟨c0, c1, c2, c3, c4⟩ := (show Vc w2 w.heap.size ⟨k, m, g, x, r⟩ from V2)
  obtain ⟨r0, r1, r2, r3, r4, r5, rz⟩ := (show Rv w2 (w.heap.size + 1) from R2)
  clear g2
  go_wp2_with fail
  obtain ⟨e0, e1, e2, e3, e4, e5⟩ := rv_set' (show Rv w2 (w.heap.size + 1) from R2) 0 k m g x r
  have GG : Hid (Kq w (s6 w2 (w.heap.size + 1) 0 k m g x r)) := s6_kq G2 (by omega) 0 k m g x r
  obtain ⟨WF, hWF⟩ : ∃ WF, WF = s6 w2 (w.heap.size + 1) 0 k m g x r := ⟨_, rfl⟩
  rw [← hWF] at e0 e1 e2 e3 e4 e5 GG
  have hWF' := hWF
  unfold s6 at hWF'
  rw [← hWF']
  clear hWF hWF'
  refine bodyPost_ret (by simp [results, Try.results10, go_sem, e0, e1, e2, e3, e4, e5]; rfl) rfl ?_
  exact ⟨rfl, GG⟩
end Go.Proofs.Ytfpidccjcemcjaa
