import Derived.Test.YtfpidccjcemcjaaUab
namespace Go.Proofs.Ytfpidccjcemcjaa
open Go.ChangeShapes Go.WideShapes Go.ChangeAt Go.RowKit
set_option linter.unusedVariables false
set_option maxRecDepth 100000

/-- the cells of a value that is not yet written -/
structure Rw (W : World) (B : Nat) : Prop where
  c0 : W.cell? ⟨B, 0, none⟩ = some (.int .i64 0)
  c1 : W.cell? ⟨B, 1, none⟩ = some (.int .i64 0)
  c2 : W.cell? ⟨B, 2, none⟩ = some (.float .f64 0)
  c3 : W.cell? ⟨B, 3, none⟩ = some (.string ⟨#[]⟩)
  c4 : W.cell? ⟨B, 4, none⟩ = some (.int .i64 0)
  fz : ∀ j, W.frozen? ⟨B, j, none⟩ = false
theorem Rw.new (w : World) (t : TypeId) : Rw (w.alloc (.cells #[.int .i64 0, .int .i64 0, .float .f64 0, .string ⟨#[]⟩, .int .i64 0] t)) w.heap.size := by
  refine ⟨?_, ?_, ?_, ?_, ?_, fun j => World.frozen?_alloc_at _ _ _ _ rfl⟩ <;> (rw [World.cell?_alloc_at _ _ _ _ rfl]; rfl)
theorem Rw.kq {a w : World} {B : Nat} (h : Rw a B) (g : Kq a w) : Rw w B :=
  ⟨g.cell h.c0, g.cell h.c1, g.cell h.c2, g.cell h.c3, g.cell h.c4, fun j => (g.frozen (lt_of_cell h.c0)).trans (h.fz j)⟩
def s5 (W : World) (B : Nat) (a1 a2 : Int) (a3 : Nat) (a4 : ByteArray) (a5 : Int) : World := ((((W.setCell ⟨B, 0, none⟩ (.int .i64 a1)).setCell ⟨B, 1, none⟩ (.int .i64 a2)).setCell ⟨B, 2, none⟩ (.float .f64 a3)).setCell ⟨B, 3, none⟩ (.string a4)).setCell ⟨B, 4, none⟩ (.int .i64 a5)
theorem rw_set {W : World} {B : Nat} (h : Rw W B) (a1 a2 : Int) (a3 : Nat) (a4 : ByteArray) (a5 : Int) : Vc (s5 W B a1 a2 a3 a4 a5) B ⟨a1, a2, a3, a4, a5⟩ := by
  unfold s5
  constructor
  · rw [set_ne _ _ _ _ _ (by decide), set_ne _ _ _ _ _ (by decide), set_ne _ _ _ _ _ (by decide), set_ne _ _ _ _ _ (by decide)]
    exact set_eq _ _ _ _ _ h.c0
  · rw [set_ne _ _ _ _ _ (by decide), set_ne _ _ _ _ _ (by decide), set_ne _ _ _ _ _ (by decide)]
    exact set_eq _ _ _ _ _ ((set_ne _ _ _ _ _ (by decide)).trans h.c1)
  · rw [set_ne _ _ _ _ _ (by decide), set_ne _ _ _ _ _ (by decide)]
    exact set_eq _ _ _ _ _ ((set_ne _ _ _ _ _ (by decide)).trans ((set_ne _ _ _ _ _ (by decide)).trans h.c2))
  · rw [set_ne _ _ _ _ _ (by decide)]
    exact set_eq _ _ _ _ _ ((set_ne _ _ _ _ _ (by decide)).trans ((set_ne _ _ _ _ _ (by decide)).trans ((set_ne _ _ _ _ _ (by decide)).trans h.c3)))
  · exact set_eq _ _ _ _ _ ((set_ne _ _ _ _ _ (by decide)).trans ((set_ne _ _ _ _ _ (by decide)).trans ((set_ne _ _ _ _ _ (by decide)).trans ((set_ne _ _ _ _ _ (by decide)).trans h.c4))))
theorem s5_kq {w W : World} {B : Nat} (h : Kq w W) (hB : w.heap.size ≤ B) (a1 a2 : Int) (a3 : Nat) (a4 : ByteArray) (a5 : Int) : Kq w (s5 W B a1 a2 a3 a4 a5) :=
  kq_set (kq_set (kq_set (kq_set (kq_set h hB) hB) hB) hB) hB
set_option maxHeartbeats 4000000 in
theorem im_cloned (v : Vv) (hx : (v.x.size : Int) ≤ 1048576) (w : World) : Calls Try.prog 38 #[vv v] w fun e w' => e = .returned (vv v) ∧ Kq w w' := by
  have HC := fun w => im_clone v.x (by omega) w
  obtain ⟨k, m, g, x, r⟩ := v
  unfold vv at *
  dsimp only at *
  clear hx
  have hst : ∀ (a : Addr) (n : Nat) (m : Mode) (w : World), (store a (.float .f64 n) m).run Try.prog w = stored Try.prog w a (.float .f64 n) m := fun a n m w => run_store _ _ _ _ _ rfl
  go_enter Try.func38, Try.ntmps38
  go_wp2_with fail
  refine (HC _).mono ?_
  rintro e w1 ⟨rfl, g1'⟩
  have g1 := Kq.of_below g1'
  clear g1'
  have G1 : Hid (Kq w w1) := Kq.trans (.of_grown (by go_grown)) g1
  have V1 : Hid (Vc w1 w.heap.size ⟨k, m, g, x, r⟩) := Vc.kq ((Vc.new w k m g x r 26).grown (Grown.alloc (Grown.refl _) _ _)) g1
  have R1 : Hid (Rw w1 (w.heap.size + 1)) := by
    have h := Rw.new (w.alloc (.cells #[.int .i64 k, .int .i64 m, .float .f64 g, .string x, .int .i64 r] 26)) 26
    rw [World.size_alloc] at h
    exact h.kq g1
  have fz1 : ∀ j, w1.frozen? ⟨w.heap.size, j, none⟩ = false := fun j => (g1.frozen (by simp; omega)).trans (((Kq.of_grown (Grown.alloc (Grown.refl _) _ _)).frozen (by simp)).trans (World.frozen?_alloc_at _ _ _ _ rfl))
  have Z1 : w.heap.size + 1 < w1.heap.size := by have := g1.size; simp at this; omega
  clear g1 HC
  obtain ⟨c0, c1, c2, c3, c4⟩ := (show Vc w1 w.heap.size ⟨k, m, g, x, r⟩ from V1)
  obtain ⟨r0, r1, r2, r3, r4, rz⟩ := (show Rw w1 (w.heap.size + 1) from R1)
  go_wp2_with fail
  obtain ⟨W2, hW2⟩ : ∃ W2, W2 = w1.setCell ⟨w.heap.size, 3, none⟩ (.string x) := ⟨_, rfl⟩
  have G2 : Hid (Kq w W2) := by rw [hW2]; exact kq_set G1 (Nat.le_refl _)
  have R2 : Rw W2 (w.heap.size + 1) := by
    have e : ∀ j, W2.cell? ⟨w.heap.size + 1, j, none⟩ = w1.cell? ⟨w.heap.size + 1, j, none⟩ := fun j => World.cell?_of_block (by rw [hW2]; exact Below.heap_setCell _ _ _ _ (by simp))
    have f : ∀ j, W2.frozen? ⟨w.heap.size + 1, j, none⟩ = false := fun j => by
      have := rz j
      unfold World.frozen? at this ⊢
      rw [hW2, Below.heap_setCell _ _ _ _ (by simp)]
      exact this
    exact ⟨(e _).trans r0, (e _).trans r1, (e _).trans r2, (e _).trans r3, (e _).trans r4, f⟩
  rw [← hW2]
  clear hW2 c0 c1 c2 c3 c4 r0 r1 r2 r3 r4 rz fz1 G1 V1 R1
  obtain ⟨e0, e1, e2, e3, e4⟩ := rw_set R2 k m g x r
  have GG : Hid (Kq w (s5 W2 (w.heap.size + 1) k m g x r)) := s5_kq G2 (by omega) k m g x r
  obtain ⟨WF, hWF⟩ : ∃ WF, WF = s5 W2 (w.heap.size + 1) k m g x r := ⟨_, rfl⟩
  rw [← hWF] at e0 e1 e2 e3 e4 GG
  have hWF' := hWF
  unfold s5 at hWF'
  rw [← hWF']
  clear hWF hWF'
  dsimp only at e0 e1 e2 e3 e4
  refine bodyPost_ret (by simp [results, Try.results38, go_sem, e0, e1, e2, e3, e4]; rfl) rfl ?_
  exact ⟨rfl, GG⟩
set_option maxHeartbeats 4000000 in
theorem im_fk_nan (v : Vv) (hx : (v.x.size : Int) ≤ 1048576) (hn : FloatKind.f64.format.order v.g v.g = none) (w : World) : Calls Try.prog 60 #[vv v] w fun e w' => e = .returned (va 5 ⟨0, 0, 0, ⟨#[]⟩, 0⟩) ∧ Kq w w' := by
  have HF := fun w => im_fail 5 w
  have HN : ∀ w, Calls Try.prog 76 #[.float .f64 v.g] w fun e w' => e = .returned (.bool true) ∧ Kq w w' := fun w => (im_nan_t v.g hn w).mono (fun _ _ h => ⟨h.1, by rw [h.2]; exact Kq.refl _⟩)
  obtain ⟨k, m, g, x, r⟩ := v
  unfold vv at *
  unfold va at *
  dsimp only at *
  clear hx hn
  have hst : ∀ (a : Addr) (n : Nat) (m : Mode) (w : World), (store a (.float .f64 n) m).run Try.prog w = stored Try.prog w a (.float .f64 n) m := fun a n m w => run_store _ _ _ _ _ rfl
  go_enter Try.func60, Try.ntmps60
  go_wp2_with fail
  refine (HN _).mono ?_
  rintro e w1 ⟨rfl, g1⟩
  have G1 : Hid (Kq w w1) := Kq.trans (.of_grown (by go_grown)) g1
  have V1 : Hid (Vc w1 w.heap.size ⟨k, m, g, x, r⟩) := Vc.kq ((Vc.new w k m g x r 26).grown (Grown.alloc (Grown.refl _) _ _)) g1
  have R1 : Hid (Rv w1 (w.heap.size + 1)) := by
    have h := Rv.new (w.alloc (.cells #[.int .i64 k, .int .i64 m, .float .f64 g, .string x, .int .i64 r] 26)) 28
    rw [World.size_alloc] at h
    exact h.kq g1
  have Z1 : w.heap.size + 1 < w1.heap.size := by have := g1.size; simp at this; omega
  obtain ⟨c0, c1, c2, c3, c4⟩ := (show Vc w1 w.heap.size ⟨k, m, g, x, r⟩ from V1)
  obtain ⟨r0, r1, r2, r3, r4, r5, rz⟩ := (show Rv w1 (w.heap.size + 1) from R1)
  clear g1
  go_wp2_with fail
  refine (HF _).mono ?_
  rintro e w2 ⟨rfl, g2'⟩
  have g2 := Kq.of_grown g2'
  clear g2'
  have G2 : Hid (Kq w w2) := Kq.trans G1 g2
  have V2 : Hid (Vc w2 w.heap.size ⟨k, m, g, x, r⟩) := Vc.kq V1 g2
  have R2 : Hid (Rv w2 (w.heap.size + 1)) := Rv.kq R1 g2
  have Z2 : w.heap.size + 1 < w2.heap.size := Nat.lt_of_lt_of_le Z1 g2.size
  clear G1 V1 R1 Z1 c0 c1 c2 c3 c4 r0 r1 r2 r3 r4 r5 rz
  obtain ⟨c0, c1, c2, c3, c4⟩ := (show Vc w2 w.heap.size ⟨k, m, g, x, r⟩ from V2)
  obtain ⟨r0, r1, r2, r3, r4, r5, rz⟩ := (show Rv w2 (w.heap.size + 1) from R2)
  clear g2
  go_wp2_with fail
  obtain ⟨e0, e1, e2, e3, e4, e5⟩ := rv_set' (show Rv w2 (w.heap.size + 1) from R2) 5 0 0 0 ⟨#[]⟩ 0
  have GG : Hid (Kq w (s6 w2 (w.heap.size + 1) 5 0 0 0 ⟨#[]⟩ 0)) := s6_kq G2 (by omega) 5 0 0 0 ⟨#[]⟩ 0
  obtain ⟨WF, hWF⟩ : ∃ WF, WF = s6 w2 (w.heap.size + 1) 5 0 0 0 ⟨#[]⟩ 0 := ⟨_, rfl⟩
  rw [← hWF] at e0 e1 e2 e3 e4 e5 GG
  have hWF' := hWF
  unfold s6 at hWF'
  rw [← hWF']
  clear hWF hWF'
  refine bodyPost_ret (by simp [results, Try.results60, go_sem, e0, e1, e2, e3, e4, e5]; rfl) rfl ?_
  exact ⟨rfl, GG⟩
set_option maxHeartbeats 4000000 in
theorem im_fk_w (v : Vv) (hx : (v.x.size : Int) ≤ 1048576) (z : Int) (hw : wh v.g z) (w : World) : Calls Try.prog 60 #[vv v] w fun e w' => e = .returned (va 0 ⟨2, z, 0, ⟨#[]⟩, 0⟩) ∧ Kq w w' := by
  have HI := fun w => im_int z w
  have HN : ∀ w, Calls Try.prog 76 #[.float .f64 v.g] w fun e w' => e = .returned (.bool false) ∧ Kq w w' := fun w => (im_nan_f v.g hw.1 w).mono (fun _ _ h => ⟨h.1, by rw [h.2]; exact Kq.refl _⟩)
  have HT := fun w => im_toint_w v.g z hw w
  obtain ⟨k, m, g, x, r⟩ := v
  unfold vv at *
  unfold va at *
  dsimp only at *
  clear hx hw
  have hst : ∀ (a : Addr) (n : Nat) (m : Mode) (w : World), (store a (.float .f64 n) m).run Try.prog w = stored Try.prog w a (.float .f64 n) m := fun a n m w => run_store _ _ _ _ _ rfl
  go_enter Try.func60, Try.ntmps60
  go_wp2_with fail
  refine (HN _).mono ?_
  rintro e w1 ⟨rfl, g1⟩
  have G1 : Hid (Kq w w1) := Kq.trans (.of_grown (by go_grown)) g1
  have V1 : Hid (Vc w1 w.heap.size ⟨k, m, g, x, r⟩) := Vc.kq ((Vc.new w k m g x r 26).grown (Grown.alloc (Grown.refl _) _ _)) g1
  have R1 : Hid (Rv w1 (w.heap.size + 1)) := by
    have h := Rv.new (w.alloc (.cells #[.int .i64 k, .int .i64 m, .float .f64 g, .string x, .int .i64 r] 26)) 28
    rw [World.size_alloc] at h
    exact h.kq g1
  have Z1 : w.heap.size + 1 < w1.heap.size := by have := g1.size; simp at this; omega
  obtain ⟨c0, c1, c2, c3, c4⟩ := (show Vc w1 w.heap.size ⟨k, m, g, x, r⟩ from V1)
  obtain ⟨r0, r1, r2, r3, r4, r5, rz⟩ := (show Rv w1 (w.heap.size + 1) from R1)
  clear g1
  go_wp2_with fail
  refine (HT _).mono ?_
  rintro e w2 ⟨rfl, g2'⟩
  have g2 := Kq.of_grown g2'
  clear g2'
  have G2 : Hid (Kq w w2) := Kq.trans G1 g2
  have V2 : Hid (Vc w2 w.heap.size ⟨k, m, g, x, r⟩) := Vc.kq V1 g2
  have R2 : Hid (Rv w2 (w.heap.size + 1)) := Rv.kq R1 g2
  have Z2 : w.heap.size + 1 < w2.heap.size := Nat.lt_of_lt_of_le Z1 g2.size
  clear G1 V1 R1 Z1 c0 c1 c2 c3 c4 r0 r1 r2 r3 r4 r5 rz
  obtain ⟨c0, c1, c2, c3, c4⟩ := (show Vc w2 w.heap.size ⟨k, m, g, x, r⟩ from V2)
  obtain ⟨r0, r1, r2, r3, r4, r5, rz⟩ := (show Rv w2 (w.heap.size + 1) from R2)
  clear g2
  go_wp2_with fail
  refine (HI _).mono ?_
  rintro e w3 ⟨rfl, g3'⟩
  have g3 := Kq.of_grown g3'
  clear g3'
  replace g3 : Kq w2 w3 := Kq.trans (.of_grown (Grown.alloc (Grown.refl _) _ _)) g3
  have G3 : Hid (Kq w w3) := Kq.trans G2 g3
  have V3 : Hid (Vc w3 w.heap.size ⟨k, m, g, x, r⟩) := Vc.kq V2 g3
  have R3 : Hid (Rv w3 (w.heap.size + 1)) := Rv.kq R2 g3
  have Z3 : w.heap.size + 1 < w3.heap.size := Nat.lt_of_lt_of_le Z2 g3.size
  clear G2 V2 R2 Z2 c0 c1 c2 c3 c4 r0 r1 r2 r3 r4 r5 rz
  obtain ⟨c0, c1, c2, c3, c4⟩ := (show Vc w3 w.heap.size ⟨k, m, g, x, r⟩ from V3)
  obtain ⟨r0, r1, r2, r3, r4, r5, rz⟩ := (show Rv w3 (w.heap.size + 1) from R3)
  clear g3
  go_wp2_with fail
  obtain ⟨e0, e1, e2, e3, e4, e5⟩ := rv_set' (show Rv w3 (w.heap.size + 1) from R3) 0 2 z 0 ⟨#[]⟩ 0
  have GG : Hid (Kq w (s6 w3 (w.heap.size + 1) 0 2 z 0 ⟨#[]⟩ 0)) := s6_kq G3 (by omega) 0 2 z 0 ⟨#[]⟩ 0
  obtain ⟨WF, hWF⟩ : ∃ WF, WF = s6 w3 (w.heap.size + 1) 0 2 z 0 ⟨#[]⟩ 0 := ⟨_, rfl⟩
  rw [← hWF] at e0 e1 e2 e3 e4 e5 GG
  have hWF' := hWF
  unfold s6 at hWF'
  rw [← hWF']
  clear hWF hWF'
  refine bodyPost_ret (by simp [results, Try.results60, go_sem, e0, e1, e2, e3, e4, e5]; rfl) rfl ?_
  exact ⟨rfl, GG⟩
set_option maxHeartbeats 4000000 in
theorem im_fk_n (v : Vv) (hx : (v.x.size : Int) ≤ 1048576) (hn : FloatKind.f64.format.order v.g v.g = some .eq) (c : Int) (hc : (c == 0) = false) (HT : ∀ w : World, Calls Try.prog 77 #[.float .f64 v.g] w fun e w' => e = .returned (.agg #[.int .i64 c, .int .i64 0]) ∧ Grown w w') (w : World) : Calls Try.prog 60 #[vv v] w fun e w' => e = .returned (va 0 v) ∧ Kq w w' := by
  have HN : ∀ w, Calls Try.prog 76 #[.float .f64 v.g] w fun e w' => e = .returned (.bool false) ∧ Kq w w' := fun w => (im_nan_f v.g hn w).mono (fun _ _ h => ⟨h.1, by rw [h.2]; exact Kq.refl _⟩)
  obtain ⟨k, m, g, x, r⟩ := v
  unfold vv at *
  unfold va at *
  dsimp only at *
  clear hx hn
  have hst : ∀ (a : Addr) (n : Nat) (m : Mode) (w : World), (store a (.float .f64 n) m).run Try.prog w = stored Try.prog w a (.float .f64 n) m := fun a n m w => run_store _ _ _ _ _ rfl
  go_enter Try.func60, Try.ntmps60
  go_wp2_with fail
  refine (HN _).mono ?_
  rintro e w1 ⟨rfl, g1⟩
  have G1 : Hid (Kq w w1) := Kq.trans (.of_grown (by go_grown)) g1
  have V1 : Hid (Vc w1 w.heap.size ⟨k, m, g, x, r⟩) := Vc.kq ((Vc.new w k m g x r 26).grown (Grown.alloc (Grown.refl _) _ _)) g1
  have R1 : Hid (Rv w1 (w.heap.size + 1)) := by
    have h := Rv.new (w.alloc (.cells #[.int .i64 k, .int .i64 m, .float .f64 g, .string x, .int .i64 r] 26)) 28
    rw [World.size_alloc] at h
    exact h.kq g1
  have Z1 : w.heap.size + 1 < w1.heap.size := by have := g1.size; simp at this; omega
  obtain ⟨c0, c1, c2, c3, c4⟩ := (show Vc w1 w.heap.size ⟨k, m, g, x, r⟩ from V1)
  obtain ⟨r0, r1, r2, r3, r4, r5, rz⟩ := (show Rv w1 (w.heap.size + 1) from R1)
  clear g1
  go_wp2_with fail
  refine (HT _).mono ?_
  rintro e w2 ⟨rfl, g2'⟩
  have g2 := Kq.of_grown g2'
  clear g2'
  have G2 : Hid (Kq w w2) := Kq.trans G1 g2
  have V2 : Hid (Vc w2 w.heap.size ⟨k, m, g, x, r⟩) := Vc.kq V1 g2
  have R2 : Hid (Rv w2 (w.heap.size + 1)) := Rv.kq R1 g2
  have Z2 : w.heap.size + 1 < w2.heap.size := Nat.lt_of_lt_of_le Z1 g2.size
  clear G1 V1 R1 Z1 c0 c1 c2 c3 c4 r0 r1 r2 r3 r4 r5 rz
  obtain ⟨c0, c1, c2, c3, c4⟩ := (show Vc w2 w.heap.size ⟨k, m, g, x, r⟩ from V2)
  obtain ⟨r0, r1, r2, r3, r4, r5, rz⟩ := (show Rv w2 (w.heap.size + 1) from R2)
  clear g2
  go_upto_region 6 with fail
  have ga : Kq w2 (w2.alloc (.cells #[.int .i64 c, .int .i64 0] 99)) := .of_grown (Grown.alloc (Grown.refl _) _ _)
  have GE : Hid (Kq w (w2.alloc (.cells #[.int .i64 c, .int .i64 0] 99))) := Kq.trans G2 ga
  have VE : Hid (Vc (w2.alloc (.cells #[.int .i64 c, .int .i64 0] 99)) w.heap.size ⟨k, m, g, x, r⟩) := Vc.kq V2 ga
  have RE : Hid (Rv (w2.alloc (.cells #[.int .i64 c, .int .i64 0] 99)) (w.heap.size + 1)) := Rv.kq R2 ga
  have ZE : w.heap.size + 1 < (w2.alloc (.cells #[.int .i64 c, .int .i64 0] 99)).heap.size := Nat.lt_of_lt_of_le Z2 ga.size
  clear ga G2 V2 R2 Z2 c0 c1 c2 c3 c4 r0 r1 r2 r3 r4 r5 rz
  generalize w2.alloc (.cells #[.int .i64 c, .int .i64 0] 99) = WE at GE VE RE ZE ⊢
  obtain ⟨c0, c1, c2, c3, c4⟩ := (show Vc WE w.heap.size ⟨k, m, g, x, r⟩ from VE)
  obtain ⟨r0, r1, r2, r3, r4, r5, rz⟩ := (show Rv WE (w.heap.size + 1) from RE)
  go_wp2_with fail
  obtain ⟨e0, e1, e2, e3, e4, e5⟩ := rv_set' (show Rv WE (w.heap.size + 1) from RE) 0 k m g x r
  have GG : Hid (Kq w (s6 WE (w.heap.size + 1) 0 k m g x r)) := s6_kq GE (by omega) 0 k m g x r
  obtain ⟨WF, hWF⟩ : ∃ WF, WF = s6 WE (w.heap.size + 1) 0 k m g x r := ⟨_, rfl⟩
  rw [← hWF] at e0 e1 e2 e3 e4 e5 GG
  have hWF' := hWF
  unfold s6 at hWF'
  rw [← hWF']
  clear hWF hWF'
  refine bodyPost_ret (by simp [results, Try.results60, go_sem, e0, e1, e2, e3, e4, e5]; rfl) rfl ?_
  exact ⟨rfl, GG⟩
end Go.Proofs.Ytfpidccjcemcjaa
