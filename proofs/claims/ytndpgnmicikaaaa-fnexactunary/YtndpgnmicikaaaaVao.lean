import Derived.Test.YtndpgnmicikaaaaVan
namespace Go.Proofs.Ytndpgnmicikaaaa
open Go.ChangeShapes Go.WideShapes Go.ChangeAt Go.RowKit
set_option linter.unusedVariables false
set_option maxHeartbeats 1000000 in
theorem eq_val (v : Vv) (hg : v.g < 18446744073709551616) (w : World) : Calls Try.prog 38 #[vv v, vv v] w fun e w' => e = .returned (.bool true) ∧ Grown w w' := by
  have hf := fun w => same_eq v.g hg w
  obtain ⟨k, m, g, x, r⟩ := v
  unfold vv
  dsimp only at hf ⊢
  have h1 : (k != k) = false := by simp
  have h2 : (m != m) = false := by simp
  have h3 : (x.toList != x.toList) = false := by simp
  have h4 : (r != r) = false := by simp
  clear hg
  go_enter Try.func38, Try.ntmps38
  go_wp2_with (go_at_call 46; refine (hf _).mono ?_; rintro e w1 ⟨rfl, rfl⟩)
  go_ret
  exact ⟨rfl, by go_grown⟩
set_option maxHeartbeats 1000000 in
theorem eq_valued (c : Int) (v : Vv) (hg : v.g < 18446744073709551616) (w : World) : Calls Try.prog 20 #[va c v, va c v] w fun e w' => e = .returned (.bool true) ∧ Grown w w' := by
  have hf := fun w => eq_val v hg w
  obtain ⟨k, m, g, x, r⟩ := v
  unfold vv at hf
  unfold va
  dsimp only at hf ⊢
  have h1 : (c != c) = false := by simp
  clear hg
  go_enter Try.func20, Try.ntmps20
  go_wp2_with (go_at_call 38; refine (hf _).mono ?_; rintro e w1 ⟨rfl, g1⟩)
  go_ret
  exact ⟨rfl, by first | exact g1 | (refine Grown.trans ?_ g1; go_grown)⟩
theorem unary_negf (k : FloatKind) (b : Nat) : Op.unary .neg (.float k b) = pure (.float k (Op.negFloat k b)) := rfl
theorem set_ne (W : World) (g o o' : Nat) (v : Value) (h : o' ≠ o) : (W.setCell ⟨g, o, none⟩ v).cell? ⟨g, o', none⟩ = W.cell? ⟨g, o', none⟩ :=
  World.cell?_setCell_other _ _ _ _ (fun e => h (congrArg Addr.off e).symm)
theorem set_eq (W : World) (g o : Nat) (v u : Value) (h : W.cell? ⟨g, o, none⟩ = some u) : (W.setCell ⟨g, o, none⟩ v).cell? ⟨g, o, none⟩ = some v :=
  World.cell?_setCell_same _ _ _ h
/-- an answer's cells when they are written -/
def s6 (W : World) (B : Nat) (a0 a1 a2 : Int) (a3 : Nat) (a4 : ByteArray) (a5 : Int) : World := (((((W.setCell ⟨B, 0, none⟩ (.int .i64 a0)).setCell ⟨B, 1, none⟩ (.int .i64 a1)).setCell ⟨B, 2, none⟩ (.int .i64 a2)).setCell ⟨B, 3, none⟩ (.float .f64 a3)).setCell ⟨B, 4, none⟩ (.string a4)).setCell ⟨B, 5, none⟩ (.int .i64 a5)
theorem rv_set' {W : World} {B : Nat} (h : Rv W B) (a0 a1 a2 : Int) (a3 : Nat) (a4 : ByteArray) (a5 : Int) : (s6 W B a0 a1 a2 a3 a4 a5).cell? ⟨B, 0, none⟩ = some (.int .i64 a0) ∧ (s6 W B a0 a1 a2 a3 a4 a5).cell? ⟨B, 1, none⟩ = some (.int .i64 a1) ∧ (s6 W B a0 a1 a2 a3 a4 a5).cell? ⟨B, 2, none⟩ = some (.int .i64 a2) ∧ (s6 W B a0 a1 a2 a3 a4 a5).cell? ⟨B, 3, none⟩ = some (.float .f64 a3) ∧ (s6 W B a0 a1 a2 a3 a4 a5).cell? ⟨B, 4, none⟩ = some (.string a4) ∧ (s6 W B a0 a1 a2 a3 a4 a5).cell? ⟨B, 5, none⟩ = some (.int .i64 a5) := by
  unfold s6
  refine ⟨?_, ?_, ?_, ?_, ?_, ?_⟩
  · rw [set_ne _ _ _ _ _ (by omega), set_ne _ _ _ _ _ (by omega), set_ne _ _ _ _ _ (by omega), set_ne _ _ _ _ _ (by omega), set_ne _ _ _ _ _ (by omega)]; exact set_eq _ _ _ _ _ h.c0
  · rw [set_ne _ _ _ _ _ (by omega), set_ne _ _ _ _ _ (by omega), set_ne _ _ _ _ _ (by omega), set_ne _ _ _ _ _ (by omega)]; exact set_eq _ _ _ _ (.int .i64 0) (by rw [set_ne _ _ _ _ _ (by omega)]; exact h.c1)
  · rw [set_ne _ _ _ _ _ (by omega), set_ne _ _ _ _ _ (by omega), set_ne _ _ _ _ _ (by omega)]; exact set_eq _ _ _ _ (.int .i64 0) (by rw [set_ne _ _ _ _ _ (by omega), set_ne _ _ _ _ _ (by omega)]; exact h.c2)
  · rw [set_ne _ _ _ _ _ (by omega), set_ne _ _ _ _ _ (by omega)]; exact set_eq _ _ _ _ (.float .f64 0) (by rw [set_ne _ _ _ _ _ (by omega), set_ne _ _ _ _ _ (by omega), set_ne _ _ _ _ _ (by omega)]; exact h.c3)
  · rw [set_ne _ _ _ _ _ (by omega)]; exact set_eq _ _ _ _ (.string ⟨#[]⟩) (by rw [set_ne _ _ _ _ _ (by omega), set_ne _ _ _ _ _ (by omega), set_ne _ _ _ _ _ (by omega), set_ne _ _ _ _ _ (by omega)]; exact h.c4)
  · exact set_eq _ _ _ _ (.int .i64 0) (by rw [set_ne _ _ _ _ _ (by omega), set_ne _ _ _ _ _ (by omega), set_ne _ _ _ _ _ (by omega), set_ne _ _ _ _ _ (by omega), set_ne _ _ _ _ _ (by omega)]; exact h.c5)
theorem s6_grown {w W : World} {B : Nat} (h : Grown w W) (hB : w.heap.size ≤ B) (a0 a1 a2 : Int) (a3 : Nat) (a4 : ByteArray) (a5 : Int) : Grown w (s6 W B a0 a1 a2 a3 a4 a5) :=
  (((((h.setCell (a := ⟨B, 0, none⟩) hB _).setCell (a := ⟨B, 1, none⟩) hB _).setCell (a := ⟨B, 2, none⟩) hB _).setCell (a := ⟨B, 3, none⟩) hB _).setCell (a := ⟨B, 4, none⟩) hB _).setCell (a := ⟨B, 5, none⟩) hB _
set_option maxRecDepth 100000 in
set_option maxHeartbeats 2000000 in
theorem im_un_bad (op : Int) (v : Vv) (hx : (v.x.size : Int) ≤ 1048576) (ho : ¬ vok v) (w : World) : Calls Try.prog 19 #[.int .i64 op, vv v] w fun e w' => e = .returned (va 1 ⟨0, 0, 0, ⟨#[]⟩, 0⟩) ∧ Grown w w' := by
  have HO := fun w => im_ok v hx w
  rw [dc_f ho] at HO
  have HF := fun w => im_fail 1 w
  obtain ⟨k, m, g, x, r⟩ := v
  unfold vv at HO ⊢
  unfold va at HF ⊢
  dsimp only at HO HF hx ⊢
  clear hx ho
  have hst : ∀ (a : Addr) (n : Nat) (m : Mode) (w : World), (store a (.float .f64 n) m).run Try.prog w = stored Try.prog w a (.float .f64 n) m := fun a n m w => run_store _ _ _ _ _ rfl
  go_enter Try.func19, Try.ntmps19
  go_wp2_with fail
  refine (HO _).mono ?_
  rintro e w1 ⟨rfl, g1⟩
  have G1 : Hid (Grown w w1) := Grown.trans (by go_grown) g1
  have V1 : Hid (Vc w1 w.heap.size ⟨k, m, g, x, r⟩) := Vc.grown ((Vc.new w k m g x r 27).grown (Grown.alloc (Grown.refl _) _ _)) g1
  have R1 : Hid (Rv w1 (w.heap.size + 1)) := by
    have h := Rv.new (w.alloc (.cells #[.int .i64 k, .int .i64 m, .float .f64 g, .string x, .int .i64 r] 27)) 34
    rw [World.size_alloc] at h
    exact h.grown g1
  have Z1 : w.heap.size + 1 < w1.heap.size := by have := g1.2.2; simp at this; omega
  obtain ⟨c0, c1, c2, c3, c4⟩ := (show Vc w1 w.heap.size ⟨k, m, g, x, r⟩ from V1)
  obtain ⟨r0, r1, r2, r3, r4, r5, rz⟩ := (show Rv w1 (w.heap.size + 1) from R1)
  clear g1
  go_wp2_with fail
  refine (HF _).mono ?_
  rintro e w2 ⟨rfl, g2⟩
  have G2 : Hid (Grown w w2) := Grown.trans G1 g2
  have V2 : Hid (Vc w2 w.heap.size ⟨k, m, g, x, r⟩) := Vc.grown V1 g2
  have R2 : Hid (Rv w2 (w.heap.size + 1)) := Rv.grown R1 g2
  have Z2 : w.heap.size + 1 < w2.heap.size := Nat.lt_of_lt_of_le Z1 g2.2.2
  clear G1 V1 R1 Z1 c0 c1 c2 c3 c4 r0 r1 r2 r3 r4 r5 rz
  obtain ⟨c0, c1, c2, c3, c4⟩ := (show Vc w2 w.heap.size ⟨k, m, g, x, r⟩ from V2)
  obtain ⟨r0, r1, r2, r3, r4, r5, rz⟩ := (show Rv w2 (w.heap.size + 1) from R2)
  clear g2
  go_wp2_with fail
  obtain ⟨e0, e1, e2, e3, e4, e5⟩ := rv_set' (show Rv w2 (w.heap.size + 1) from R2) 1 0 0 0 ⟨#[]⟩ 0
  have GG : Hid (Grown w (s6 w2 (w.heap.size + 1) 1 0 0 0 ⟨#[]⟩ 0)) := s6_grown G2 (by omega) 1 0 0 0 ⟨#[]⟩ 0
  obtain ⟨WF, hWF⟩ : ∃ WF, WF = s6 w2 (w.heap.size + 1) 1 0 0 0 ⟨#[]⟩ 0 := ⟨_, rfl⟩
  rw [← hWF] at e0 e1 e2 e3 e4 e5 GG
  have hWF' := hWF
  unfold s6 at hWF'
  rw [← hWF']
  clear hWF hWF'
  refine bodyPost_ret (by simp [results, Try.results19, go_sem, e0, e1, e2, e3, e4, e5]; rfl) rfl ?_
  exact ⟨rfl, GG⟩
end Go.Proofs.Ytndpgnmicikaaaa
