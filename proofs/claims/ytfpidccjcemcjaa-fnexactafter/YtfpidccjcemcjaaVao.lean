import Derived.Test.YtfpidccjcemcjaaVan
namespace Go.Proofs.Ytfpidccjcemcjaa
open Go.ChangeShapes Go.WideShapes Go.ChangeAt Go.RowKit
set_option linter.unusedVariables false
set_option maxRecDepth 100000
set_option maxHeartbeats 1000000 in
theorem eq_val (v : Vv) (hg : v.g < 18446744073709551616) (w : World) : Calls Try.prog 21 #[vv v, vv v] w fun e w' => e = .returned (.bool true) ∧ Grown w w' := by
  have hf := fun w => same_eq v.g hg w
  obtain ⟨k, m, g, x, r⟩ := v
  unfold vv
  dsimp only at hf ⊢
  have h1 : (k != k) = false := by simp
  have h2 : (m != m) = false := by simp
  have h3 : (x.toList != x.toList) = false := by simp
  have h4 : (r != r) = false := by simp
  clear hg
  go_enter Try.func21, Try.ntmps21
  go_wp2_with (go_at_call 47; refine (hf _).mono ?_; rintro e w1 ⟨rfl, rfl⟩)
  go_ret
  exact ⟨rfl, by go_grown⟩
set_option maxHeartbeats 1000000 in
theorem eq_valued (c : Int) (v : Vv) (hg : v.g < 18446744073709551616) (w : World) : Calls Try.prog 13 #[va c v, va c v] w fun e w' => e = .returned (.bool true) ∧ Grown w w' := by
  have hf := fun w => eq_val v hg w
  obtain ⟨k, m, g, x, r⟩ := v
  unfold vv at hf
  unfold va
  dsimp only at hf ⊢
  have h1 : (c != c) = false := by simp
  clear hg
  go_enter Try.func13, Try.ntmps13
  go_wp2_with (go_at_call 21; refine (hf _).mono ?_; rintro e w1 ⟨rfl, g1⟩)
  go_ret
  exact ⟨rfl, by first | exact g1 | (refine Grown.trans ?_ g1; go_grown)⟩
theorem unary_negf (k : FloatKind) (b : Nat) : Op.unary .neg (.float k b) = pure (.float k (Op.negFloat k b)) := rfl
theorem set_ne (W : World) (g o o' : Nat) (v : Value) (h : o' ≠ o) : (W.setCell ⟨g, o, none⟩ v).cell? ⟨g, o', none⟩ = W.cell? ⟨g, o', none⟩ :=
  World.cell?_setCell_other _ _ _ _ (fun e => h (congrArg Addr.off e).symm)
theorem set_eq (W : World) (g o : Nat) (v u : Value) (h : W.cell? ⟨g, o, none⟩ = some u) : (W.setCell ⟨g, o, none⟩ v).cell? ⟨g, o, none⟩ = some v :=
  World.cell?_setCell_same _ _ _ h
/-- an answer's cells when they are written -/
def s6 (W : World) (B : Nat) (a0 a1 a2 : Int) (a3 : Nat) (a4 : ByteArray) (a5 : Int) : World := (((((W.setCell ⟨B, 0, none⟩ (.int .i64 a0)).setCell ⟨B, 1, none⟩ (.int .i64 a1)).setCell ⟨B, 2, none⟩ (.int .i64 a2)).setCell ⟨B, 3, none⟩ (.float .f64 a3)).setCell ⟨B, 4, none⟩ (.string a4)).setCell ⟨B, 5, none⟩ (.int .i64 a5)
theorem rv_set' {W : World} {B : Nat} (h : Rv W B) (a0 a1 a2 : Int) (a3 : Nat) (a4 : ByteArray) (a5 : Int) : (s6 W B a0 a1 a2 a3 a4 a5).cell? ⟨B, 0, none⟩ = some (.int .i64 a0) ∧ (s6 W B a0 a1 a2 a3 a4 a5).cell? ⟨B, 1, none⟩ = some (.int .i64 a1) ∧ (s6 W B a0 a1 a2 a3 a4 a5).cell? ⟨B, 2, none⟩ = some (.int .i64 a2) ∧ (s6 W B a0 a1 a2 a3 a4 a5).cell? ⟨B, 3, none⟩ = some (.float .f64 a3) ∧ (s6 W B a0 a1 a2 a3 a4 a5).cell? ⟨B, 4, none⟩ = some (.string a4) ∧ (s6 W B a0 a1 a2 a3 a4 a5).cell? ⟨B, 5, none⟩ = some (.int .i64 a5) := by
  unfold s6
  refine ⟨?_, ?_, ?_, ?_, ?_, ?_⟩
  · rw [set_ne _ _ _ _ _ (by omega), set_ne _ _ _ _ _ (by omega), set_ne _ _ _ _ _ (by omega), set_ne _ _ _ _ _ (by omega), set_ne _ _ _ _ _ (by omega)]; exact set_eq _ _ _ _ _ h.c0
  · rw [set_ne _ _ _ _ _ (by omega), set_ne _ _ _ _ _ (by omega), set_ne _ _ _ _ _ (by omega), set_ne _ _ _ _ _ (by omega)]; exact set_eq _ _ _ _ (.int .i64 0) (by rw [set_ne _ _ _ _ _ (by omega)]; exact h.c1)
  · rw [set_ne _ _ _ _ _ (by omega), set_ne _ _ _ _ _ (by omega), set_ne _ _ _ _ _ (by omega)]; exact set_eq _ _ _ _ (.int .i64 0) (by rw [set_ne _ _ _ _ _ (by omega), set_ne _ _ _ _ _ (by omega)]; exact h.c2)
  · rw [set_ne _ _ _ _ _ (by omega), set_ne _ _ _ _ _ (by omega)]; exact set_eq _ _ _ _ (.float .f64 0) (by rw [set_ne _ _ _ _ _ (by omega), set_ne _ _ _ _ _ (by omega), set_ne _ _ _ _ _ (by omega)]; exact h.c3)
  · rw [set_ne _ _ _ _ _ (by omega)]; exact set_eq _ _ _ _ (.string ⟨#[]⟩) (by rw [set_ne _ _ _ _ _ (by omega), set_ne _ _ _ _ _ (by omega), set_ne _ _ _ _ _ (by omega), set_ne _ _ _ _ _ (by omega)]; exact h.c4)
  · exact set_eq _ _ _ _ (.int .i64 0) (by rw [set_ne _ _ _ _ _ (by omega), set_ne _ _ _ _ _ (by omega), set_ne _ _ _ _ _ (by omega), set_ne _ _ _ _ _ (by omega), set_ne _ _ _ _ _ (by omega)]; exact h.c5)
theorem s6_grown {w W : World} {B : Nat} (h : Grown w W) (hB : w.heap.size ≤ B) (a0 a1 a2 : Int) (a3 : Nat) (a4 : ByteArray) (a5 : Int) : Grown w (s6 W B a0 a1 a2 a3 a4 a5) :=
  (((((h.setCell (a := ⟨B, 0, none⟩) hB _).setCell (a := ⟨B, 1, none⟩) hB _).setCell (a := ⟨B, 2, none⟩) hB _).setCell (a := ⟨B, 3, none⟩) hB _).setCell (a := ⟨B, 4, none⟩) hB _).setCell (a := ⟨B, 5, none⟩) hB _
end Go.Proofs.Ytfpidccjcemcjaa
