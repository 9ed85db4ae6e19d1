import Derived.Test.YtladepgpandklaaGreatDoorMVah
import Derived.Test.YtladepgpandklaaGreatDoorMVak
namespace Go.Proofs.YtladepgpandklaaGreatDoor
open Go.ChangeShapes Go.WideShapes Go.ChangeAt Go.RowKit
set_option linter.unusedVariables false
set_option maxRecDepth 100000
attribute [local go_sem] run_equalIn_flt
/-- the values that count as true -/
def vtr (v : Vv) : Prop := vok v ∧ ¬ v.k = 0 ∧ (v.k = 1 → v.m = 1)
end Go.Proofs.YtladepgpandklaaGreatDoor
namespace Go.Proofs.YtladepgpandklaaGreatDoor
open Go.ChangeShapes Go.WideShapes Go.ChangeAt Go.RowKit
set_option linter.unusedVariables false
set_option maxRecDepth 100000
/-- an answer: a code and a value -/
def va (c : Int) (v : Vv) : Value := .agg #[.int .i64 c, .int .i64 v.k, .int .i64 v.m, .float .f64 v.g, .string v.x, .int .i64 v.r]
/-- the cells of an answer that is not yet written -/
structure Rv (W : World) (B : Nat) : Prop where
  c0 : W.cell? ⟨B, 0, none⟩ = some (.int .i64 0)
  c1 : W.cell? ⟨B, 1, none⟩ = some (.int .i64 0)
  c2 : W.cell? ⟨B, 2, none⟩ = some (.int .i64 0)
  c3 : W.cell? ⟨B, 3, none⟩ = some (.float .f64 0)
  c4 : W.cell? ⟨B, 4, none⟩ = some (.string ⟨#[]⟩)
  c5 : W.cell? ⟨B, 5, none⟩ = some (.int .i64 0)
  fz : ∀ j, W.frozen? ⟨B, j, none⟩ = false
theorem Rv.new (w : World) (t : TypeId) : Rv (w.alloc (.cells #[.int .i64 0, .int .i64 0, .int .i64 0, .float .f64 0, .string ⟨#[]⟩, .int .i64 0] t)) w.heap.size := by
  refine ⟨?_, ?_, ?_, ?_, ?_, ?_, fun j => World.frozen?_alloc_at _ _ _ _ rfl⟩ <;> (rw [World.cell?_alloc_at _ _ _ _ rfl]; rfl)
theorem Rv.grown {a w : World} {B : Nat} (h : Rv a B) (g : Grown a w) : Rv w B := by
  have hl : B < a.heap.size := by
    have := h.c0
    unfold World.cell? at this
    cases hh : a.heap[B]? with
    | none => simp [hh] at this
    | some o => exact (Array.getElem?_eq_some_iff.1 hh).1
  have e : ∀ j, w.cell? ⟨B, j, none⟩ = a.cell? ⟨B, j, none⟩ := fun j => World.cell?_of_block (grown_block g hl)
  exact ⟨(e _).trans h.c0, (e _).trans h.c1, (e _).trans h.c2, (e _).trans h.c3, (e _).trans h.c4, (e _).trans h.c5, fun j => (g.2.1 _).trans (h.fz j)⟩
set_option maxHeartbeats 1000000 in
theorem sp_fail (c : Int) (w : World) : Calls Tryz.prog 10 #[.int .i64 c] w fun e w' => e = .returned (va c ⟨0, 0, 0, ⟨#[]⟩, 0⟩) ∧ Grown w w' := by
  unfold va
  try dsimp only
  have hst : ∀ (a : Addr) (n : Nat) (m : Mode) (w : World), (store a (.float .f64 n) m).run Tryz.prog w = stored Tryz.prog w a (.float .f64 n) m := fun a n m w => run_store _ _ _ _ _ rfl
  go_enter Tryz.func10, Tryz.ntmps10
  go_wp2_with go_in
  first
    | (go_ret; exact ⟨rfl, by go_grown⟩)
    | (refine bodyPost_ret (by simp [results, Tryz.results10, go_sem]; rfl) rfl ?_; exact ⟨rfl, by go_grown⟩)
set_option maxHeartbeats 1000000 in
theorem im_fail (c : Int) (w : World) : Calls Tryz.prog 23 #[.int .i64 c] w fun e w' => e = .returned (va c ⟨0, 0, 0, ⟨#[]⟩, 0⟩) ∧ Grown w w' := by
  unfold va
  try dsimp only
  have hst : ∀ (a : Addr) (n : Nat) (m : Mode) (w : World), (store a (.float .f64 n) m).run Tryz.prog w = stored Tryz.prog w a (.float .f64 n) m := fun a n m w => run_store _ _ _ _ _ rfl
  go_enter Tryz.func23, Tryz.ntmps23
  go_wp2_with go_in
  first
    | (go_ret; exact ⟨rfl, by go_grown⟩)
    | (refine bodyPost_ret (by simp [results, Tryz.results23, go_sem]; rfl) rfl ?_; exact ⟨rfl, by go_grown⟩)
set_option maxHeartbeats 1000000 in
theorem sp_got (v : Vv) (w : World) : Calls Tryz.prog 13 #[vv v] w fun e w' => e = .returned (va 0 v) ∧ Grown w w' := by
  unfold va vv
  try dsimp only
  have hst : ∀ (a : Addr) (n : Nat) (m : Mode) (w : World), (store a (.float .f64 n) m).run Tryz.prog w = stored Tryz.prog w a (.float .f64 n) m := fun a n m w => run_store _ _ _ _ _ rfl
  go_enter Tryz.func13, Tryz.ntmps13
  go_wp2_with go_in
  first
    | (go_ret; exact ⟨rfl, by go_grown⟩)
    | (refine bodyPost_ret (by simp [results, Tryz.results13, go_sem]; rfl) rfl ?_; exact ⟨rfl, by go_grown⟩)
set_option maxHeartbeats 1000000 in
theorem sp_int (n : Int) (w : World) : Calls Tryz.prog 41 #[.int .i64 n] w fun e w' => e = .returned (vv ⟨2, n, 0, ⟨#[]⟩, 0⟩) ∧ Grown w w' := by
  unfold vv
  try dsimp only
  have hst : ∀ (a : Addr) (n : Nat) (m : Mode) (w : World), (store a (.float .f64 n) m).run Tryz.prog w = stored Tryz.prog w a (.float .f64 n) m := fun a n m w => run_store _ _ _ _ _ rfl
  go_enter Tryz.func41, Tryz.ntmps41
  go_wp2_with go_in
  first
    | (go_ret; exact ⟨rfl, by go_grown⟩)
    | (refine bodyPost_ret (by simp [results, Tryz.results41, go_sem]; rfl) rfl ?_; exact ⟨rfl, by go_grown⟩)
set_option maxHeartbeats 1000000 in
theorem sp_flt (n : Nat) (w : World) : Calls Tryz.prog 42 #[.float .f64 n] w fun e w' => e = .returned (vv ⟨3, 0, n, ⟨#[]⟩, 0⟩) ∧ Grown w w' := by
  unfold vv
  try dsimp only
  have hst : ∀ (a : Addr) (n : Nat) (m : Mode) (w : World), (store a (.float .f64 n) m).run Tryz.prog w = stored Tryz.prog w a (.float .f64 n) m := fun a n m w => run_store _ _ _ _ _ rfl
  go_enter Tryz.func42, Tryz.ntmps42
  go_wp2_with go_in
  first
    | (go_ret; exact ⟨rfl, by go_grown⟩)
    | (refine bodyPost_ret (by simp [results, Tryz.results42, go_sem]; rfl) rfl ?_; exact ⟨rfl, by go_grown⟩)
set_option maxHeartbeats 1000000 in
theorem im_int (n : Int) (w : World) : Calls Tryz.prog 50 #[.int .i64 n] w fun e w' => e = .returned (va 0 ⟨2, n, 0, ⟨#[]⟩, 0⟩) ∧ Grown w w' := by
  unfold va
  try dsimp only
  have hst : ∀ (a : Addr) (n : Nat) (m : Mode) (w : World), (store a (.float .f64 n) m).run Tryz.prog w = stored Tryz.prog w a (.float .f64 n) m := fun a n m w => run_store _ _ _ _ _ rfl
  go_enter Tryz.func50, Tryz.ntmps50
  go_wp2_with go_in
  first
    | (go_ret; exact ⟨rfl, by go_grown⟩)
    | (refine bodyPost_ret (by simp [results, Tryz.results50, go_sem]; rfl) rfl ?_; exact ⟨rfl, by go_grown⟩)
set_option maxHeartbeats 1000000 in
theorem im_flt (n : Nat) (w : World) : Calls Tryz.prog 53 #[.float .f64 n] w fun e w' => e = .returned (va 0 ⟨3, 0, n, ⟨#[]⟩, 0⟩) ∧ Grown w w' := by
  unfold va
  try dsimp only
  have hst : ∀ (a : Addr) (n : Nat) (m : Mode) (w : World), (store a (.float .f64 n) m).run Tryz.prog w = stored Tryz.prog w a (.float .f64 n) m := fun a n m w => run_store _ _ _ _ _ rfl
  go_enter Tryz.func53, Tryz.ntmps53
  go_wp2_with go_in
  first
    | (go_ret; exact ⟨rfl, by go_grown⟩)
    | (refine bodyPost_ret (by simp [results, Tryz.results53, go_sem]; rfl) rfl ?_; exact ⟨rfl, by go_grown⟩)
set_option maxHeartbeats 1000000 in
theorem sp_bool_true  (w : World) : Calls Tryz.prog 15 #[.bool true] w fun e w' => e = .returned (vv ⟨1, 1, 0, ⟨#[]⟩, 0⟩) ∧ Grown w w' := by
  unfold vv
  try dsimp only
  have hst : ∀ (a : Addr) (n : Nat) (m : Mode) (w : World), (store a (.float .f64 n) m).run Tryz.prog w = stored Tryz.prog w a (.float .f64 n) m := fun a n m w => run_store _ _ _ _ _ rfl
  go_enter Tryz.func15, Tryz.ntmps15
  go_wp2_with go_in
  first
    | (go_ret; exact ⟨rfl, by go_grown⟩)
    | (refine bodyPost_ret (by simp [results, Tryz.results15, go_sem]; rfl) rfl ?_; exact ⟨rfl, by go_grown⟩)
set_option maxHeartbeats 1000000 in
theorem im_bool_true  (w : World) : Calls Tryz.prog 25 #[.bool true] w fun e w' => e = .returned (va 0 ⟨1, 1, 0, ⟨#[]⟩, 0⟩) ∧ Grown w w' := by
  unfold va
  try dsimp only
  have hst : ∀ (a : Addr) (n : Nat) (m : Mode) (w : World), (store a (.float .f64 n) m).run Tryz.prog w = stored Tryz.prog w a (.float .f64 n) m := fun a n m w => run_store _ _ _ _ _ rfl
  go_enter Tryz.func25, Tryz.ntmps25
  go_wp2_with go_in
  first
    | (go_ret; exact ⟨rfl, by go_grown⟩)
    | (refine bodyPost_ret (by simp [results, Tryz.results25, go_sem]; rfl) rfl ?_; exact ⟨rfl, by go_grown⟩)
set_option maxHeartbeats 1000000 in
theorem sp_bool_false  (w : World) : Calls Tryz.prog 15 #[.bool false] w fun e w' => e = .returned (vv ⟨1, 0, 0, ⟨#[]⟩, 0⟩) ∧ Grown w w' := by
  unfold vv
  try dsimp only
  have hst : ∀ (a : Addr) (n : Nat) (m : Mode) (w : World), (store a (.float .f64 n) m).run Tryz.prog w = stored Tryz.prog w a (.float .f64 n) m := fun a n m w => run_store _ _ _ _ _ rfl
  go_enter Tryz.func15, Tryz.ntmps15
  go_wp2_with go_in
  first
    | (go_ret; exact ⟨rfl, by go_grown⟩)
    | (refine bodyPost_ret (by simp [results, Tryz.results15, go_sem]; rfl) rfl ?_; exact ⟨rfl, by go_grown⟩)
set_option maxHeartbeats 1000000 in
theorem im_bool_false  (w : World) : Calls Tryz.prog 25 #[.bool false] w fun e w' => e = .returned (va 0 ⟨1, 0, 0, ⟨#[]⟩, 0⟩) ∧ Grown w w' := by
  unfold va
  try dsimp only
  have hst : ∀ (a : Addr) (n : Nat) (m : Mode) (w : World), (store a (.float .f64 n) m).run Tryz.prog w = stored Tryz.prog w a (.float .f64 n) m := fun a n m w => run_store _ _ _ _ _ rfl
  go_enter Tryz.func25, Tryz.ntmps25
  go_wp2_with go_in
  first
    | (go_ret; exact ⟨rfl, by go_grown⟩)
    | (refine bodyPost_ret (by simp [results, Tryz.results25, go_sem]; rfl) rfl ?_; exact ⟨rfl, by go_grown⟩)
end Go.Proofs.YtladepgpandklaaGreatDoor
namespace Go.Proofs.YtladepgpandklaaGreatDoor
open Go.ChangeShapes Go.WideShapes Go.ChangeAt Go.RowKit
set_option linter.unusedVariables false
set_option maxRecDepth 100000
set_option maxHeartbeats 1000000 in
theorem eq_val (v : Vv) (hg : v.g < 18446744073709551616) (w : World) : Calls Tryz.prog 34 #[vv v, vv v] w fun e w' => e = .returned (.bool true) ∧ Grown w w' := by
  have hf := fun w => same_eq v.g hg w
  obtain ⟨k, m, g, x, r⟩ := v
  unfold vv
  dsimp only at hf ⊢
  have h1 : (k != k) = false := by simp
  have h2 : (m != m) = false := by simp
  have h3 : (x.toList != x.toList) = false := by simp
  have h4 : (r != r) = false := by simp
  clear hg
  go_enter Tryz.func34, Tryz.ntmps34
  go_wp2_with (go_at_call 55; refine (hf _).mono ?_; rintro e w1 ⟨rfl, rfl⟩)
  go_ret
  exact ⟨rfl, by go_grown⟩
set_option maxHeartbeats 1000000 in
theorem eq_valued (c : Int) (v : Vv) (hg : v.g < 18446744073709551616) (w : World) : Calls Tryz.prog 8 #[va c v, va c v] w fun e w' => e = .returned (.bool true) ∧ Grown w w' := by
  have hf := fun w => eq_val v hg w
  obtain ⟨k, m, g, x, r⟩ := v
  unfold vv at hf
  unfold va
  dsimp only at hf ⊢
  have h1 : (c != c) = false := by simp
  clear hg
  go_enter Tryz.func8, Tryz.ntmps8
  go_wp2_with (go_at_call 34; refine (hf _).mono ?_; rintro e w1 ⟨rfl, g1⟩)
  go_ret
  exact ⟨rfl, by first | exact g1 | (refine Grown.trans ?_ g1; go_grown)⟩
theorem unary_negf (k : FloatKind) (b : Nat) : Op.unary .neg (.float k b) = pure (.float k (Op.negFloat k b)) := rfl
theorem set_ne (W : World) (g o o' : Nat) (v : Value) (h : o' ≠ o) : (W.setCell ⟨g, o, none⟩ v).cell? ⟨g, o', none⟩ = W.cell? ⟨g, o', none⟩ :=
  World.cell?_setCell_other _ _ _ _ (fun e => h (congrArg Addr.off e).symm)
theorem set_eq (W : World) (g o : Nat) (v u : Value) (h : W.cell? ⟨g, o, none⟩ = some u) : (W.setCell ⟨g, o, none⟩ v).cell? ⟨g, o, none⟩ = some v :=
  World.cell?_setCell_same _ _ _ h
/-- an answer's cells when they are written -/
def s6 (W : World) (B : Nat) (a0 a1 a2 : Int) (a3 : Nat) (a4 : ByteArray) (a5 : Int) : World := (((((W.setCell ⟨B, 0, none⟩ (.int .i64 a0)).setCell ⟨B, 1, none⟩ (.int .i64 a1)).setCell ⟨B, 2, none⟩ (.int .i64 a2)).setCell ⟨B, 3, none⟩ (.float .f64 a3)).setCell ⟨B, 4, none⟩ (.string a4)).setCell ⟨B, 5, none⟩ (.int .i64 a5)
theorem rv_set' {W : World} {B : Nat} (h : Rv W B) (a0 a1 a2 : Int) (a3 : Nat) (a4 : ByteArray) (a5 : Int) : (s6 W B a0 a1 a2 a3 a4 a5).cell? ⟨B, 0, none⟩ = some (.int .i64 a0) ∧ (s6 W B a0 a1 a2 a3 a4 a5).cell? ⟨B, 1, none⟩ = some (.int .i64 a1) ∧ (s6 W B a0 a1 a2 a3 a4 a5).cell? ⟨B, 2, none⟩ = some (.int .i64 a2) ∧ (s6 W B a0 a1 a2 a3 a4 a5).cell? ⟨B, 3, none⟩ = some (.float .f64 a3) ∧ (s6 W B a0 a1 a2 a3 a4 a5).cell? ⟨B, 4, none⟩ = some (.string a4) ∧ (s6 W B a0 a1 a2 a3 a4 a5).cell? ⟨B, 5, none⟩ = some (.int .i64 a5) := by
  unfold s6
  refine ⟨?_, ?_, ?_, ?_, ?_, ?_⟩
  · rw [set_ne _ _ _ _ _ (by omega), set_ne _ _ _ _ _ (by omega), set_ne _ _ _ _ _ (by omega), set_ne _ _ _ _ _ (by omega), set_ne _ _ _ _ _ (by omega)]; exact set_eq _ _ _ _ _ h.c0
  · rw [set_ne _ _ _ _ _ (by omega), set_ne _ _ _ _ _ (by omega), set_ne _ _ _ _ _ (by omega), set_ne _ _ _ _ _ (by omega)]; exact set_eq _ _ _ _ (.int .i64 0) (by rw [set_ne _ _ _ _ _ (by omega)]; exact h.c1)
  · rw [set_ne _ _ _ _ _ (by omega), set_ne _ _ _ _ _ (by omega), set_ne _ _ _ _ _ (by omega)]; exact set_eq _ _ _ _ (.int .i64 0) (by rw [set_ne _ _ _ _ _ (by omega), set_ne _ _ _ _ _ (by omega)]; exact h.c2)
  · rw [set_ne _ _ _ _ _ (by omega), set_ne _ _ _ _ _ (by omega)]; exact set_eq _ _ _ _ (.float .f64 0) (by rw [set_ne _ _ _ _ _ (by omega), set_ne _ _ _ _ _ (by omega), set_ne _ _ _ _ _ (by omega)]; exact h.c3)
  · rw [set_ne _ _ _ _ _ (by omega)]; exact set_eq _ _ _ _ (.string ⟨#[]⟩) (by rw [set_ne _ _ _ _ _ (by omega), set_ne _ _ _ _ _ (by omega), set_ne _ _ _ _ _ (by omega), set_ne _ _ _ _ _ (by omega)]; exact h.c4)
  · exact set_eq _ _ _ _ (.int .i64 0) (by rw [set_ne _ _ _ _ _ (by omega), set_ne _ _ _ _ _ (by omega), set_ne _ _ _ _ _ (by omega), set_ne _ _ _ _ _ (by omega), set_ne _ _ _ _ _ (by omega)]; exact h.c5)
theorem s6_grown {w W : World} {B : Nat} (h : Grown w W) (hB : w.heap.size ≤ B) (a0 a1 a2 : Int) (a3 : Nat) (a4 : ByteArray) (a5 : Int) : Grown w (s6 W B a0 a1 a2 a3 a4 a5) :=
  (((((h.setCell (a := ⟨B, 0, none⟩) hB _).setCell (a := ⟨B, 1, none⟩) hB _).setCell (a := ⟨B, 2, none⟩) hB _).setCell (a := ⟨B, 3, none⟩) hB _).setCell (a := ⟨B, 4, none⟩) hB _).setCell (a := ⟨B, 5, none⟩) hB _
end Go.Proofs.YtladepgpandklaaGreatDoor
