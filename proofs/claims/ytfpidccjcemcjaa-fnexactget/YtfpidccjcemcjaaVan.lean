import Derived.Test.YtfpidccjcemcjaaVam
namespace Go.Proofs.Ytfpidccjcemcjaa
open Go.ChangeShapes Go.WideShapes Go.ChangeAt Go.RowKit
set_option linter.unusedVariables false
set_option maxRecDepth 100000
/-- an answer: a code and a value -/
def va (c : Int) (v : Vv) : Value := .agg #[.int .i64 c, .int .i64 v.k, .int .i64 v.m, .float .f64 v.g, .string v.x, .int .i64 v.r]
/-- the cells of an answer that is not yet written -/
structure Rv (W : World) (B : Nat) : Prop where
  c0 : W.cell? ⟨B, 0, none⟩ = some (.int .i64 0)
  c1 : W.cell? ⟨B, 1, none⟩ = some (.int .i64 0)
  c2 : W.cell? ⟨B, 2, none⟩ = some (.int .i64 0)
  c3 : W.cell? ⟨B, 3, none⟩ = some (.float .f64 0)
  c4 : W.cell? ⟨B, 4, none⟩ = some (.string ⟨#[]⟩)
  c5 : W.cell? ⟨B, 5, none⟩ = some (.int .i64 0)
  fz : ∀ j, W.frozen? ⟨B, j, none⟩ = false
theorem Rv.new (w : World) (t : TypeId) : Rv (w.alloc (.cells #[.int .i64 0, .int .i64 0, .int .i64 0, .float .f64 0, .string ⟨#[]⟩, .int .i64 0] t)) w.heap.size := by
  refine ⟨?_, ?_, ?_, ?_, ?_, ?_, fun j => World.frozen?_alloc_at _ _ _ _ rfl⟩ <;> (rw [World.cell?_alloc_at _ _ _ _ rfl]; rfl)
theorem Rv.grown {a w : World} {B : Nat} (h : Rv a B) (g : Grown a w) : Rv w B := by
  have hl : B < a.heap.size := by
    have := h.c0
    unfold World.cell? at this
    cases hh : a.heap[B]? with
    | none => simp [hh] at this
    | some o => exact (Array.getElem?_eq_some_iff.1 hh).1
  have e : ∀ j, w.cell? ⟨B, j, none⟩ = a.cell? ⟨B, j, none⟩ := fun j => World.cell?_of_block (grown_block g hl)
  exact ⟨(e _).trans h.c0, (e _).trans h.c1, (e _).trans h.c2, (e _).trans h.c3, (e _).trans h.c4, (e _).trans h.c5, fun j => (g.2.1 _).trans (h.fz j)⟩
set_option maxHeartbeats 1000000 in
theorem sp_fail (c : Int) (w : World) : Calls Try.prog 32 #[.int .i64 c] w fun e w' => e = .returned (va c ⟨0, 0, 0, ⟨#[]⟩, 0⟩) ∧ Grown w w' := by
  unfold va
  try dsimp only
  have hst : ∀ (a : Addr) (n : Nat) (m : Mode) (w : World), (store a (.float .f64 n) m).run Try.prog w = stored Try.prog w a (.float .f64 n) m := fun a n m w => run_store _ _ _ _ _ rfl
  go_enter Try.func32, Try.ntmps32
  go_wp2_with go_in
  first
    | (go_ret; exact ⟨rfl, by go_grown⟩)
    | (refine bodyPost_ret (by simp [results, Try.results32, go_sem]; rfl) rfl ?_; exact ⟨rfl, by go_grown⟩)
set_option maxHeartbeats 1000000 in
theorem im_fail (c : Int) (w : World) : Calls Try.prog 59 #[.int .i64 c] w fun e w' => e = .returned (va c ⟨0, 0, 0, ⟨#[]⟩, 0⟩) ∧ Grown w w' := by
  unfold va
  try dsimp only
  have hst : ∀ (a : Addr) (n : Nat) (m : Mode) (w : World), (store a (.float .f64 n) m).run Try.prog w = stored Try.prog w a (.float .f64 n) m := fun a n m w => run_store _ _ _ _ _ rfl
  go_enter Try.func59, Try.ntmps59
  go_wp2_with go_in
  first
    | (go_ret; exact ⟨rfl, by go_grown⟩)
    | (refine bodyPost_ret (by simp [results, Try.results59, go_sem]; rfl) rfl ?_; exact ⟨rfl, by go_grown⟩)
set_option maxHeartbeats 1000000 in
theorem sp_got (v : Vv) (w : World) : Calls Try.prog 35 #[vv v] w fun e w' => e = .returned (va 0 v) ∧ Grown w w' := by
  unfold va vv
  try dsimp only
  have hst : ∀ (a : Addr) (n : Nat) (m : Mode) (w : World), (store a (.float .f64 n) m).run Try.prog w = stored Try.prog w a (.float .f64 n) m := fun a n m w => run_store _ _ _ _ _ rfl
  go_enter Try.func35, Try.ntmps35
  go_wp2_with go_in
  first
    | (go_ret; exact ⟨rfl, by go_grown⟩)
    | (refine bodyPost_ret (by simp [results, Try.results35, go_sem]; rfl) rfl ?_; exact ⟨rfl, by go_grown⟩)
set_option maxHeartbeats 1000000 in
theorem sp_int (n : Int) (w : World) : Calls Try.prog 36 #[.int .i64 n] w fun e w' => e = .returned (vv ⟨2, n, 0, ⟨#[]⟩, 0⟩) ∧ Grown w w' := by
  unfold vv
  try dsimp only
  have hst : ∀ (a : Addr) (n : Nat) (m : Mode) (w : World), (store a (.float .f64 n) m).run Try.prog w = stored Try.prog w a (.float .f64 n) m := fun a n m w => run_store _ _ _ _ _ rfl
  go_enter Try.func36, Try.ntmps36
  go_wp2_with go_in
  first
    | (go_ret; exact ⟨rfl, by go_grown⟩)
    | (refine bodyPost_ret (by simp [results, Try.results36, go_sem]; rfl) rfl ?_; exact ⟨rfl, by go_grown⟩)
set_option maxHeartbeats 1000000 in
theorem im_int (n : Int) (w : World) : Calls Try.prog 75 #[.int .i64 n] w fun e w' => e = .returned (va 0 ⟨2, n, 0, ⟨#[]⟩, 0⟩) ∧ Grown w w' := by
  unfold va
  try dsimp only
  have hst : ∀ (a : Addr) (n : Nat) (m : Mode) (w : World), (store a (.float .f64 n) m).run Try.prog w = stored Try.prog w a (.float .f64 n) m := fun a n m w => run_store _ _ _ _ _ rfl
  go_enter Try.func75, Try.ntmps75
  go_wp2_with go_in
  first
    | (go_ret; exact ⟨rfl, by go_grown⟩)
    | (refine bodyPost_ret (by simp [results, Try.results75, go_sem]; rfl) rfl ?_; exact ⟨rfl, by go_grown⟩)
end Go.Proofs.Ytfpidccjcemcjaa
