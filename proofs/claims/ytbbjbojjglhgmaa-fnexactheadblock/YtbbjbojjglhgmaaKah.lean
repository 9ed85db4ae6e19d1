import Derived.Test.YtbbjbojjglhgmaaKag
import Derived.Deep.Slices
import Derived.SizedLaws
import Derived.Carry
namespace Go.Proofs.Ytbbjbojjglhgmaa.Fo
open Go.ChangeShapes Go.WideShapes Go.ChangeAt Go.RowKit
set_option linter.unusedVariables false
set_option maxRecDepth 100000
theorem cells2 : Try.prog.cellsOf 2 = 1 := by kernel_rfl
theorem cells3 : Try.prog.cellsOf 3 = 1 := by kernel_rfl
theorem cells4 : Try.prog.cellsOf 4 = 1 := by kernel_rfl
theorem cellsLH : Try.prog.cellsOf 67 = 4 := by kernel_rfl
theorem laidOut : laidOutB Try.prog = true := by kernel_rfl
theorem rHead : Try.prog.readableRec 67 = true ∧ 67 < Try.prog.types.size := ⟨by kernel_rfl, of_decide_eq_true (by kernel_rfl)⟩
theorem head_stays {H : Type} {enc : TypeId × Value → H} {W W' : World} {v : Value} {d : DataW H} {p : List MemPlace} (h : DataW.Trod enc Try.prog W 0 (fun _ => true) true 67 v d p) (hlt : ∀ x ∈ p, x.block < W.heap.size) (hg : Kb 0 W W') : DataW.Trod enc Try.prog W' 0 (fun b => decide (b < W.heap.size)) true 67 v d p := by
  obtain ⟨fuel, hf⟩ := h
  refine ⟨fuel, DataW.trod_stays (kids_book laidOut rHead.1) (book_sized rHead.1) (fun h => by cases h) ⟨rHead.2, book_self 67⟩ hf (fun x hx => ?_) (fun x hx => by simpa using hlt x hx)⟩
  have hb := hlt x hx
  cases x with
  | cell b o => exact World.cell?_of_block (w := W) (hg.block b (Nat.zero_le _) hb)
  | map b => exact hg.block b (Nat.zero_le _) hb
theorem read_head {H : Type} {enc : TypeId × Value → H} {w : World} {base : Nat} {sp : Nat → Bool} {held : Bool} {cs : Array Value} {d : DataW H} {p : List MemPlace} (hcz : cs.size = 4) (h : DataW.Trod enc Try.prog w base sp held 67 (.agg cs) d p) :
    ∃ (ok : Bool) (g l s : Int), (Value.agg cs) = .agg #[.bool ok, .int .i64 g, .int .i64 l, .int .i64 s] ∧ -9223372036854775808 ≤ s ∧ s ≤ 9223372036854775807 := by
  obtain ⟨fuel, hf⟩ := h
  obtain ⟨xs, n, _, hx, hl, hxl, hfi⟩ := DataW.trod_struct Try.underlying67 hf
  obtain ⟨l⟩ := cs
  match l, hcz with
  | [c0, c1, c2, c3], _ =>
    match xs, hxl with
    | [y0, y1, y2, y3], _ =>
      have t0 := hfi 0 _ rfl
      have t1 := hfi 1 _ rfl
      have t2 := hfi 2 _ rfl
      have t3 := hfi 3 _ rfl
      simp [Value.cells, cells2, cells3, cells4] at t0 t1 t2 t3
      obtain ⟨z0, e0, _⟩ := DataW.trod_bool Try.underlying4 t0
      obtain ⟨z1, e1, _⟩ := DataW.trod_int Try.underlying3 t1
      obtain ⟨z2, e2, _⟩ := DataW.trod_int Try.underlying3 t2
      obtain ⟨z3, e3, _, g3⟩ := DataW.trod_int Try.underlying2 t3
      simp only [List.cons.injEq, and_true] at e0 e1 e2 e3
      subst e0 e1 e2 e3
      simp [Lit.wf, IntKind.min, IntKind.max, IntKind.signed, IntKind.bits] at g3
      exact ⟨z0, z1, z2, z3, rfl, by omega, by omega⟩
end Go.Proofs.Ytbbjbojjglhgmaa.Fo
