import Derived.Test.YtieccnkabllamaaIod
import Derived.Deep.Slices
import Derived.SizedLaws
import Derived.Carry
namespace Go.Proofs.Ytieccnkabllamaa.Fo
open Go.ChangeShapes Go.WideShapes Go.ChangeAt Go.RowKit
set_option linter.unusedVariables false
set_option maxRecDepth 100000
theorem laidOut : laidOutB Try.prog = true := by kernel_rfl
theorem rInp : Try.prog.readableRec 38 = true ∧ 38 < Try.prog.types.size := ⟨by kernel_rfl, of_decide_eq_true (by kernel_rfl)⟩
theorem cellsI : Try.prog.cellsOf 38 = 5 := by kernel_rfl
theorem inp_stays {H : Type} {enc : TypeId × Value → H} {W W' : World} {v : Value} {d : DataW H} {p : List MemPlace} (h : DataW.Trod enc Try.prog W 0 (fun _ => true) true 38 v d p) (hlt : ∀ x ∈ p, x.block < W.heap.size) (hg : Kb 0 W W') : DataW.Trod enc Try.prog W' 0 (fun b => decide (b < W.heap.size)) true 38 v d p := by
  obtain ⟨fuel, hf⟩ := h
  refine ⟨fuel, DataW.trod_stays (kids_book laidOut rInp.1) (book_sized rInp.1) (fun h => by cases h) ⟨rInp.2, book_self 38⟩ hf (fun x hx => ?_) (fun x hx => by simpa using hlt x hx)⟩
  have hb := hlt x hx
  cases x with
  | cell b o => exact World.cell?_of_block (w := W) (hg.block b (Nat.zero_le _) hb)
  | map b => exact hg.block b (Nat.zero_le _) hb
section
variable {H : Type} {enc : TypeId × Value → H} {w : World} {base : Nat} {sp : Nat → Bool} {held : Bool}
theorem read_input {cs : Array Value} {d : DataW H} {p : List MemPlace} (hcz : cs.size = 5) (h : DataW.Trod enc Try.prog w base sp held 38 (.agg cs) d p) (hz : Sz 38 d) : ∃ (va vl : Value) (n q : Nat) (A L : Nat → ByteArray) (T D C : Int), (Value.agg cs) = .agg #[va, vl, .int .i64 T, .int .i64 D, .int .i64 C] ∧ RowB 0 w va n (fun i => .string (A i)) ∧ RowB 0 w vl q (fun i => .string (L i)) ∧ (n : Int) < 140737488355328 ∧ (q : Int) < 140737488355328 ∧ (∀ i, i < n → ((A i).size : Int) < 140737488355328) ∧ (∀ i, i < q → ((L i).size : Int) < 140737488355328) := by
  obtain ⟨fuel, hf⟩ := h
  obtain ⟨xs, n, _, hx, hl, hxl, hfi⟩ := DataW.trod_struct Try.underlying38 hf
  have hd := congrArg Prod.fst hx
  dsimp only at hd
  subst hd
  obtain ⟨l⟩ := cs
  match l, hcz with
  | [c0, c1, c2, c3, c4], _ =>
    match xs, hxl with
    | [y0, y1, y2, y3, y4], _ =>
      have t0 := hfi 0 _ rfl
      have t1 := hfi 1 _ rfl
      have t2 := hfi 2 _ rfl
      have t3 := hfi 3 _ rfl
      have t4 := hfi 4 _ rfl
      simp [Value.cells, cells3, cells35] at t0 t1 t2 t3 t4
      obtain ⟨va, n, A, e0, ra, sa, sa'⟩ := read_strs t0 (fun n hn => hz n (by simp [DataW.weights, Try.underlying38, DataW.weightsEach, hn]))
      obtain ⟨vl, q, L, e1, rl, sl, sl'⟩ := read_strs t1 (fun n hn => hz n (by simp [DataW.weights, Try.underlying38, DataW.weightsEach, hn]))
      obtain ⟨z2, e2, _, g2⟩ := DataW.trod_int Try.underlying3 t2
      obtain ⟨z3, e3, _, g3⟩ := DataW.trod_int Try.underlying3 t3
      obtain ⟨z4, e4, _, g4⟩ := DataW.trod_int Try.underlying3 t4
      simp only [List.cons.injEq, and_true] at e0 e1 e2 e3 e4
      subst e0 e1 e2 e3 e4
      exact ⟨_, _, n, q, A, L, z2, z3, z4, rfl, ra.rowB, rl.rowB, sa, sl, sa', sl'⟩
end
end Go.Proofs.Ytieccnkabllamaa.Fo
