import Derived.Great.Walk
import Derived.Test.YtaggciimacanbaaMDce
namespace Go.Proofs.Ytaggciimacanbaa.Fo
open Go.ChangeShapes Go.WideShapes Go.ChangeAt Go.RowKit
set_option linter.unusedVariables false
set_option maxRecDepth 100000
theorem pgl_zero : pgl (fun _ => 0) = List.replicate 64 (.int .u8 0) := by
  rw [← z64_pg]
  unfold Z64
  rw [Array.toList_replicate]
theorem pgs_zero : ∀ n, pgs (fun _ _ => 0) n = List.replicate (n * 64) (.int .u8 0)
  | 0 => rfl
  | n + 1 => by rw [pgs, pgs_zero n, pgl_zero, List.replicate_append_replicate, Nat.add_mul, Nat.one_mul]
theorem exec_drv {o : Oper} {a : Act} {w : World} {ZD : Array Value} (ho : o.op = .alloc 124) (hZ : ZD = (List.replicate 16512 (Value.int .u8 0) ++ [Value.slice none 0 0]).toArray) : (execOp a.eval o).run Try.prog w = .ok (.value (.pointer (some ⟨w.heap.size, 0, none⟩))) (w.alloc (.cells ZD 124)) := by
  obtain ⟨i, hi, hz⟩ := chk_eq drv_zero
  rw [← hZ] at hz
  have h1 : (zeroValue 124).run Try.prog w = .ok (.agg ZD) w := by
    simp only [zeroValue, typeInfo, Sem.run_bind, run_program, Result.andThen_ok, hi, Sem.run_pure, hz]
  have h2 : (Instr.alloc 124 true (.tuple #[])).run Try.prog w = .ok (.pointer (some ⟨w.heap.size, 0, none⟩)) (w.alloc (.cells ZD 124)) := by
    simp only [Instr.alloc, Sem.run_bind, h1, Result.andThen_ok, newVar, newRow, run_newObj_alloc, Sem.run_pure, Value.cells]
  unfold execOp
  simp only [ho, Sem.run_bind, h2, Result.andThen_ok, Sem.run_pure]
/-- a drive that is new -/
theorem drv_new {W : World} {b : Nat} {ZD : Array Value} (hZ : ZD = (List.replicate 16512 (Value.int .u8 0) ++ [Value.slice none 0 0]).toArray) (h : W.heap[b]? = some (.cells ZD 124 (0, 0))) : W.rangeAt b 0 (pgs (fun _ _ => 0) 258) ∧ W.cell? ⟨b, 16512, none⟩ = some (.slice none 0 0) := by
  constructor
  · intro j v hv
    rw [pgs_zero] at hv
    have hj : j < 258 * 64 := by
      have := (List.getElem?_eq_some_iff.1 hv).1
      rw [List.length_replicate] at this
      exact this
    rw [Nat.zero_add]
    refine cell_of h ?_
    rw [hZ, List.getElem?_toArray, List.getElem?_append_left (by rw [List.length_replicate]; omega)]
    exact hv
  · refine cell_of h ?_
    rw [hZ, List.getElem?_toArray, List.getElem?_append_right (by rw [List.length_replicate]; omega), List.length_replicate]
    rfl
theorem bl_pe : blD = ⟨258, pE (fun _ _ => 0), 0, fun _ => zE⟩ := rfl
end Go.Proofs.Ytaggciimacanbaa.Fo
