import Derived.Test.YtiojjejphdhpeaaMDcc
import Derived.Test.YtiojjejphdhpeaaMDcz
import Derived.Test.YtiojjejphdhpeaaMKab
namespace Go.Proofs.Ytiojjejphdhpeaa.Fo
open Go.ChangeShapes Go.WideShapes Go.ChangeAt Go.RowKit
set_option linter.unusedVariables false
set_option maxRecDepth 100000
/-- the cells of n pages -/
def pgs (P : Nat → Nat → Int) : Nat → List Value
  | 0 => []
  | n + 1 => pgs P n ++ pgl (P n)
theorem pgs_len (P : Nat → Nat → Int) : ∀ n, (pgs P n).length = n * 64
  | 0 => rfl
  | n + 1 => by rw [pgs, List.length_append, pgs_len P n, pgl_len, Nat.add_mul, Nat.one_mul]
theorem pgs_at (P : Nat → Nat → Int) (j : Nat) (hj : j < 64) : ∀ n i, i < n → (pgs P n)[i * 64 + j]? = some (.int .u8 (P i j))
  | 0, i, h => by omega
  | n + 1, i, h => by
    rw [pgs]
    rcases Nat.lt_or_ge i n with q | q
    · rw [List.getElem?_append_left (by rw [pgs_len]; omega)]
      exact pgs_at P j hj n i q
    · obtain rfl : i = n := by omega
      rw [List.getElem?_append_right (by rw [pgs_len]; omega), pgs_len, Nat.add_sub_cancel_left]
      exact pgl_at _ j hj
theorem pgs_page (P : Nat → Nat → Int) {n i : Nat} (h : i < n) : (pgs P n).toArray.extract (i * 64) (i * 64 + 64) = (pgl (P i)).toArray := by
  have hl : (pgs P n).toArray.size = n * 64 := by rw [List.size_toArray]; exact pgs_len P n
  have h1 : (i + 1) * 64 ≤ n * 64 := Nat.mul_le_mul_right 64 h
  apply Array.ext_getElem?
  intro j
  rw [Array.getElem?_extract, hl]
  by_cases hj : j < 64
  · rw [if_pos (by omega), List.getElem?_toArray, List.getElem?_toArray, pgs_at P j hj n i h, pgl_at _ j hj]
  · rw [if_neg (by omega), List.getElem?_toArray, List.getElem?_eq_none (by rw [pgl_len]; omega)]
theorem und_pages : Try.prog.underlying 121 = some (.array 258 92) := by kernel_rfl
theorem info_pages : (Try.prog.info? 121).map (·.size) = some 16512 := by kernel_rfl
theorem agg_page (w : World) : (isAgg 92).run Try.prog w = .ok true w := by
  unfold isAgg
  rw [Sem.run_bind, run_underlying und_page w]
  rfl
theorem size_page (w : World) : (sizeOf 92).run Try.prog w = .ok 64 w := by
  cases hq : Try.prog.info? 92 with
  | none => have := infoP; rw [hq] at this; cases this
  | some i =>
    have hs : i.size = 64 := by have := infoP; rw [hq] at this; simpa using this
    simp [sizeOf, typeInfo, Sem.run_bind, hq, hs]
theorem run_page (P : Nat → Nat → Int) {i : Nat} (h : i < 258) (w : World) : (Instr.index 121 (.agg (pgs P 258).toArray) (.int .i64 (i : Int))).run Try.prog w = .ok (.agg (pgl (P i)).toArray) w := by
  have hc : 0 ≤ (i : Int) ∧ (i : Int) < ((258 : Nat) : Int) := by omega
  have hp : (part 92 (pgs P 258).toArray (i * 64)).run Try.prog w = .ok (.agg (pgl (P i)).toArray) w := by
    unfold part
    simp only [Sem.run_bind, agg_page, size_page, Result.andThen_ok, if_true, Sem.run_pure, pgs_page P h]
  unfold Instr.index
  simp only [asIntOf, Sem.run_bind, Sem.run_pure, Result.andThen_ok, run_underlying und_pages w]
  rw [if_pos hc]
  simp only [Sem.run_bind, size_page, Result.andThen_ok, Int.toNat_natCast]
  exact hp
theorem exec_load_mid {P : Program} {o : Oper} {a : Act} {w : World} (ty : TypeId) (x : Operand) (ho : o.op = .load ty x) (b f : Nat) (hx : a.eval x = .pointer (some ⟨b, f, none⟩)) (cs : List Value) (d : TypeDesc) (hc : w.rangeAt b f cs) (hu : P.underlying ty = some d) (hd : d.isRow = true) (hi : (P.info? ty).map (·.size) = some cs.length) : (execOp a.eval o).run P w = .ok (.value (.agg cs.toArray)) w := by
  unfold execOp
  simp only [ho, hx, Instr.loadAt, Instr.sureAddr, Sem.run_bind, Sem.run_pure, Result.andThen_ok, run_loadVar_mid w b f ty cs d hc hu hd hi]
/-- the blocks of a drive's pages -/
def pE (P : Nat → Nat → Int) : Nat → Ed := fun i => ⟨false, 0, 64, P i⟩
theorem own_page2 {W W' : World} {P : Nat → Nat → Int} {i : Nat} (h : W' = W.alloc (.cells (pgl (P i)).toArray 92)) : OwnR W' (.slice (some ⟨W.heap.size, 0, none⟩) 64 64) W.heap.size (pE P i).c (ub (pE P i).A) := own_page h
/-- a page in a block of its own -/
theorem page_new (W : World) (A : Nat → Int) (W5 : World) (h : W5 = (W.alloc (.cells Z64 92)).setCells W.heap.size 0 (pgl A)) : (W.alloc (.cells Z64 92)).there W.heap.size 0 (pgl A).toArray.size ∧ Kb 0 W W5 ∧ W5.rangeAt W.heap.size 0 (pgl A) ∧ W5.heap.size = W.heap.size + 1 := by
  have b1 : (W.alloc (.cells Z64 92)).heap[W.heap.size]? = some (.cells Z64 92 (0, 0)) := alloc_new _ _ _
  have t1 : (W.alloc (.cells Z64 92)).there W.heap.size 0 64 := there_blk b1 0 64 (by show 0 + 64 ≤ 64; omega)
  obtain ⟨g1, g2, g3, g4⟩ := setCells_frame W.heap.size (pgl A) 0 (W.alloc (.cells Z64 92))
  rw [← h] at g1 g2 g3 g4
  have ka := kb_alloc 0 W (.cells Z64 92)
  refine ⟨(by rw [pgl_len]; exact t1 : (W.alloc (.cells Z64 92)).there W.heap.size 0 (pgl A).length), ⟨g1.trans ka.os, g2.trans ka.output, by rw [g3]; exact ka.size, fun q h1 h2 => (g4 q (by omega)).trans (ka.block q h1 h2)⟩, ?_, by rw [g3, World.size_alloc]⟩
  rw [h]
  exact World.rangeAt_setCells_same _ _ _ _ (by rw [pgl_len]; exact t1)
end Go.Proofs.Ytiojjejphdhpeaa.Fo
