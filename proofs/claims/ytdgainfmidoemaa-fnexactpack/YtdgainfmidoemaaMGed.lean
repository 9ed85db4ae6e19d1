import Derived.Test.YtdgainfmidoemaaMGec
import Derived.Test.YtdgainfmidoemaaMGca
namespace Go.Proofs.Ytdgainfmidoemaa.Fo
open Go.ChangeShapes Go.WideShapes Go.ChangeAt Go.RowKit
set_option linter.unusedVariables false
set_option maxRecDepth 100000
set_option maxHeartbeats 8000000 in
theorem to_graph2 {a : Gv} {vn : Value} {n : Nat} {F : Nat → Td} (w : World)
    (g0 : ∀ W, Kb 0 w W → Calls Try.prog 37 #[vn] W fun e w' => ∃ v, e = .returned v ∧ RowTX W.heap.size w' (v) n F ∧ Kb 0 W w') :
    Calls Try.prog 11 #[grv a vn] w fun e w' => ∃ v0, e = .returned (grv a v0) ∧ RowTX w.heap.size w' (v0) n F ∧ Kb 0 w w' := by
  have G0 : Hid (∀ W, Kb 0 w W → Calls Try.prog 37 #[vn] W fun e w' => ∃ v, e = .returned v ∧ RowTX W.heap.size w' (v) n F ∧ Kb 0 W w') := g0
  clear g0
  unfold grv
  obtain ⟨w3, hw3⟩ : ∃ w3, w3 = ((w.alloc (.cells #[.int .i64 a.k, .int .i64 a.m, .string a.x, .int .i64 a.r, vn] 26)).alloc (.cells #[.int .i64 0, .int .i64 0, .string ⟨#[]⟩, .int .i64 0, .slice none 0 0] 32)).alloc (.cells #[.int .i64 0, .int .i64 0, .string ⟨#[]⟩, .int .i64 0, .slice none 0 0] 32) := ⟨_, rfl⟩
  have HW3 : Hid (w3 = ((w.alloc (.cells #[.int .i64 a.k, .int .i64 a.m, .string a.x, .int .i64 a.r, vn] 26)).alloc (.cells #[.int .i64 0, .int .i64 0, .string ⟨#[]⟩, .int .i64 0, .slice none 0 0] 32)).alloc (.cells #[.int .i64 0, .int .i64 0, .string ⟨#[]⟩, .int .i64 0, .slice none 0 0] 32)) := hw3
  have HB3 : Hid (w3.heap[w.heap.size]? = some (.cells #[.int .i64 a.k, .int .i64 a.m, .string a.x, .int .i64 a.r, vn] 26 (0, 0)) ∧ w3.heap[w.heap.size + 1]? = some (.cells #[.int .i64 0, .int .i64 0, .string ⟨#[]⟩, .int .i64 0, .slice none 0 0] 32 (0, 0)) ∧ w3.heap[w.heap.size + 1 + 1]? = some (.cells #[.int .i64 0, .int .i64 0, .string ⟨#[]⟩, .int .i64 0, .slice none 0 0] 32 (0, 0)) ∧ w3.heap.size = w.heap.size + 3 ∧ Kb 0 w w3) := three_new w _ _ _ _ _ _ w3 hw3
  have HV : Hid (Calls Try.prog 36 #[.agg #[.int .i64 a.k, .int .i64 a.m, .string a.x, .int .i64 a.r]] w3 fun e w' => e = .returned (.agg #[.int .i64 a.k, .int .i64 a.m, .string a.x, .int .i64 a.r]) ∧ Kb 0 w3 w') := to_val a w3
  clear hw3
  go_enter Try.func11, Try.ntmps11
  go_wp2_with fail
  rw [← (show w3 = _ from HW3)]
  clear HW3
  refine (show Calls Try.prog 36 _ w3 _ from HV).mono ?_
  rintro e x0 ⟨rfl, q0⟩
  obtain ⟨b0, b1, b2, z3, k3⟩ := (show _ ∧ _ ∧ _ ∧ w3.heap.size = w.heap.size + 3 ∧ Kb 0 w w3 from HB3)
  clear HV HB3
  have zq0 := q0.size
  replace b0 := (q0.block _ (Nat.zero_le _) (by omega)).trans b0
  replace b1 := (q0.block _ (Nat.zero_le _) (by omega)).trans b1
  replace b2 := (q0.block _ (Nat.zero_le _) (by omega)).trans b2
  have o0 : x0.cell? ⟨w.heap.size + 1 + 1, 0, none⟩ = some (.int .i64 0) := cell_of b2 rfl
  have o1 : x0.cell? ⟨w.heap.size + 1 + 1, 1, none⟩ = some (.int .i64 0) := cell_of b2 rfl
  have o2 : x0.cell? ⟨w.heap.size + 1 + 1, 2, none⟩ = some (.string ⟨#[]⟩) := cell_of b2 rfl
  have o3 : x0.cell? ⟨w.heap.size + 1 + 1, 3, none⟩ = some (.int .i64 0) := cell_of b2 rfl
  have f0 : ∀ j, x0.frozen? ⟨w.heap.size + 1 + 1, j, none⟩ = false := fun j => frozen_of b2
  obtain ⟨y0, hy0⟩ : ∃ W, W = (((x0.setCell ⟨w.heap.size + 1 + 1, 0, none⟩ (.int .i64 a.k)).setCell ⟨w.heap.size + 1 + 1, 1, none⟩ (.int .i64 a.m)).setCell ⟨w.heap.size + 1 + 1, 2, none⟩ (.string a.x)).setCell ⟨w.heap.size + 1 + 1, 3, none⟩ (.int .i64 a.r) := ⟨_, rfl⟩
  have hne0 : w.heap.size ≠ w.heap.size + 1 + 1 := by omega
  have hne1 : w.heap.size + 1 ≠ w.heap.size + 1 + 1 := by omega
  have c0 : y0.heap[w.heap.size]? = some (.cells #[.int .i64 a.k, .int .i64 a.m, .string a.x, .int .i64 a.r, vn] 26 (0, 0)) := by rw [hy0, Below.heap_setCell _ _ _ _ hne0, Below.heap_setCell _ _ _ _ hne0, Below.heap_setCell _ _ _ _ hne0, Below.heap_setCell _ _ _ _ hne0]; exact b0
  have c1 : y0.heap[w.heap.size + 1]? = some (.cells #[.int .i64 0, .int .i64 0, .string ⟨#[]⟩, .int .i64 0, .slice none 0 0] 32 (0, 0)) := by rw [hy0, Below.heap_setCell _ _ _ _ hne1, Below.heap_setCell _ _ _ _ hne1, Below.heap_setCell _ _ _ _ hne1, Below.heap_setCell _ _ _ _ hne1]; exact b1
  have c2 : y0.heap[w.heap.size + 1 + 1]? = some (.cells #[.int .i64 a.k, .int .i64 a.m, .string a.x, .int .i64 a.r, .slice none 0 0] 32 (0, 0)) := by rw [hy0]; exact set_known _ (set_known _ (set_known _ (set_known _ b2)))
  have ky : Kb 0 w y0 := by
    have hp : (w.heap.size + 1 + 1 < 0) ∨ w.heap.size ≤ w.heap.size + 1 + 1 := .inr (by omega)
    rw [hy0]; exact ((((k3.trans q0).setCell _ hp _).setCell _ hp _).setCell _ hp _).setCell _ hp _
  have zy : y0.heap.size = x0.heap.size := by rw [hy0]; simp
  have HX : Hid (y0.heap[w.heap.size + 1]? = some (.cells #[.int .i64 0, .int .i64 0, .string ⟨#[]⟩, .int .i64 0, .slice none 0 0] 32 (0, 0)) ∧ y0.heap[w.heap.size + 1 + 1]? = some (.cells #[.int .i64 a.k, .int .i64 a.m, .string a.x, .int .i64 a.r, .slice none 0 0] 32 (0, 0)) ∧ Kb 0 w y0 ∧ w.heap.size + 3 ≤ y0.heap.size) := (⟨c1, c2, ky, by omega⟩ : _ ∧ _)
  have HY : Hid (y0 = (((x0.setCell ⟨w.heap.size + 1 + 1, 0, none⟩ (.int .i64 a.k)).setCell ⟨w.heap.size + 1 + 1, 1, none⟩ (.int .i64 a.m)).setCell ⟨w.heap.size + 1 + 1, 2, none⟩ (.string a.x)).setCell ⟨w.heap.size + 1 + 1, 3, none⟩ (.int .i64 a.r)) := hy0
  have n4 : y0.cell? ⟨w.heap.size, 4, none⟩ = some vn := cell_of c0 rfl
  clear b0 b1 b2 z3 k3 q0 zq0 hy0 hne0 hne1 c0 c1 c2 ky zy
  go_upto_region 3 with fail
  rw [← (show y0 = _ from HY)]
  clear HY o0 o1 o2 o3 f0
  obtain ⟨b1, b2, ky, z3⟩ := (show _ ∧ _ ∧ Kb 0 w y0 ∧ w.heap.size + 3 ≤ y0.heap.size from HX)
  have HC : Hid (Calls Try.prog 37 #[vn] y0 fun e w' => ∃ v, e = .returned v ∧ RowTX y0.heap.size w' (v) n F ∧ Kb 0 y0 w') := (show ∀ W, Kb 0 w W → _ from G0) y0 ky
  clear b1 b2 ky z3 G0
  go_wp2_with fail
  refine (show Calls Try.prog 37 #[vn] y0 _ from HC).mono ?_
  rintro e x1 ⟨v0, rfl, r0, q1⟩
  clear HC n4
  obtain ⟨b1, b2, ky, z3⟩ := (show _ ∧ _ ∧ Kb 0 w y0 ∧ w.heap.size + 3 ≤ y0.heap.size from HX)
  clear HX
  have zq1 := q1.size
  replace b1 := (q1.block _ (Nat.zero_le _) (by omega)).trans b1
  replace b2 := (q1.block _ (Nat.zero_le _) (by omega)).trans b2
  obtain ⟨p0, l0, rfl, _⟩ := id r0.1
  have s0 := r0.mono (show w.heap.size + 3 ≤ y0.heap.size by omega)
  have KW := ky.trans q1
  have e0 : x1.cell? ⟨w.heap.size + 1 + 1, 0, none⟩ = some (.int .i64 a.k) := cell_of b2 rfl
  have e1 : x1.cell? ⟨w.heap.size + 1 + 1, 1, none⟩ = some (.int .i64 a.m) := cell_of b2 rfl
  have e2 : x1.cell? ⟨w.heap.size + 1 + 1, 2, none⟩ = some (.string a.x) := cell_of b2 rfl
  have e3 : x1.cell? ⟨w.heap.size + 1 + 1, 3, none⟩ = some (.int .i64 a.r) := cell_of b2 rfl
  have e4 : x1.cell? ⟨w.heap.size + 1 + 1, 4, none⟩ = some (.slice none 0 0) := cell_of b2 rfl
  have fz : x1.frozen? ⟨w.heap.size + 1 + 1, 4, none⟩ = false := frozen_of b2
  have a0 : x1.cell? ⟨w.heap.size + 1, 0, none⟩ = some (.int .i64 0) := cell_of b1 rfl
  have a1 : x1.cell? ⟨w.heap.size + 1, 1, none⟩ = some (.int .i64 0) := cell_of b1 rfl
  have a2 : x1.cell? ⟨w.heap.size + 1, 2, none⟩ = some (.string ⟨#[]⟩) := cell_of b1 rfl
  have a3 : x1.cell? ⟨w.heap.size + 1, 3, none⟩ = some (.int .i64 0) := cell_of b1 rfl
  have a4 : x1.cell? ⟨w.heap.size + 1, 4, none⟩ = some (.slice none 0 0) := cell_of b1 rfl
  have fy : ∀ j, x1.frozen? ⟨w.heap.size + 1, j, none⟩ = false := fun j => frozen_of b1
  have HE : Hid (Kb 0 w x1 ∧ RowTX (w.heap.size + 3) x1 (.slice p0 n l0) n F) := (⟨KW, s0⟩ : _ ∧ _)
  clear KW s0 b1 b2 r0 q1 zq1 z3 ky
  go_wp2_with fail
  refine bodyPost_ret (by simp [results, Try.results11, go_sem, a0, a1, a2, a3, a4]; rfl) rfl ?_
  obtain ⟨KW, s0⟩ := (show Kb 0 w x1 ∧ RowTX (w.heap.size + 3) x1 (.slice p0 n l0) n F from HE)
  clear HE
  have h1 : w.heap.size + 1 + 1 < w.heap.size + 3 ∨ x1.heap.size ≤ w.heap.size + 1 + 1 := .inl (by omega)
  have h2 : w.heap.size + 1 < w.heap.size + 3 ∨ x1.heap.size ≤ w.heap.size + 1 := .inl (by omega)
  have h3 : w.heap.size + 1 + 1 < 0 ∨ w.heap.size ≤ w.heap.size + 1 + 1 := .inr (by omega)
  have h4 : w.heap.size + 1 < 0 ∨ w.heap.size ≤ w.heap.size + 1 := .inr (by omega)
  have hq := (((((((Kb.refl (w.heap.size + 3) x1).setCell ⟨w.heap.size + 1 + 1, 4, none⟩ h1 (.slice p0 n l0)).setCell ⟨w.heap.size + 1, 0, none⟩ h2 (.int .i64 a.k)).setCell ⟨w.heap.size + 1, 1, none⟩ h2 (.int .i64 a.m)).setCell ⟨w.heap.size + 1, 2, none⟩ h2 (.string a.x)).setCell ⟨w.heap.size + 1, 3, none⟩ h2 (.int .i64 a.r)).setCell ⟨w.heap.size + 1, 4, none⟩ h2 (.slice p0 n l0))
  have hk := (((((((KW).setCell ⟨w.heap.size + 1 + 1, 4, none⟩ h3 (.slice p0 n l0)).setCell ⟨w.heap.size + 1, 0, none⟩ h4 (.int .i64 a.k)).setCell ⟨w.heap.size + 1, 1, none⟩ h4 (.int .i64 a.m)).setCell ⟨w.heap.size + 1, 2, none⟩ h4 (.string a.x)).setCell ⟨w.heap.size + 1, 3, none⟩ h4 (.int .i64 a.r)).setCell ⟨w.heap.size + 1, 4, none⟩ h4 (.slice p0 n l0))
  exact ⟨_, rfl, (s0.keep hq).mono (by omega), hk⟩
end Go.Proofs.Ytdgainfmidoemaa.Fo
