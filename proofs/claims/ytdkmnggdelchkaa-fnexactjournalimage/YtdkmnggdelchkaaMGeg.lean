import Derived.Test.YtdkmnggdelchkaaMGef
namespace Go.Proofs.Ytdkmnggdelchkaa.Fo
open Go.ChangeShapes Go.WideShapes Go.ChangeAt Go.RowKit
set_option linter.unusedVariables false
set_option maxRecDepth 100000
/-- five cells of the result are written -/
structure S5E (w W : World) (A : Gv) (v : Value) (m : Nat) (Fc : Nat → Td) : Prop where
  b : (s5 W (w.heap.size + 1) A.k A.m A.x A.r v).heap[w.heap.size + 1]? = some (.cells #[.int .i64 A.k, .int .i64 A.m, .string A.x, .int .i64 A.r, v] 53 (0, 0))
  r : RowT w.heap.size (s5 W (w.heap.size + 1) A.k A.m A.x A.r v) v m Fc
  k : Kb 0 w (s5 W (w.heap.size + 1) A.k A.m A.x A.r v)
theorem s5_end {w W : World} {A : Gv} {v : Value} {m : Nat} {Fc : Nat → Td} (kW : Kb 0 w W) (hs : w.heap.size + 2 ≤ W.heap.size) (hr : RowT (w.heap.size + 2) W v m Fc) (hbW : W.heap[w.heap.size + 1]? = some (.cells #[.int .i64 0, .int .i64 0, .string ⟨#[]⟩, .int .i64 0, .slice none 0 0] 53 (0, 0))) : S5E w W A v m Fc := by
  obtain ⟨X, hX⟩ : ∃ X, X = s5 W (w.heap.size + 1) A.k A.m A.x A.r v := ⟨_, rfl⟩
  have hf : ∀ g, g ≠ w.heap.size + 1 → X.heap[g]? = W.heap[g]? := fun g hg => by rw [hX]; exact s5_far _ _ _ _ _ _ hg
  have hz : X.heap.size = W.heap.size := by rw [hX]; exact s5_size _ _ _ _ _ _ _
  have ho : X.os = W.os := by rw [hX]; unfold s5 s4; rfl
  have hu : X.output = W.output := by rw [hX]; unfold s5 s4; rfl
  have k1 : Kb (w.heap.size + 2) W X := ⟨ho, hu, by omega, fun g hg _ => hf g (by omega)⟩
  have k2 : Kb 0 w X := ⟨ho.trans kW.os, hu.trans kW.output, by have := kW.size; omega, fun g _ hg => (hf g (by omega)).trans (kW.block g (Nat.zero_le _) hg)⟩
  have r1 : RowT w.heap.size X v m Fc := (hr.keep k1).mono (by omega)
  refine ⟨s5_known hbW _ _ _ _ _, ?_, ?_⟩
  · rw [← hX]; exact r1
  · rw [← hX]; exact k2
end Go.Proofs.Ytdkmnggdelchkaa.Fo
