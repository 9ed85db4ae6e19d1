import Derived.Test.YtaoagjajjeddcaaBac
import Derived.Laws.MakeOwn
namespace Go.Proofs.Ytaoagjajjeddcaa.Fo
open Go.ChangeShapes Go.WideShapes Go.ChangeAt Go.RowKit
set_option linter.unusedVariables false
theorem lt_of_cell' {w : World} {p : Addr} {v : Value} (h : w.cell? p = some v) : p.block < w.heap.size := by
  rcases Nat.lt_or_ge p.block w.heap.size with hl | hl
  · exact hl
  · exfalso
    simp [World.cell?, Array.getElem?_eq_none hl] at h
theorem add_block (a : Addr) (i : Nat) : (a.add i).block = a.block := by
  unfold Addr.add
  split <;> rfl
theorem made_cell (w : World) (z : Value) (e n : Nat) (hz : z.cells = #[z]) (j : Nat) (hj : j < n) : (w.alloc (.cells (madeCells z.cells (n * 1)) e)).cell? ⟨w.heap.size, j, none⟩ = some z := by
  have hs : j < (madeCells z.cells (n * 1)).size := by rw [size_madeCells]; omega
  have hg : (madeCells z.cells n)[j]? = some z := by simp [madeCells, hz, hj, Nat.mod_one]
  simpa using hg
theorem made_fz (w : World) (c : Array Value) (e j : Nat) : (w.alloc (.cells c e)).frozen? ⟨w.heap.size, j, none⟩ = false := by
  simp
end Go.Proofs.Ytaoagjajjeddcaa.Fo
