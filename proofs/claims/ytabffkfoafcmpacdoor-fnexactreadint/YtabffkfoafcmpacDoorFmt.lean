import Derived.Test.YtabffkfoafcmpacDoorWri
import Derived.Laws.IdiomStrings
import Derived.Laws.BitsAllLaws
import Derived.Lib.ItoaWalk
namespace Go.Proofs.YtabffkfoafcmpacDoor
open Go.ChangeShapes Go.WideShapes Go.ChangeAt Go.RowKit
set_option linter.unusedVariables false
theorem Grown.trans {a b c : World} (h : Grown a b) (g : Grown b c) : Grown a c :=
  ⟨World.keptBut_trans h.1 g.1, fun x => (g.2.1 x).trans (h.2.1 x), Nat.le_trans h.2.2 g.2.2⟩
/-- the row of bytes that is being written, from its end -/
structure Row (w wr : World) (i : Nat) (S : List UInt8) : Prop where
  grown : Grown w wr
  cell : ∀ j, j < 65 → ∃ z : Int, wr.cell? ⟨w.heap.size, j, none⟩ = some (.int .u8 z)
  free : ∀ j, j < 65 → wr.frozen? ⟨w.heap.size, j, none⟩ = false
  row : ∀ j (hj : j < S.length), wr.cell? ⟨w.heap.size, i + j, none⟩ = some (.int .u8 (S[j].toNat : Int))
theorem Row.store {w wr : World} {k : Nat} {S : List UInt8} (h : Row w wr (k + 1) S) (hk : k < 65) (c : UInt8) : Row w (wr.setCell ⟨w.heap.size, k, none⟩ (.int .u8 (c.toNat : Int))) k (c :: S) := by
  obtain ⟨z, hz⟩ := h.cell k hk
  refine ⟨Grown.setCell h.grown (Nat.le_refl _) _, fun j hj => ?_, fun j hj => ?_, fun j hj => ?_⟩
  · by_cases e : j = k
    · subst e
      exact ⟨_, World.cell?_setCell_same _ _ _ hz⟩
    · rw [World.cell?_setCell_other _ _ _ _ (by simp <;> omega)]
      exact h.cell j hj
  · rw [World.frozen?_setCell]
    exact h.free j hj
  · cases j with
    | zero => exact World.cell?_setCell_same _ _ _ hz
    | succ j =>
      rw [World.cell?_setCell_other _ _ _ _ (by simp <;> omega)]
      have := h.row j (by simpa using hj)
      rw [show k + (j + 1) = k + 1 + j by omega]
      simpa using this
theorem idx (r : Nat) (hr : r < 36) (w : World) : (Instr.index 9 (.string ⟨#[48, 49, 50, 51, 52, 53, 54, 55, 56, 57, 97, 98, 99, 100, 101, 102, 103, 104, 105, 106, 107, 108, 109, 110, 111, 112, 113, 114, 115, 116, 117, 118, 119, 120, 121, 122]⟩) (.int .u64 (r : Int))).run Tryd.prog w = .ok (.int .u8 ((dg r).toNat : Int)) w := by
  have hs : ((⟨#[48, 49, 50, 51, 52, 53, 54, 55, 56, 57, 97, 98, 99, 100, 101, 102, 103, 104, 105, 106, 107, 108, 109, 110, 111, 112, 113, 114, 115, 116, 117, 118, 119, 120, 121, 122]⟩ : ByteArray)).size = 36 := by decide
  rw [run_index_string w 9 ⟨#[48, 49, 50, 51, 52, 53, 54, 55, 56, 57, 97, 98, 99, 100, 101, 102, 103, 104, 105, 106, 107, 108, 109, 110, 111, 112, 113, 114, 115, 116, 117, 118, 119, 120, 121, 122]⟩ .u64 _ Tryd.underlying9, dif_pos ⟨by omega, by rw [hs]; omega⟩]
  have e : ((r : Int)).toNat = r := by omega
  simp only [e]
  rw [Lib.getD_at _ r (by rw [hs]; exact hr)]
  rfl
end Go.Proofs.YtabffkfoafcmpacDoor
