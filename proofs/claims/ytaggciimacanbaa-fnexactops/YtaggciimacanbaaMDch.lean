import Derived.Test.YtaggciimacanbaaMDcf
import Derived.Test.YtaggciimacanbaaMDag
namespace Go.Proofs.Ytaggciimacanbaa.Fo
open Go.ChangeShapes Go.WideShapes Go.ChangeAt Go.RowKit
set_option linter.unusedVariables false
set_option maxRecDepth 100000
end Go.Proofs.Ytaggciimacanbaa.Fo

namespace Go.Proofs.Ytaggciimacanbaa.Fo
open Go.ChangeShapes Go.WideShapes Go.ChangeAt Go.RowKit
set_option linter.unusedVariables false
set_option maxRecDepth 100000
theorem Kb.mkB {a w w' : World} {b : Nat} {S : Nat → Prop} (h : Kb b a w) (k : Kq S w w') (hS : ∀ q, S q → q < b ∨ a.heap.size ≤ q) : Kb b a w' :=
  ⟨k.os.trans h.os, k.output.trans h.output, Nat.le_trans h.size k.size, fun q h1 h2 => (k.block q (Nat.lt_of_lt_of_le h2 h.size) (fun hs => by rcases hS q hs with e | e <;> omega)).trans (h.block q h1 h2)⟩
theorem Kb.low {a w : World} {b c : Nat} (h : Kb b a w) (hc : b ≤ c) : Kb c a w := ⟨h.os, h.output, h.size, fun q h1 h2 => h.block q (Nat.le_trans hc h1) h2⟩
theorem bl_sz : dsz blD = 16770 := by kernel_rfl
theorem bl_bd : BdD blD := bd_of (by rw [bl_sz]; omega)
end Go.Proofs.Ytaggciimacanbaa.Fo
