import Derived.Test.YtabffkfoafcmpacDoorReb
import Derived.Lib.ConvBytes
import Derived.Lib.AtoiErrMem
import Derived.Lib.AtoiAllMem
import Derived.Laws.Closers25
import Derived.Laws.Closers25b
import Derived.BigCall
import Derived.BigGuard
namespace Go.Proofs.YtabffkfoafcmpacDoor
open Go.ChangeShapes Go.WideShapes Go.ChangeAt Go.RowKit
set_option linter.unusedVariables false
/-- what ParseUint answers -/
def unt : Option Nat → Value
  | some v => .tuple #[.int .u64 (v : Int), .nilIface]
  | none => .tuple #[.int .u64 18446744073709551615, .iface 52 (.int .i64 1)]
theorem low26 : ∀ i : Fin 26, bits .or .u8 ((i.val + 97 : Nat) : Int) 32 = ((i.val + 97 : Nat) : Int) := by decide +kernel
theorem low_at (n : Nat) (h : 97 ≤ n) (h2 : n ≤ 122) : bits .or .u8 (n : Int) 32 = (n : Int) := by
  have := low26 ⟨n - 97, by omega⟩
  have e : n - 97 + 97 = n := by omega
  simp only [e] at this
  exact this
theorem empT (R : ByteArray) (h : 0 < R.size) : R.toList.isEmpty = false := by
  rw [← decide_eq_emptyBytes]
  exact decide_eq_false (fun g => by rw [g] at h; simp at h)
end Go.Proofs.YtabffkfoafcmpacDoor
