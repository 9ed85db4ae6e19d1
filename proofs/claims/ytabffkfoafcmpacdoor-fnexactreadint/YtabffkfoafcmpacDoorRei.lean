import Derived.Test.YtabffkfoafcmpacDoorRec
import Derived.Test.YtabffkfoafcmpacDoorRee
import Derived.Test.YtabffkfoafcmpacDoorRef
import Derived.Test.YtabffkfoafcmpacDoorReg
import Derived.Lib.IfaceNeq
import Derived.Lib.IfaceEq
namespace Go.Proofs.YtabffkfoafcmpacDoor
open Go.ChangeShapes Go.WideShapes Go.ChangeAt Go.RowKit
set_option linter.unusedVariables false
theorem uint_any (b : Nat) (hb : 2 ≤ b) (hb2 : b ≤ 36) (T : ByteArray) (L : List UInt8) (hT : T.data.toList = L) (hlen : L.length ≤ 1200) (hd : ∀ c ∈ L, dv c < b) (hne : 0 < L.length) (w : World) :
    Calls Tryd.prog 33 #[.string T, .int .i64 (b : Int), .int .i64 64] w fun e w' => e = .returned (unt (rd b 0 L)) ∧ w' = Lib.bytesWorld w 5 T := by
  by_cases h10 : b = 10
  · subst h10; exact uint_10 T L hT hlen hd hne w
  · by_cases h16 : b = 16
    · subst h16; exact uint_16 T L hT hlen hd hne w
    · exact uint_gen b hb hb2 (by simp; omega) (by simp; omega) T L hT hlen hd hne w
/-- what ParseInt answers: the number, or an error -/
def pint (p : Int × Int) (s : Int) : Value := if p.1 = 0 then .tuple #[.int .i64 p.2, .nilIface] else .tuple #[.int .i64 s, .iface 52 (.int .i64 1)]
theorem neq11 (W : World) : (binOp .neq 40 (.iface 52 (.int .i64 1)) (.iface 52 (.int .i64 1))).run Tryd.prog W = .ok (.bool false) W :=
  Lib.run_neq_iface_int W 1 1 Tryd.underlying40 (by kernel_rfl) Tryd.underlying52
theorem hmin : wrap64 (-wrap64 9223372036854775808) = -9223372036854775808 := by decide +kernel
end Go.Proofs.YtabffkfoafcmpacDoor
