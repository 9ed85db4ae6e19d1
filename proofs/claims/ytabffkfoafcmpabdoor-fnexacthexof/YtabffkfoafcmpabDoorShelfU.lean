import Derived.Shelf.Spec.TrailingZeros
import Derived.Test.YtabffkfoafcmpabDoorProg
namespace Go.Proofs
open Go.Shelf
def Tryd.lays727_ren : Go.Shelf.Ren := ⟨fun | 27 => 39 | 28 => 40 | 29 => 15 | n => n, fun | 25 => 32 | 3 => 3 | 27 => 58 | 22 => 29 | 4 => 4 | 53 => 62 | 0 => 0 | 5 => 5 | 54 => 46 | n => n, fun | 0 => 3 | 1 => 1 | n => n⟩
theorem Tryd.lays727 : Go.Proofs.Lays7.n27 Tryd.prog Tryd.lays727_ren := {
  mixed := by kernel_rfl
  f27 := Tryd.func39.trans (congrArg some (by kernel_rfl))
  f28 := Tryd.func40.trans (congrArg some (by kernel_rfl))
  f29 := Tryd.func15.trans (congrArg some (by kernel_rfl))
  t0 := Tryd.underlying0
  a0 := Tryd.isAgg0
  z0 := Tryd.sizeOf0
  v0 := Tryd.zeroValue0
  i0 := by kernel_rfl
  t3 := Tryd.underlying3
  a3 := Tryd.isAgg3
  z3 := Tryd.sizeOf3
  v3 := Tryd.zeroValue3
  i3 := by kernel_rfl
  t4 := Tryd.underlying4
  a4 := Tryd.isAgg4
  z4 := Tryd.sizeOf4
  v4 := Tryd.zeroValue4
  i4 := by kernel_rfl
  t5 := Tryd.underlying5
  a5 := Tryd.isAgg5
  z5 := Tryd.sizeOf5
  v5 := Tryd.zeroValue5
  i5 := by kernel_rfl
  t22 := Tryd.underlying29
  a22 := Tryd.isAgg29
  z22 := Tryd.sizeOf29
  v22 := Tryd.zeroValue29
  i22 := by kernel_rfl
  t25 := Tryd.underlying32
  a25 := Tryd.isAgg32
  z25 := Tryd.sizeOf32
  v25 := Tryd.zeroValue32
  i25 := by kernel_rfl
  t27 := Tryd.underlying58
  a27 := Tryd.isAgg58
  z27 := Tryd.sizeOf58
  v27 := Tryd.zeroValue58
  i27 := by kernel_rfl
  t53 := Tryd.underlying62
  a53 := Tryd.isAgg62
  z53 := Tryd.sizeOf62
  v53 := Tryd.zeroValue62
  i53 := by kernel_rfl
  t54 := Tryd.underlying46
  a54 := Tryd.isAgg46
  z54 := Tryd.sizeOf46
  g0 := by kernel_rfl
  g1 := by kernel_rfl }
end Go.Proofs
