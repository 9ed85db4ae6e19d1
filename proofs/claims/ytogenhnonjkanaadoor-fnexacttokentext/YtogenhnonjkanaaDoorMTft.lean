import Derived.Shelf.Spec.TrailingZeros
import Derived.Test.YtogenhnonjkanaaDoorProg
namespace Go.Proofs
open Go.Shelf
def Tryd.lays727_ren : Go.Shelf.Ren := ⟨fun | 27 => 87 | 28 => 94 | 29 => 95 | n => n, fun | 25 => 65 | 3 => 3 | 27 => 101 | 22 => 64 | 4 => 4 | 53 => 110 | 0 => 0 | 5 => 5 | 54 => 111 | n => n, fun | 0 => 4 | 1 => 5 | n => n⟩
theorem Tryd.lays727 : Go.Proofs.Lays7.n27 Tryd.prog Tryd.lays727_ren := {
  mixed := by kernel_rfl
  f27 := Tryd.func87.trans (congrArg some (by kernel_rfl))
  f28 := Tryd.func94.trans (congrArg some (by kernel_rfl))
  f29 := Tryd.func95.trans (congrArg some (by kernel_rfl))
  t0 := Tryd.underlying0
  a0 := Tryd.isAgg0
  z0 := Tryd.sizeOf0
  v0 := Tryd.zeroValue0
  i0 := by kernel_rfl
  t3 := Tryd.underlying3
  a3 := Tryd.isAgg3
  z3 := Tryd.sizeOf3
  v3 := Tryd.zeroValue3
  i3 := by kernel_rfl
  t4 := Tryd.underlying4
  a4 := Tryd.isAgg4
  z4 := Tryd.sizeOf4
  v4 := Tryd.zeroValue4
  i4 := by kernel_rfl
  t5 := Tryd.underlying5
  a5 := Tryd.isAgg5
  z5 := Tryd.sizeOf5
  v5 := Tryd.zeroValue5
  i5 := by kernel_rfl
  t22 := Tryd.underlying64
  a22 := Tryd.isAgg64
  z22 := Tryd.sizeOf64
  v22 := Tryd.zeroValue64
  i22 := by kernel_rfl
  t25 := Tryd.underlying65
  a25 := Tryd.isAgg65
  z25 := Tryd.sizeOf65
  v25 := Tryd.zeroValue65
  i25 := by kernel_rfl
  t27 := Tryd.underlying101
  a27 := Tryd.isAgg101
  z27 := Tryd.sizeOf101
  v27 := Tryd.zeroValue101
  i27 := by kernel_rfl
  t53 := Tryd.underlying110
  a53 := Tryd.isAgg110
  z53 := Tryd.sizeOf110
  v53 := Tryd.zeroValue110
  i53 := by kernel_rfl
  t54 := Tryd.underlying111
  a54 := Tryd.isAgg111
  z54 := Tryd.sizeOf111
  g0 := by kernel_rfl
  g1 := by kernel_rfl }
end Go.Proofs
