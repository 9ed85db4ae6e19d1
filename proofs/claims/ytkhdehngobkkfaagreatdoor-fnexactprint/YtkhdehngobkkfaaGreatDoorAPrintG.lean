import Derived.Test.YtkhdehngobkkfaaGreatDoorAPrintF
namespace Go.Proofs.YtkhdehngobkkfaaGreatDoor.fnExactPrint
set_option linter.unusedVariables false
theorem closed:joinedFacts Tryz.pinned.checked.prog 3 Tryz.f3 (OpenSpec.ofChange Rows.fnExactPrintSpec).bare Rows.fnExactPrintRow=true:=by
 unfold joinedFacts;rw[k1,k2,k3,k4,k5,k6,k7,k8,k9,k10,k11,k12,k13,k14,k15,k16,k17,k17b,k18,k19,k20,k21,k22,k23,k23b,k24,k24b,k24c,k26,k27,k28]
 kernel_rfl
