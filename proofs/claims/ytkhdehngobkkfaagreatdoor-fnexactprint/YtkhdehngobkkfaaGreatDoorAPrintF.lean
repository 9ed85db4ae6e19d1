import Derived.Test.YtkhdehngobkkfaaGreatDoorRows
import Derived.JoinedCond
namespace Go.Proofs.YtkhdehngobkkfaaGreatDoor.fnExactPrint
set_option linter.unusedVariables false
theorem k1:(Rows.fnExactPrintRow.wf (OpenSpec.ofChange (OpenSpec.ofChange Rows.fnExactPrintSpec).bare))=true:=by kernel_rfl
theorem k2:(laidOutB Tryz.pinned.checked.prog)=true:=by kernel_rfl
theorem k3:(mapsRowed Tryz.pinned.checked.prog)=true:=by kernel_rfl
theorem k4:(Tryz.f3.params.all (Tryz.pinned.checked.prog.readableRec ·))=true:=by kernel_rfl
theorem k5:(namedTie Tryz.pinned.checked.prog Rows.fnExactPrintRow.named (OpenSpec.ofChange Rows.fnExactPrintSpec).bare.vars)=true:=by kernel_rfl
theorem k6:((Rows.fnExactPrintRow.stops==[]))=true:=by kernel_rfl
theorem k7:((Tryz.pinned.checked.prog.stops==[]))=true:=by kernel_rfl
theorem k8:((Rows.fnExactPrintRow.knobs==[]))=true:=by kernel_rfl
theorem k9:((Tryz.pinned.checked.prog.stopKnobs==[]))=true:=by kernel_rfl
theorem k10:((Rows.fnExactPrintRow.inPlace==Tryz.pinned.checked.prog.inPlace 3))=true:=by kernel_rfl
theorem k11:((Rows.fnExactPrintRow.unfollowed==Tryz.pinned.checked.prog.unfollowed 3))=true:=by kernel_rfl
theorem k12:((Rows.fnExactPrintRow.recurses==Tryz.pinned.checked.prog.recurses 3))=true:=by kernel_rfl
theorem k13:((Rows.fnExactPrintRow.named==Tryz.pinned.checked.prog.varsNamed 3))=true:=by kernel_rfl
theorem k14:((Rows.fnExactPrintRow.maps==(Tryz.f3.params.toList++(OpenSpec.ofChange Rows.fnExactPrintSpec).bare.plain.varTypes Tryz.pinned.checked.prog).any (Tryz.pinned.checked.prog.mapsRec ·)))=true:=by kernel_rfl
theorem k15:((Rows.fnExactPrintRow.ifaces==(Tryz.f3.params.toList++(OpenSpec.ofChange Rows.fnExactPrintSpec).bare.plain.varTypes Tryz.pinned.checked.prog).any (Tryz.pinned.checked.prog.ifacesRec ·)))=true:=by kernel_rfl
theorem k16:((Rows.fnExactPrintRow.mapsOut==Tryz.pinned.checked.prog.mapsAmong Tryz.f3.resultTypes.toList))=true:=by kernel_rfl
theorem k17:((Rows.fnExactPrintRow.loops==(Tryz.f3.params.toList++(OpenSpec.ofChange Rows.fnExactPrintSpec).bare.plain.varTypes Tryz.pinned.checked.prog).any (Tryz.pinned.checked.prog.loopsFrom ·)))=true:=by kernel_rfl
theorem k17b:((Rows.fnExactPrintRow.wideKeys==(Tryz.f3.params.toList++(OpenSpec.ofChange Rows.fnExactPrintSpec).bare.plain.varTypes Tryz.pinned.checked.prog++Tryz.f3.resultTypes.toList).any (Tryz.pinned.checked.prog.wideKeysFrom ·)))=true:=by kernel_rfl
theorem k18:((OpenSpec.ofChange Rows.fnExactPrintSpec).bare.vars.all (Tryz.pinned.checked.prog.varReadable ·))=true:=by kernel_rfl
theorem k19:(Tryz.f3.resultTypes.all (λt=>Tryz.pinned.checked.prog.readableRec t && decide (t<Tryz.pinned.checked.prog.types.size)))=true:=by kernel_rfl
theorem k20:((Rows.fnExactPrintRow.ifacesOut==Tryz.f3.resultTypes.toList.any (Tryz.pinned.checked.prog.ifacesRec ·)))=true:=by kernel_rfl
theorem k21:((Rows.fnExactPrintRow.loopsOut==Tryz.f3.resultTypes.toList.any (Tryz.pinned.checked.prog.loopsFrom ·)))=true:=by kernel_rfl
theorem k22:((Rows.fnExactPrintRow.plainKeys==Tryz.pinned.checked.prog.plainKeys))=true:=by kernel_rfl
theorem k23:(Rows.fnExactPrintRow.shortTexts.isNone)=true:=by kernel_rfl
theorem k23b:(Tryz.pinned.checked.prog.stopsHeard)=true:=by kernel_rfl
theorem k24:(Tryz.pinned.checked.prog.mayEnter)=true:=by kernel_rfl
theorem k24b:((Rows.fnExactPrintRow.lifted==Tryz.pinned.checked.prog.liftsFinal))=true:=by kernel_rfl
theorem k24c:((Tryz.pinned.checked.prog.make==some Rows.fnExactPrintRow.make))=true:=by kernel_rfl
theorem k26:((Rows.fnExactPrintRow.pinned==Rows.fnExactPrintRow.pinnedBy))=true:=by kernel_rfl
theorem k27:((Rows.fnExactPrintRow.veiled==(Tryz.f3.params.toList++(OpenSpec.ofChange Rows.fnExactPrintSpec).bare.plain.varTypes Tryz.pinned.checked.prog++Tryz.f3.resultTypes.toList).any (Tryz.pinned.checked.prog.veiledRec ·)))=true:=by kernel_rfl
theorem k28:(Rows.fnExactPrintRow.veiledFits Tryz.pinned.checked.prog Tryz.f3.params.toList (Tryz.f3.params.toList++(OpenSpec.ofChange Rows.fnExactPrintSpec).bare.plain.varTypes Tryz.pinned.checked.prog++Tryz.f3.resultTypes.toList))=true:=by kernel_rfl
