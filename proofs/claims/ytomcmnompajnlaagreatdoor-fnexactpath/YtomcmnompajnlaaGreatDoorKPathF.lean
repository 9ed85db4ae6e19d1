import Derived.Test.YtomcmnompajnlaaGreatDoorKSheetOkF
namespace Go.Proofs.YtomcmnompajnlaaGreatDoor.fnExactPath
set_option linter.unusedVariables false
theorem k1 : (Rows.fnExactPathRow.wf (OpenSpec.ofChange (OpenSpec.ofChange Rows.fnExactPathSpec).bare)) = true := by kernel_rfl
theorem k2 : (laidOutB Tryz.pinned.checked.prog) = true := fnExactSheetOk.k2
theorem k3 : (mapsRowed Tryz.pinned.checked.prog) = true := fnExactSheetOk.k3
theorem k4 : (Tryz.f4.params.all (Tryz.pinned.checked.prog.readableRec ·)) = true := by kernel_rfl
theorem k5 : (namedTie Tryz.pinned.checked.prog Rows.fnExactPathRow.named (OpenSpec.ofChange Rows.fnExactPathSpec).bare.vars) = true := by kernel_rfl
theorem k6 : ((Rows.fnExactPathRow.stops == [])) = true := by kernel_rfl
theorem k7 : ((Tryz.pinned.checked.prog.stops == [])) = true := fnExactSheetOk.k7
theorem k8 : ((Rows.fnExactPathRow.knobs == [])) = true := by kernel_rfl
theorem k9 : ((Tryz.pinned.checked.prog.stopKnobs == [])) = true := fnExactSheetOk.k9
theorem k10 : ((Rows.fnExactPathRow.inPlace == Tryz.pinned.checked.prog.inPlace 4)) = true := by kernel_rfl
theorem k11 : ((Rows.fnExactPathRow.unfollowed == Tryz.pinned.checked.prog.unfollowed 4)) = true := by kernel_rfl
theorem k12 : ((Rows.fnExactPathRow.recurses == Tryz.pinned.checked.prog.recurses 4)) = true := by kernel_rfl
theorem k13 : ((Rows.fnExactPathRow.named == Tryz.pinned.checked.prog.varsNamed 4)) = true := by kernel_rfl
theorem k14 : ((Rows.fnExactPathRow.maps == (Tryz.f4.params.toList ++ (OpenSpec.ofChange Rows.fnExactPathSpec).bare.plain.varTypes Tryz.pinned.checked.prog).any (Tryz.pinned.checked.prog.mapsRec ·))) = true := by kernel_rfl
theorem k15 : ((Rows.fnExactPathRow.ifaces == (Tryz.f4.params.toList ++ (OpenSpec.ofChange Rows.fnExactPathSpec).bare.plain.varTypes Tryz.pinned.checked.prog).any (Tryz.pinned.checked.prog.ifacesRec ·))) = true := by kernel_rfl
theorem k16 : ((Rows.fnExactPathRow.mapsOut == Tryz.pinned.checked.prog.mapsAmong Tryz.f4.resultTypes.toList)) = true := by kernel_rfl
theorem k17 : ((Rows.fnExactPathRow.loops == (Tryz.f4.params.toList ++ (OpenSpec.ofChange Rows.fnExactPathSpec).bare.plain.varTypes Tryz.pinned.checked.prog).any (Tryz.pinned.checked.prog.loopsFrom ·))) = true := by kernel_rfl
theorem k17b : ((Rows.fnExactPathRow.wideKeys == (Tryz.f4.params.toList ++ (OpenSpec.ofChange Rows.fnExactPathSpec).bare.plain.varTypes Tryz.pinned.checked.prog ++ Tryz.f4.resultTypes.toList).any (Tryz.pinned.checked.prog.wideKeysFrom ·))) = true := by kernel_rfl
theorem k18 : ((OpenSpec.ofChange Rows.fnExactPathSpec).bare.vars.all (Tryz.pinned.checked.prog.varReadable ·)) = true := by kernel_rfl
theorem k19 : (Tryz.f4.resultTypes.all (fun t => Tryz.pinned.checked.prog.readableRec t && decide (t < Tryz.pinned.checked.prog.types.size))) = true := by kernel_rfl
theorem k20 : ((Rows.fnExactPathRow.ifacesOut == Tryz.f4.resultTypes.toList.any (Tryz.pinned.checked.prog.ifacesRec ·))) = true := by kernel_rfl
theorem k21 : ((Rows.fnExactPathRow.loopsOut == Tryz.f4.resultTypes.toList.any (Tryz.pinned.checked.prog.loopsFrom ·))) = true := by kernel_rfl
theorem k22 : ((Rows.fnExactPathRow.plainKeys == Tryz.pinned.checked.prog.plainKeys)) = true := by kernel_rfl
theorem k23 : (Rows.fnExactPathRow.shortTexts.isNone) = true := by kernel_rfl
theorem k23b : (Tryz.pinned.checked.prog.stopsHeard) = true := fnExactSheetOk.k23b
theorem k24 : (Tryz.pinned.checked.prog.mayEnter) = true := fnExactSheetOk.k24
theorem k24b : ((Rows.fnExactPathRow.lifted == Tryz.pinned.checked.prog.liftsFinal)) = true := by kernel_rfl
theorem k24c : ((Tryz.pinned.checked.prog.make == some Rows.fnExactPathRow.make)) = true := by kernel_rfl
theorem k26 : ((Rows.fnExactPathRow.pinned == Rows.fnExactPathRow.pinnedBy)) = true := by kernel_rfl
theorem k27 : ((Rows.fnExactPathRow.veiled == (Tryz.f4.params.toList ++ (OpenSpec.ofChange Rows.fnExactPathSpec).bare.plain.varTypes Tryz.pinned.checked.prog ++ Tryz.f4.resultTypes.toList).any (Tryz.pinned.checked.prog.veiledRec ·))) = true := by kernel_rfl
theorem k28 : (Rows.fnExactPathRow.veiledFits Tryz.pinned.checked.prog Tryz.f4.params.toList (Tryz.f4.params.toList ++ (OpenSpec.ofChange Rows.fnExactPathSpec).bare.plain.varTypes Tryz.pinned.checked.prog ++ Tryz.f4.resultTypes.toList)) = true := by kernel_rfl
end Go.Proofs.YtomcmnompajnlaaGreatDoor.fnExactPath
