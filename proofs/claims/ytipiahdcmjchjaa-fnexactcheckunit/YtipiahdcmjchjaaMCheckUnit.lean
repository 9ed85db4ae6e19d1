import Derived.Test.YtipiahdcmjchjaaRows
import Derived.Test.YtipiahdcmjchjaaMNrg
set_option maxRecDepth 100000
set_option maxHeartbeats 4000000
namespace Go.Proofs.Ytipiahdcmjchjaa.fnExactCheckUnit
open Go.Proofs.Ytipiahdcmjchjaa.Fo Go.ChangeShapes Go.WideShapes Go.ChangeAt Go.RowKit
set_option linter.unusedVariables false
theorem own : ownKnob Try.prog.godebug = none:=by kernel_rfl
theorem lifted (os : Os) (started : os.Started) (H : Type) (enc : TypeId × Value → H) :
    ReturnsInHanded {} Try.checked os 3 .any (Rows.fnExactCheckUnitSpec.pre6 enc Try.prog Try.f3 Rows.fnExactCheckUnitRow.domain false) (Rows.fnExactCheckUnitSpec.post enc Try.prog Try.f3 false true false false):=by
  refine returnsInHanded_of_change_sized (C:=Try.checked) own started (by kernel_rfl) Try.func3
    (ChangeSpec.witness6 (enc:=enc) (C:=Try.checked) false ⟨#[],#[.agg #[.slice none 0 0]],[]⟩ 8 (by kernel_rfl) (by kernel_rfl) (by kernel_rfl) (by kernel_rfl)) ?_
  intro W base args ds gs before hval0 hW _ hsz0 _
  have hsz : (DataW.weightsEach Try.prog (Try.f3.params.toList ++ Rows.fnExactCheckUnitSpec.plain.varTypes Try.prog) (ds ++ gs)).all (· ≤ reachBytes) = true:=hsz0
  clear hsz0
  have hval : ∀ (j : Nat) t v,Try.f3.params[j]? = some t → args[j]? = some v → Value.okWide Try.prog W .any base t v:=hval0
  have hW':=hW
  obtain ⟨p,q,hA0,hV,rfl,hfz,hnd⟩:=hW
  have hA : DataW.TrodAll enc Try.prog W 0 (fun _=>true) true Try.f3.params.toList args.toList ds p:=hA0
  rw [Try.params3] at hA hval hsz
  obtain ⟨v0,vs0,d0,ds0,p0,q0,hargs,rfl,rfl,h0,r0⟩:=trodAll_cons hA
  obtain ⟨rfl,rfl,rfl⟩:=trodAll_nil r0
  obtain rfl : args = #[v0]:=by cases args;simp_all
  obtain ⟨rfl,rfl⟩:=trodVars_none hV
  have hsd : Sz 24 d0:=by
    intro n hn
    exact of_decide_eq_true (List.all_eq_true.1 hsz n (DataW.weights_mem_each (j:=0) (t:=24) (d:=d0) rfl rfl n hn))
  obtain ⟨cs,rfl,hcz⟩:=okWide_struct Try.underlying24 (hval 0 24 v0 rfl rfl)
  clear hA0 hval0
  simp only [List.append_nil] at hW'
  have hlt : ∀ x ∈ p0,x.block < W.heap.size:=fun x hx=>by simpa using hW'.lt x (by simpa using hx)
  rw [cellsUn] at hcz
  obtain ⟨va,nf,F,hv,ra,sa,sa'⟩:=read_unit hcz h0 hsd
  rw [hv] at h0 hW' ⊢
  obtain ⟨pa,ca,rfl,-⟩:=id ra
  refine (law_cu (fun _ _ _ _ _ _ h k=>Ans.uniq h k) (fun W v h b=>sp_cu W h b) (fun W v h b=>im_cu W h b) W ra sa sa').mono fun e W' ⟨he,hg⟩=>?_
  subst he
  exact ⟨_,rfl,_,_,_,[],p0,[],hW',(trodAll_cons_mk (shut_bool Try.underlying4 _) trodAll_mk0),trodAll_mk1 (uni_stays h0 hlt hg),rfl,World.keptBut_mono (fun _ f=>f.elim) hg.kept,fun h=>by cases h⟩
theorem over : Rows.fnExactCheckUnitRow.holds Try.pinned (OpenSpec.ofChange Rows.fnExactCheckUnitSpec) :=
  OpenClaim.holds_of_wide 3 Try.f3 rfl rfl rfl rfl rfl rfl rfl ⟨rfl,rfl,rfl,rfl,rfl⟩ rfl rfl rfl rfl rfl (by kernel_rfl) Try.func3 (by kernel_rfl)
    (of_decide_eq_true (by kernel_rfl)) (by unfold Func.isWrapper;first | (rw [if_pos (by decide +kernel)];kernel_rfl) | (rw [if_neg (by decide +kernel)];exact ⟨rfl,rfl⟩))
    (fun os started H enc _=>lifted os started H enc)
theorem proved : Rows.FnExactCheckUnitSaid :=
  over
#print axioms proved
end Go.Proofs.Ytipiahdcmjchjaa.fnExactCheckUnit
