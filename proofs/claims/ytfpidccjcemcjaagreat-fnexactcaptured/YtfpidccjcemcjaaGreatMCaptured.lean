import Derived.Test.YtfpidccjcemcjaaGreatRows
import Derived.Test.YtfpidccjcemcjaaGreatMNrg
import Derived.Test.YtfpidccjcemcjaaGreatMOda
set_option maxRecDepth 100000
set_option maxHeartbeats 4000000
namespace Go.Proofs.YtfpidccjcemcjaaGreat.fnExactCaptured
open Go.Proofs.YtfpidccjcemcjaaGreat.Fo Go.ChangeShapes Go.WideShapes Go.ChangeAt Go.RowKit
set_option linter.unusedVariables false
theorem own:ownKnob Tryz.prog.godebug=none:=by kernel_rfl
theorem lifted (os : Os) (started : os.Started) (H : Type) (enc : TypeId × Value → H) :
  ReturnsInHanded {} Tryz.checked os 3 .any (Rows.fnExactCapturedSpec.pre6 enc Tryz.prog Tryz.f3 Rows.fnExactCapturedRow.domain false) (Rows.fnExactCapturedSpec.post enc Tryz.prog Tryz.f3 false true false false):=by
 refine returnsInHanded_of_change_sized (C:=Tryz.checked) own started (by kernel_rfl) Tryz.func3
  (ChangeSpec.witness6 (enc:=enc) (C:=Tryz.checked) false ⟨#[],#[.agg #[.slice none 0 0],.int .i64 0],[]⟩ 8 (by kernel_rfl) (by kernel_rfl) (by kernel_rfl) (by kernel_rfl)) ?_
 intro W base args ds gs before hval0 hW _ hsz0 _
 have hsz:(DataW.weightsEach Tryz.prog (Tryz.f3.params.toList ++ Rows.fnExactCapturedSpec.plain.varTypes Tryz.prog) (ds ++ gs)).all (· ≤ reachBytes)=true:=hsz0
 clear hsz0
 have hval:∀ (j:Nat) t v,Tryz.f3.params[j]? = some t→args[j]? = some v→Value.okWide Tryz.prog W .any base t v:=hval0
 have hW':=hW
 obtain ⟨p,q,hA0,hV,rfl,hfz,hnd⟩:=hW
 have hA:DataW.TrodAll enc Tryz.prog W 0 (fun _=>true) true Tryz.f3.params.toList args.toList ds p:=hA0
 rw [Tryz.params3] at hA hval hsz
 obtain ⟨v0,vs0,d0,ds0,p0,q0,hargs,rfl,rfl,h0,r0⟩:=trodAll_cons hA
 obtain ⟨o0,vt0,e0,dt0,pp0,qq0,rfl,rfl,rfl,ho0,rr0⟩:=trodAll_cons r0
 obtain ⟨rfl,rfl,rfl⟩:=trodAll_nil rr0
 obtain rfl:args = #[v0,o0]:=by cases args;simp_all
 obtain ⟨rfl,rfl⟩:=trodVars_none hV
 obtain ⟨tt,rfl,rfl,rfl,wop⟩:=open_int Tryz.underlying3 (hval 1 3 o0 rfl rfl) ho0
 have hsd:Sz 24 d0:=by
  intro n hn
  exact of_decide_eq_true (List.all_eq_true.1 hsz n (DataW.weights_mem_each (j:=0) (t:=24) (d:=d0) rfl rfl n hn))
 obtain ⟨cs,rfl,hcz⟩:=okWide_struct Tryz.underlying24 (hval 0 24 v0 rfl rfl)
 clear hA0 hval0
 simp only [List.append_nil] at hW'
 have hlt:∀ x ∈ p0,x.block < W.heap.size:=fun x hx=>by simpa using hW'.lt x (by simpa using hx)
 rw [cellsUn] at hcz
 obtain ⟨va,nf,F,hv,ra,sa,sa'⟩:=read_unit hcz h0 hsd
 rw [hv] at h0 hW' ⊢
 obtain ⟨pa,ca,rfl,-⟩:=id ra
 refine (law_cap W tt (fun W v h b=>sp_captured W tt (fun W v h b=>sp_cu W h b) h b) (fun W v _ h b=>im_captured W tt (fun W v h b=>im_cu W h b) h b) ra sa sa').mono fun e W' ⟨he,hg⟩=>?_
 subst he
 exact ⟨_,rfl,_,_,_,[],p0,[],hW',(trodAll_cons_mk (shut_bool Tryz.underlying4 _) trodAll_mk0),(by have h:=trodAll_cons_mk (uni_stays h0 hlt hg) (trodAll_mk1 (shut_int Tryz.underlying3 wop));rw [List.append_nil] at h;exact h),rfl,World.keptBut_mono (fun _ f=>f.elim) hg.kept,fun h=>by cases h⟩
theorem over:Rows.fnExactCapturedRow.holds Tryz.pinned (OpenSpec.ofChange Rows.fnExactCapturedSpec) :=
 OpenClaim.holds_of_wide 3 Tryz.f3 rfl rfl rfl rfl rfl rfl rfl ⟨rfl,rfl,rfl,rfl,rfl⟩ rfl rfl rfl rfl rfl (by kernel_rfl) Tryz.func3 (by kernel_rfl)
  (of_decide_eq_true (by kernel_rfl)) (by unfold Func.isWrapper;first | (rw [if_pos (by decide +kernel)];kernel_rfl) | (rw [if_neg (by decide +kernel)];exact ⟨rfl,rfl⟩))
  (fun os started H enc _=>lifted os started H enc)
theorem proved:Rows.FnExactCapturedSaid :=
 over
#print axioms proved
end Go.Proofs.YtfpidccjcemcjaaGreat.fnExactCaptured
