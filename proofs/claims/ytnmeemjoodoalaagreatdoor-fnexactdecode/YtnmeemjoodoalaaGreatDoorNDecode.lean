import Derived.Test.YtnmeemjoodoalaaGreatDoorRows
import Derived.Test.YtnmeemjoodoalaaGreatDoorCards
import Derived.Test.YtnmeemjoodoalaaGreatDoorTie
import Derived.Test.YtnmeemjoodoalaaGreatDoorNCha
import Derived.Test.YtnmeemjoodoalaaGreatDoorNEyj
import Derived.Deep.DeepHandedRow
import Derived.Lib.LaidTab
import Derived.Stop.LaidErr
set_option maxRecDepth 100000
set_option maxHeartbeats 4000000
namespace Go.Proofs.YtnmeemjoodoalaaGreatDoor.fnExactDecode
open Go.Proofs.YtnmeemjoodoalaaGreatDoor.Fo Go.ChangeShapes Go.WideShapes Go.ChangeAt Go.RowKit
set_option linter.unusedVariables false
theorem own : ownKnob Tryz.prog.godebug = none:=by kernel_rfl
theorem rowed : varsRowed Tryz.prog Rows.fnExactDecodeSpec.vars = true:=by kernel_rfl
theorem contract (H : Type) (enc : TypeId × Value → H) (W : World) (base : Nat) (args : Array Value) (ds gs : List (DataW H)) (before : List MemPlace)
    (hval : ∀ (j : Nat) t v,Tryz.f4.params[j]? = some t → args[j]? = some v → Value.okWide Tryz.prog W .any base t v)
    (hW : DataW.Whole enc Tryz.prog Tryz.f4.params.toList Rows.fnExactDecodeSpec.vars false W args.toList ds gs before)
    (hsz0 : (DataW.weightsEach Tryz.prog (Tryz.f4.params.toList ++ (OpenSpec.ofChange Rows.fnExactDecodeSpec).bare.plain.varTypes Tryz.prog) (ds ++ gs)).all (· ≤ reachBytes) = true) (hL : laidMetH Tryz.prog Rows.fnExactDecodeRow.laid W) :
    Calls Tryz.prog 4 args W fun e W'=>∃ v,e = .returned v ∧ Rows.fnExactDecodeSpec.post enc Tryz.prog Tryz.f4 false true false false W args v W':=by
  have hW':=hW
  obtain ⟨p,q,hA0,hV,rfl,hfz,hnd⟩:=hW
  have hA : DataW.TrodAll enc Tryz.prog W 0 (fun _=>true) true Tryz.f4.params.toList args.toList ds p:=hA0
  rw [Tryz.params4] at hA hval hsz0
  obtain ⟨v0,vs0,d0,ds0,p0,q0,hargs,rfl,rfl,h0,r0⟩:=trodAll_cons hA
  obtain ⟨rfl,rfl,rfl⟩:=trodAll_nil r0
  obtain rfl : args = #[v0]:=by cases args;simp_all
  obtain ⟨x1,rfl⟩:=vars_one hV
  obtain ⟨a0,n0,c0,hv0⟩:=okWide_slice Tryz.underlying26 (hval 0 26 v0 rfl rfl)
  clear hA0
  simp only [List.append_nil] at hW'
  have hlt : ∀ x ∈ p0,x.block < W.heap.size:=fun x hx=>by simpa using hW'.lt x (by simp [hx])
  obtain ⟨pa,ca,M,hv,ra⟩:=read_byts ⟨a0,n0,c0,hv0⟩ h0
  rw [hv] at h0 hW' ⊢
  have hL2 : laidMet Tryz.prog Rows.fnExactDecodeRow.laid W:=hL
  have hgd:=gd_head hL2
  refine (law_dec W hgd ra).mono fun e W' ⟨he,hg⟩=>?_
  subst he
  have hvs:=kept_vars (enc:=enc) Fo.laidOut (fun i hi=>hg.block i (Nat.zero_le _) hi) rowed hV
  exact ⟨_,rfl,_,_,_,[],p0,_,hW',(trodAll_cons_mk (shut_bool Tryz.underlying4 _) trodAll_mk0),trodAll_mk1 (byts_stays h0 hlt hg),hvs,World.keptBut_mono (fun _ f=>f.elim) hg.kept,fun h=>by cases h⟩
def put (cs : Array Value) : Obj → Obj
  | .cells _ t frozen=>.cells cs t frozen
  | o=>o
noncomputable def laidWorld (os : Os) : World :=
  { World.holding Tryz.prog os ⟨#[],#[],[]⟩ with heap:=(World.holding Tryz.prog os ⟨#[],#[],[]⟩).heap.modify 0 (put #[.int .u8 0,.int .u8 0,.int .u8 0,.int .u8 0,.int .u8 1,.int .u8 0,.int .u8 0,.int .u8 0,.int .u8 2,.int .u8 0,.int .u8 0,.int .u8 0,.int .u8 0,.int .u8 0,.int .u8 0,.int .u8 0,.int .u8 12,.int .u8 3,.int .u8 0,.int .u8 0,.int .u8 12,.int .u8 22,.int .u8 0,.int .u8 0,.int .u8 13,.int .u8 22,.int .u8 0,.int .u8 0,.int .u8 12,.int .u8 17,.int .u8 0,.int .u8 0,.int .u8 17,.int .u8 22,.int .u8 0,.int .u8 0,.int .u8 12,.int .u8 4,.int .u8 0,.int .u8 0,.int .u8 4,.int .u8 22,.int .u8 0,.int .u8 0,.int .u8 12,.int .u8 5,.int .u8 0,.int .u8 0,.int .u8 12,.int .u8 0,.int .u8 0,.int .u8 0,.int .u8 16,.int .u8 22,.int .u8 22,.int .u8 0,.int .u8 16,.int .u8 22,.int .u8 23,.int .u8 0,.int .u8 12,.int .u8 22,.int .u8 22,.int .u8 0,.int .u8 22,.int .u8 22,.int .u8 22,.int .u8 0,.int .u8 12,.int .u8 7,.int .u8 22,.int .u8 0,.int .u8 12,.int .u8 8,.int .u8 22,.int .u8 22,.int .u8 6,.int .u8 0,.int .u8 0,.int .u8 0,.int .u8 22,.int .u8 6,.int .u8 0,.int .u8 0,.int .u8 22,.int .u8 6,.int .u8 0,.int .u8 0,.int .u8 14,.int .u8 0,.int .u8 0,.int .u8 0,.int .u8 18,.int .u8 22,.int .u8 0,.int .u8 0,.int .u8 18,.int .u8 23,.int .u8 0,.int .u8 0,.int .u8 12,.int .u8 23,.int .u8 0,.int .u8 0,.int .u8 12,.int .u8 18,.int .u8 9,.int .u8 0,.int .u8 14,.int .u8 18,.int .u8 0,.int .u8 0,.int .u8 14,.int .u8 22,.int .u8 23,.int .u8 0,.int .u8 23,.int .u8 0,.int .u8 0,.int .u8 0,.int .u8 22,.int .u8 0,.int .u8 0,.int .u8 0,.int .u8 6,.int .u8 11,.int .u8 0,.int .u8 0,.int .u8 0,.int .u8 0,.int .u8 0,.int .u8 0,.int .u8 10,.int .u8 0,.int .u8 0,.int .u8 0,.int .u8 10,.int .u8 0,.int .u8 0,.int .u8 0,.int .u8 22,.int .u8 23,.int .u8 0,.int .u8 0,.int .u8 0,.int .u8 0,.int .u8 0,.int .u8 0,.int .u8 19,.int .u8 0,.int .u8 0,.int .u8 0,.int .u8 19,.int .u8 6,.int .u8 0,.int .u8 0,.int .u8 19,.int .u8 6,.int .u8 0,.int .u8 0,.int .u8 21,.int .u8 0,.int .u8 0,.int .u8 0,.int .u8 20,.int .u8 6,.int .u8 14,.int .u8 0,.int .u8 15,.int .u8 0,.int .u8 0,.int .u8 0]) }
theorem laid_met (os : Os) : laidMet Tryz.prog Rows.fnExactDecodeRow.laid ((laidWorld os).forCall (fun _ _=>0) ⟨#[],#[.slice none 0 0],[]⟩).memory :=
  laidMet_of_run' 8 (by kernel_rfl) (by kernel_rfl)
theorem reads (os : Os) {H : Type} (enc : TypeId × Value → H) : ∃ places,DataW.whole enc Tryz.prog ((laidWorld os).forCall (fun _ _=>0) ⟨#[],#[.slice none 0 0],[]⟩).memory Tryz.f4.params.toList Rows.fnExactDecodeSpec.vars false (#[.slice none 0 0] : Array Value).toList 8 = some ([.nil],[Rows.laid_loop_example_heddle_impl_instructions],places) :=
  ⟨MemPlace.row ⟨0,0,none⟩ 172,by kernel_rfl⟩
theorem lifted (os : Os) (started : os.Started) (H : Type) (enc : TypeId × Value → H) (F : Stop.Interp) :
    ReturnsInHanded {} Tryz.checked os 4 .any ((OpenSpec.ofChange Rows.fnExactDecodeSpec).preRow enc Tryz.prog Tryz.f4 Rows.fnExactDecodeRow.domain false Rows.fnExactDecodeRow.laid) (((OpenSpec.ofChange Rows.fnExactDecodeSpec).at F).post enc Tryz.prog Tryz.f4 false true false false):=by
  obtain ⟨places,hx⟩:=reads os enc
  refine returnsInHanded_of_row (C:=Tryz.checked) (s:=OpenSpec.ofChange Rows.fnExactDecodeSpec) own started (by kernel_rfl) Tryz.func4
    (witness_row_at (enc:=enc) (C:=Tryz.checked) false (laidWorld os) #[.slice none 0 0] rfl (by kernel_rfl) (by kernel_rfl) (by kernel_rfl)
      (OpenSpec.preRow_of_cond 8 hx (by kernel_rfl) (fun k hk=>by cases hk) (by kernel_rfl) (laid_met os))) ?_
  intro W base args ds gs before hval hW _ _ hsz hL _ _
  exact contract H enc W base args ds gs before hval hW hsz hL
theorem said : Rows.FnExactDecodeSaid :=
  OpenClaim.holds_of_cond 4 Tryz.f4 rfl rfl rfl rfl rfl rfl rfl ⟨rfl,rfl,rfl,rfl,rfl⟩ rfl rfl rfl rfl rfl (by kernel_rfl) Tryz.func4 (by kernel_rfl)
    (of_decide_eq_true (by kernel_rfl)) (by unfold Func.isWrapper;first | (rw [if_pos (by decide +kernel)];kernel_rfl) | (rw [if_neg (by decide +kernel)];exact ⟨rfl,rfl⟩))
    (fun os started H enc _ F=>by rw [OpenClaim.pre_eq_preRow];exact lifted os started H enc F)
theorem plain (f : FuncId) (fn : Func) (hf : Tryz.pinned.checked.prog.funcNamed "loop.example/heddle/laws.FnExactDecode" = some f) (hfn : Tryz.pinned.checked.prog.funcs[f]? = some fn) :
    false = Tryz.pinned.checked.prog.looks [] ∧ ∀ (j : Nat) t,fn.params[j]? = some t → Tryz.pinned.checked.prog.wantsStandIn t = false:=by
  obtain rfl : f = 4:=Option.some.inj ((show Tryz.prog.funcNamed "loop.example/heddle/laws.FnExactDecode" = some 4 by kernel_rfl).symm.trans hf) |>.symm
  obtain rfl : fn = Tryz.f4:=(Option.some.inj (Tryz.func4.symm.trans hfn)).symm
  refine ⟨by kernel_rfl,fun j t ht=>?_⟩
  rw [Tryz.params4] at ht
  obtain rfl : t = 26:=by simpa using Array.mem_of_getElem? ht
  exact (show Tryz.prog.wantsStandIn 26 = false by kernel_rfl)
theorem card : Rows.FnExactDecodeCardSaid :=
  Claim7.holds_tied_plain_at .later [] _ _ _ _ said (fun _ h=>by cases h) (by kernel_rfl) (fun _ h=>by cases h) fnExactDecode_row_tie rfl ⟨rfl,rfl⟩ (by kernel_rfl) rfl plain (by kernel_rfl)
#print axioms card
end Go.Proofs.YtnmeemjoodoalaaGreatDoor.fnExactDecode
