import Derived.Test.YtgicahpcbakhpaaDoorRows
import Derived.Test.YtgicahpcbakhpaaDoorCards
import Derived.Test.YtgicahpcbakhpaaDoorTie
import Derived.Test.YtgicahpcbakhpaaDoorMCjd
import Derived.Deep.DeepHandedRow
import Derived.Lib.LaidTab
import Derived.Stop.LaidErr
set_option maxRecDepth 100000
set_option maxHeartbeats 4000000
namespace Go.Proofs.YtgicahpcbakhpaaDoor.fnExactCheckShape
open Go.Proofs.YtgicahpcbakhpaaDoor.Fo Go.ChangeShapes Go.WideShapes Go.ChangeAt Go.RowKit
set_option linter.unusedVariables false
theorem own : ownKnob Tryd.prog.godebug = none:=by kernel_rfl
theorem rowed : varsRowed Tryd.prog Rows.fnExactCheckShapeSpec.vars = true:=by kernel_rfl
theorem contract (H : Type) (enc : TypeId × Value → H) (W : World) (base : Nat) (args : Array Value) (ds gs : List (DataW H)) (before : List MemPlace)
    (hval : ∀ (j : Nat) t v,Tryd.f3.params[j]? = some t → args[j]? = some v → Value.okWide Tryd.prog W .any base t v)
    (hW : DataW.Whole enc Tryd.prog Tryd.f3.params.toList Rows.fnExactCheckShapeSpec.vars false W args.toList ds gs before)
    (hsz0 : (DataW.weightsEach Tryd.prog (Tryd.f3.params.toList ++ (OpenSpec.ofChange Rows.fnExactCheckShapeSpec).bare.plain.varTypes Tryd.prog) (ds ++ gs)).all (· ≤ reachBytes) = true) (hL : laidMetH Tryd.prog Rows.fnExactCheckShapeRow.laid W) :
    Calls Tryd.prog 3 args W fun e W'=>∃ v,e = .returned v ∧ Rows.fnExactCheckShapeSpec.post enc Tryd.prog Tryd.f3 false true false false W args v W':=by
  have hW':=hW
  obtain ⟨p,q,hA0,hV,rfl,hfz,hnd⟩:=hW
  have hA : DataW.TrodAll enc Tryd.prog W 0 (fun _=>true) true Tryd.f3.params.toList args.toList ds p:=hA0
  rw [Tryd.params3] at hA hval hsz0
  obtain ⟨v0,vs0,d0,ds0,p0,q0,hargs,rfl,rfl,h0,r0⟩:=trodAll_cons hA
  obtain ⟨rfl,rfl,rfl⟩:=trodAll_nil r0
  obtain rfl : args = #[v0]:=by cases args;simp_all
  obtain ⟨x1,rfl⟩:=vars_one (a := "loop.example/heddle/impl.instructions") hV
  have hsz : (DataW.weightsEach Tryd.prog ([24] ++ (OpenSpec.ofChange Rows.fnExactCheckShapeSpec).bare.plain.varTypes Tryd.prog) ([d0] ++ [x1])).all (· ≤ reachBytes) = true:=hsz0
  have hsd : Fo.Sz 24 d0:=by
    intro n hn
    exact of_decide_eq_true (List.all_eq_true.1 hsz n (DataW.weights_mem_each (j:=0) (t:=24) (d:=d0) rfl rfl n hn))
  obtain ⟨cs,rfl,hcz⟩:=okWide_struct Tryd.underlying24 (hval 0 24 v0 rfl rfl)
  clear hA0
  simp only [List.append_nil] at hW'
  have hlt : ∀ x ∈ p0,x.block < W.heap.size:=fun x hx=>by simpa using hW'.lt x (by simp [hx])
  rw [cellsCd] at hcz
  obtain ⟨va,nf,F,hv,ra,sa,sa'⟩:=read_code hcz h0 hsd
  rw [hv] at h0 hW' ⊢
  obtain ⟨pa,ca,rfl,-⟩:=id ra
  have hL2 : laidMet Tryd.prog Rows.fnExactCheckShapeRow.laid W:=hL
  have hgd:=gd_laid hL2
  refine (law_cs W (fun _ _ _ _ _ _ h k=>Ans.uniq h k) (fun W2 v h b=>by
    obtain ⟨pa2,ca2,rfl,hp2⟩:=h
    exact sp_shape W2 hp2 b) (fun W2 v k h b=>im_shape W2 (hgd.keep k) h b) ra sa sa').mono fun e W' ⟨he,hg⟩=>?_
  subst he
  have hvs:=kept_vars (enc:=enc) Fo.laidOut (fun i hi=>hg.block i (Nat.zero_le _) hi) rowed hV
  exact ⟨_,rfl,_,_,_,[],p0,_,hW',(trodAll_cons_mk (shut_bool Tryd.underlying4 _) trodAll_mk0),trodAll_mk1 (code_stays h0 hlt hg),hvs,World.keptBut_mono (fun _ f=>f.elim) hg.kept,fun h=>by cases h⟩
def put (cs : Array Value) : Obj → Obj
  | .cells _ t frozen=>.cells cs t frozen
  | o=>o
noncomputable def laidWorld (os : Os) : World :=
  { World.holding Tryd.prog os ⟨#[],#[],[]⟩ with heap:=(World.holding Tryd.prog os ⟨#[],#[],[]⟩).heap.modify 0 (put #[.int .u8 0,.int .u8 0,.int .u8 0,.int .u8 0,.int .u8 1,.int .u8 0,.int .u8 0,.int .u8 0,.int .u8 2,.int .u8 0,.int .u8 0,.int .u8 0,.int .u8 0,.int .u8 0,.int .u8 0,.int .u8 0,.int .u8 12,.int .u8 3,.int .u8 0,.int .u8 0,.int .u8 12,.int .u8 22,.int .u8 0,.int .u8 0,.int .u8 13,.int .u8 22,.int .u8 0,.int .u8 0,.int .u8 12,.int .u8 17,.int .u8 0,.int .u8 0,.int .u8 17,.int .u8 22,.int .u8 0,.int .u8 0,.int .u8 12,.int .u8 4,.int .u8 0,.int .u8 0,.int .u8 4,.int .u8 22,.int .u8 0,.int .u8 0,.int .u8 12,.int .u8 5,.int .u8 0,.int .u8 0,.int .u8 12,.int .u8 0,.int .u8 0,.int .u8 0,.int .u8 16,.int .u8 22,.int .u8 22,.int .u8 0,.int .u8 16,.int .u8 22,.int .u8 23,.int .u8 0,.int .u8 12,.int .u8 22,.int .u8 22,.int .u8 0,.int .u8 22,.int .u8 22,.int .u8 22,.int .u8 0,.int .u8 12,.int .u8 7,.int .u8 22,.int .u8 0,.int .u8 12,.int .u8 8,.int .u8 22,.int .u8 22,.int .u8 6,.int .u8 0,.int .u8 0,.int .u8 0,.int .u8 22,.int .u8 6,.int .u8 0,.int .u8 0,.int .u8 22,.int .u8 6,.int .u8 0,.int .u8 0,.int .u8 14,.int .u8 0,.int .u8 0,.int .u8 0,.int .u8 18,.int .u8 22,.int .u8 0,.int .u8 0,.int .u8 18,.int .u8 23,.int .u8 0,.int .u8 0,.int .u8 12,.int .u8 23,.int .u8 0,.int .u8 0,.int .u8 12,.int .u8 18,.int .u8 9,.int .u8 0,.int .u8 14,.int .u8 18,.int .u8 0,.int .u8 0,.int .u8 14,.int .u8 22,.int .u8 23,.int .u8 0,.int .u8 23,.int .u8 0,.int .u8 0,.int .u8 0,.int .u8 22,.int .u8 0,.int .u8 0,.int .u8 0,.int .u8 6,.int .u8 11,.int .u8 0,.int .u8 0,.int .u8 0,.int .u8 0,.int .u8 0,.int .u8 0,.int .u8 10,.int .u8 0,.int .u8 0,.int .u8 0,.int .u8 10,.int .u8 0,.int .u8 0,.int .u8 0,.int .u8 22,.int .u8 23,.int .u8 0,.int .u8 0,.int .u8 0,.int .u8 0,.int .u8 0,.int .u8 0,.int .u8 19,.int .u8 0,.int .u8 0,.int .u8 0,.int .u8 19,.int .u8 6,.int .u8 0,.int .u8 0,.int .u8 19,.int .u8 6,.int .u8 0,.int .u8 0,.int .u8 21,.int .u8 0,.int .u8 0,.int .u8 0,.int .u8 20,.int .u8 6,.int .u8 14,.int .u8 0,.int .u8 15,.int .u8 0,.int .u8 0,.int .u8 0]) }
theorem laid_met (os : Os) : laidMet Tryd.prog Rows.fnExactCheckShapeRow.laid ((laidWorld os).forCall (fun _ _=>0) ⟨#[],#[.agg #[.slice none 0 0]],[]⟩).memory :=
  laidMet_of_run' 8 (by kernel_rfl) (by kernel_rfl)
theorem reads (os : Os) {H : Type} (enc : TypeId × Value → H) : ∃ places,DataW.whole enc Tryd.prog ((laidWorld os).forCall (fun _ _=>0) ⟨#[],#[.agg #[.slice none 0 0]],[]⟩).memory Tryd.f3.params.toList Rows.fnExactCheckShapeSpec.vars false (#[.agg #[.slice none 0 0]] : Array Value).toList 8 = some ([.agg [.nil]],[.agg (itb.map (Lib.tabData .u8))],places) :=
  ⟨MemPlace.row ⟨0,0,none⟩ 172,by kernel_rfl⟩
theorem lifted (os : Os) (started : os.Started) (H : Type) (enc : TypeId × Value → H) (F : Stop.Interp) :
    ReturnsInHanded {} Tryd.checked os 3 .any ((OpenSpec.ofChange Rows.fnExactCheckShapeSpec).preRow enc Tryd.prog Tryd.f3 Rows.fnExactCheckShapeRow.domain false Rows.fnExactCheckShapeRow.laid) (((OpenSpec.ofChange Rows.fnExactCheckShapeSpec).at F).post enc Tryd.prog Tryd.f3 false true false false):=by
  obtain ⟨places,hx⟩:=reads os enc
  refine returnsInHanded_of_row (C:=Tryd.checked) (s:=OpenSpec.ofChange Rows.fnExactCheckShapeSpec) own started (by kernel_rfl) Tryd.func3
    (witness_row_at (enc:=enc) (C:=Tryd.checked) false (laidWorld os) #[.agg #[.slice none 0 0]] rfl (by kernel_rfl) (by kernel_rfl) (by kernel_rfl)
      (OpenSpec.preRow_of_cond 8 hx (by kernel_rfl) (fun k hk=>by cases hk) (by kernel_rfl) (laid_met os))) ?_
  intro W base args ds gs before hval hW _ _ hsz hL _ _
  exact contract H enc W base args ds gs before hval hW hsz hL
theorem said : Rows.FnExactCheckShapeSaid :=
  OpenClaim.holds_of_cond 3 Tryd.f3 rfl rfl rfl rfl rfl rfl rfl ⟨rfl,rfl,rfl,rfl,rfl⟩ rfl rfl rfl rfl rfl (by kernel_rfl) Tryd.func3 (by kernel_rfl)
    (of_decide_eq_true (by kernel_rfl)) (by unfold Func.isWrapper;first | (rw [if_pos (by decide +kernel)];kernel_rfl) | (rw [if_neg (by decide +kernel)];exact ⟨rfl,rfl⟩))
    (fun os started H enc _ F=>by rw [OpenClaim.pre_eq_preRow];exact lifted os started H enc F)
theorem plain (f : FuncId) (fn : Func) (hf : Tryd.pinned.checked.prog.funcNamed "loop.example/heddle/laws.FnExactCheckShape" = some f) (hfn : Tryd.pinned.checked.prog.funcs[f]? = some fn) :
    false = Tryd.pinned.checked.prog.looks [] ∧ ∀ (j : Nat) t,fn.params[j]? = some t → Tryd.pinned.checked.prog.wantsStandIn t = false:=by
  obtain rfl : f = 3:=Option.some.inj ((show Tryd.prog.funcNamed "loop.example/heddle/laws.FnExactCheckShape" = some 3 by kernel_rfl).symm.trans hf) |>.symm
  obtain rfl : fn = Tryd.f3:=(Option.some.inj (Tryd.func3.symm.trans hfn)).symm
  refine ⟨by kernel_rfl,fun j t ht=>?_⟩
  rw [Tryd.params3] at ht
  obtain rfl : t = 24:=by simpa using Array.mem_of_getElem? ht
  exact (show Tryd.prog.wantsStandIn 24 = false by kernel_rfl)
theorem card : Rows.FnExactCheckShapeCardSaid :=
  Claim7.holds_tied_plain_at .later [] _ _ _ _ said (fun _ h=>by cases h) (by kernel_rfl) (fun _ h=>by cases h) fnExactCheckShape_row_tie rfl ⟨rfl,rfl⟩ (by kernel_rfl) rfl plain (by kernel_rfl)
#print axioms card
end Go.Proofs.YtgicahpcbakhpaaDoor.fnExactCheckShape
