import Derived.Test.YtohbcpfjjimdnaaGreatDoorCards
import Derived.Test.YtohbcpfjjimdnaaGreatDoorTie
import Derived.Test.YtohbcpfjjimdnaaGreatDoorMTnl
import Derived.Test.YtohbcpfjjimdnaaGreatDoorMTqh
import Derived.Deep.DeepHandedRow
import Derived.Stop.LaidErr
set_option maxRecDepth 100000
set_option maxHeartbeats 4000000
namespace Go.Proofs.YtohbcpfjjimdnaaGreatDoor.fnExactStates
open Go.Proofs.YtohbcpfjjimdnaaGreatDoor.Fo Go.ChangeShapes Go.WideShapes Go.ChangeAt Go.RowKit
set_option linter.unusedVariables false
theorem own:ownKnob Tryz.prog.godebug=none:=by kernel_rfl
theorem rowed:varsRowed Tryz.prog Rows.fnExactStatesSpec.vars=true:=by kernel_rfl
theorem contract(H:Type)(enc:TypeId×Value->H)(W:World)(base:Nat)(args:Array Value)(ds gs:List (DataW H))(before:List MemPlace)
  (hval:∀(j:Nat) t v,Tryz.f3.params[j]? =some t->args[j]? =some v->Value.okWide Tryz.prog W .any base t v)
  (hW:DataW.Whole enc Tryz.prog Tryz.f3.params.toList Rows.fnExactStatesSpec.vars false W args.toList ds gs before)
  (hsz0:(DataW.weightsEach Tryz.prog (Tryz.f3.params.toList++(OpenSpec.ofChange Rows.fnExactStatesSpec).bare.plain.varTypes Tryz.prog) (ds++gs)).all (· <=reachBytes)=true) (hL:laidMetH Tryz.prog Rows.fnExactStatesRow.laid W):
  Calls Tryz.prog 3 args W λe W'=>∃v,e=.returned v/\Rows.fnExactStatesSpec.post enc Tryz.prog Tryz.f3 false true false false W args v W':=by
 have hW':=hW;obtain⟨p,q,hA0,hV,rfl,hfz,hnd⟩:=hW;have hA:DataW.TrodAll enc Tryz.prog W 0 (λ_=>true) true Tryz.f3.params.toList args.toList ds p:=hA0;rw[Tryz.params3]at hA hval hsz0;obtain⟨v0,vs0,d0,ds0,p0,q0,hargs,rfl,rfl,h0,r0⟩:=trodAll_cons hA;obtain⟨v1,vs1,d1,ds1,p1,q1,rfl,rfl,rfl,h1,r1⟩:=trodAll_cons r0;obtain⟨rfl,rfl,rfl⟩:=trodAll_nil r1;obtain rfl:args=#[v0,v1]:=Array.toList_inj.1 hargs;obtain⟨x1,rfl⟩:=vars_one (a:= "loop.example/heddle/impl.instructions") hV;have hsz:(DataW.weightsEach Tryz.prog ([24,3]++(OpenSpec.ofChange Rows.fnExactStatesSpec).bare.plain.varTypes Tryz.prog) ([d0,d1]++[x1])).all (· <=reachBytes)=true:=hsz0
 have hsd:Fo.Sz 24 d0:=by
  intro n hn;exact of_decide_eq_true (List.all_eq_true.1 hsz n (DataW.weights_mem_each (j:=0) (t:=24) (d:=d0) rfl rfl n hn))
 obtain⟨cs,rfl,hcz⟩:=okWide_struct Tryz.underlying24 (hval 0 24 v0 rfl rfl);obtain⟨a1,rfl,rfl,rfl,w1⟩:=open_int Tryz.underlying3 (hval 1 3 v1 rfl rfl) h1;clear hA0;simp only[List.append_nil]at hW';have hlt:∀x ∈ p0,x.block<W.heap.size:=λx hx=>by simpa using hW'.lt x (by simp[hx])
 rw[cellsCd]at hcz;obtain⟨va,nf,F,hv,ra,sa,sa'⟩:=read_code hcz h0 hsd;rw[hv]at h0 hW'⊢;obtain⟨pa,ca,rfl,-⟩:=id ra;have hL2:laidMet Tryz.prog Rows.fnExactStatesRow.laid W:=hL;have hgd:=gd_laid hL2;refine(law_st (q:=a1) W (λW2 v h b=>sp_states a1 W2 h b) (λW2 v k h b=>im_states a1 W2 (hgd.keep k) h b) ra sa sa').mono λe W' ⟨he,hg⟩=>?_;subst he;have hvs:=kept_vars (enc:=enc) Fo.laidOut (λi hi=>hg.block i zq hi) rowed hV;exact⟨_,rfl,_,_,_,[],_,_,hW',(trodAll_cons_mk (shut_bool Tryz.underlying4 _) trodAll_mk0),(trodAll_cons_mk (code_stays h0 hlt hg) (trodAll_cons_mk (shut_int Tryz.underlying3 w1) trodAll_mk0)),hvs,World.keptBut_mono (λ_ f=>f.elim) hg.kept,λh=>by cases h⟩
def put(cs:Array Value):Obj->Obj
 |.cells _ t frozen=>.cells cs t frozen
 |o=>o
noncomputable def laidWorld(os:Os):World:=
 {World.holding Tryz.prog os ⟨#[],#[],[]⟩with heap:=(World.holding Tryz.prog os ⟨#[],#[],[]⟩).heap.modify 0 (put #[.int .u8 0,.int .u8 0,.int .u8 0,.int .u8 0,.int .u8 1,.int .u8 0,.int .u8 0,.int .u8 0,.int .u8 2,.int .u8 0,.int .u8 0,.int .u8 0,.int .u8 0,.int .u8 0,.int .u8 0,.int .u8 0,.int .u8 12,.int .u8 3,.int .u8 0,.int .u8 0,.int .u8 12,.int .u8 22,.int .u8 0,.int .u8 0,.int .u8 13,.int .u8 22,.int .u8 0,.int .u8 0,.int .u8 12,.int .u8 17,.int .u8 0,.int .u8 0,.int .u8 17,.int .u8 22,.int .u8 0,.int .u8 0,.int .u8 12,.int .u8 4,.int .u8 0,.int .u8 0,.int .u8 4,.int .u8 22,.int .u8 0,.int .u8 0,.int .u8 12,.int .u8 5,.int .u8 0,.int .u8 0,.int .u8 12,.int .u8 0,.int .u8 0,.int .u8 0,.int .u8 16,.int .u8 22,.int .u8 22,.int .u8 0,.int .u8 16,.int .u8 22,.int .u8 23,.int .u8 0,.int .u8 12,.int .u8 22,.int .u8 22,.int .u8 0,.int .u8 22,.int .u8 22,.int .u8 22,.int .u8 0,.int .u8 12,.int .u8 7,.int .u8 22,.int .u8 0,.int .u8 12,.int .u8 8,.int .u8 22,.int .u8 22,.int .u8 6,.int .u8 0,.int .u8 0,.int .u8 0,.int .u8 22,.int .u8 6,.int .u8 0,.int .u8 0,.int .u8 22,.int .u8 6,.int .u8 0,.int .u8 0,.int .u8 14,.int .u8 0,.int .u8 0,.int .u8 0,.int .u8 18,.int .u8 22,.int .u8 0,.int .u8 0,.int .u8 18,.int .u8 23,.int .u8 0,.int .u8 0,.int .u8 12,.int .u8 23,.int .u8 0,.int .u8 0,.int .u8 12,.int .u8 18,.int .u8 9,.int .u8 0,.int .u8 14,.int .u8 18,.int .u8 0,.int .u8 0,.int .u8 14,.int .u8 22,.int .u8 23,.int .u8 0,.int .u8 23,.int .u8 0,.int .u8 0,.int .u8 0,.int .u8 22,.int .u8 0,.int .u8 0,.int .u8 0,.int .u8 6,.int .u8 11,.int .u8 0,.int .u8 0,.int .u8 0,.int .u8 0,.int .u8 0,.int .u8 0,.int .u8 10,.int .u8 0,.int .u8 0,.int .u8 0,.int .u8 10,.int .u8 0,.int .u8 0,.int .u8 0,.int .u8 22,.int .u8 23,.int .u8 0,.int .u8 0,.int .u8 0,.int .u8 0,.int .u8 0,.int .u8 0,.int .u8 19,.int .u8 0,.int .u8 0,.int .u8 0,.int .u8 19,.int .u8 6,.int .u8 0,.int .u8 0,.int .u8 19,.int .u8 6,.int .u8 0,.int .u8 0,.int .u8 21,.int .u8 0,.int .u8 0,.int .u8 0,.int .u8 20,.int .u8 6,.int .u8 14,.int .u8 0,.int .u8 15,.int .u8 0,.int .u8 0,.int .u8 0])}
theorem laid_met(os:Os):laidMet Tryz.prog Rows.fnExactStatesRow.laid ((laidWorld os).forCall (λ_ _=>0) ⟨#[],#[.agg #[.slice none 0 0],.int .i64 0],[]⟩).memory:=
 laidMet_of_run' 8 (by kernel_rfl) (by kernel_rfl)
theorem reads(os:Os){H:Type}(enc:TypeId×Value->H):∃places,DataW.whole enc Tryz.prog ((laidWorld os).forCall (λ_ _=>0) ⟨#[],#[.agg #[.slice none 0 0],.int .i64 0],[]⟩).memory Tryz.f3.params.toList Rows.fnExactStatesSpec.vars false (#[.agg #[.slice none 0 0],.int .i64 0]:Array Value).toList 8=some ([.agg [.nil],.lit (.int .i64 0)],[.agg (itb.map (Lib.tabData .u8))],places):=
 ⟨MemPlace.row ⟨0,0,none⟩ 172,by kernel_rfl⟩
theorem lifted(os:Os)(started:os.Started)(H:Type)(enc:TypeId×Value->H)(F:Stop.Interp):
  ReturnsInHanded {} Tryz.checked os 3 .any ((OpenSpec.ofChange Rows.fnExactStatesSpec).preRow enc Tryz.prog Tryz.f3 Rows.fnExactStatesRow.domain false Rows.fnExactStatesRow.laid) (((OpenSpec.ofChange Rows.fnExactStatesSpec).at F).post enc Tryz.prog Tryz.f3 false true false false):=by
 obtain⟨places,hx⟩:=reads os enc
 refine returnsInHanded_of_row (C:=Tryz.checked) (s:=OpenSpec.ofChange Rows.fnExactStatesSpec) own started (by kernel_rfl) Tryz.func3
  (witness_row_at (enc:=enc) (C:=Tryz.checked) false (laidWorld os) #[.agg #[.slice none 0 0],.int .i64 0] rfl (by kernel_rfl) (by kernel_rfl) (by kernel_rfl)
   (OpenSpec.preRow_of_cond 8 hx (by kernel_rfl) (λk hk=>by cases hk) (by kernel_rfl) (laid_met os))) ?_
 intro W base args ds gs before hval hW _ _ hsz hL _ _;exact contract H enc W base args ds gs before hval hW hsz hL
theorem said:Rows.FnExactStatesSaid:=
 OpenClaim.holds_of_cond 3 Tryz.f3 rfl rfl rfl rfl rfl rfl rfl ⟨rfl,rfl,rfl,rfl,rfl⟩ rfl rfl rfl rfl rfl (by kernel_rfl) Tryz.func3 (by kernel_rfl)
  (of_decide_eq_true (by kernel_rfl)) (by unfold Func.isWrapper;first|(rw[if_pos (by decide+kernel)];kernel_rfl)|(rw[if_neg (by decide+kernel)];exact⟨rfl,rfl⟩))
  (λos started H enc _ F=>by rw[OpenClaim.pre_eq_preRow];exact lifted os started H enc F)
theorem plain(f:FuncId)(fn:Func)(hf:Tryz.pinned.checked.prog.funcNamed "loop.example/heddle/laws.FnExactStates" =some f)(hfn:Tryz.pinned.checked.prog.funcs[f]? =some fn):
  false=Tryz.pinned.checked.prog.looks []/\∀(j:Nat) t,fn.params[j]? =some t->Tryz.pinned.checked.prog.wantsStandIn t=false:=by
 obtain rfl:f=3:=Option.some.inj ((show Tryz.prog.funcNamed "loop.example/heddle/laws.FnExactStates" =some 3 by kernel_rfl).symm.trans hf) |>.symm;obtain rfl:fn=Tryz.f3:=(Option.some.inj (Tryz.func3.symm.trans hfn)).symm;refine⟨by kernel_rfl,λj t ht=>?_⟩;rw[Tryz.params3]at ht;have hm:=Array.mem_of_getElem? ht;simp at hm;rcases hm with rfl|rfl
 ·exact(show Tryz.prog.wantsStandIn 24=false by kernel_rfl)
 ·exact(show Tryz.prog.wantsStandIn 3=false by kernel_rfl)
theorem card:Rows.FnExactStatesCardSaid:=
 Claim7.holds_tied_plain_at .later [] _ _ _ _ said (λ_ h=>by cases h) (by kernel_rfl) (λ_ h=>by cases h) fnExactStates_row_tie rfl ⟨rfl,rfl⟩ (by kernel_rfl) rfl plain (by kernel_rfl)
#print axioms card
