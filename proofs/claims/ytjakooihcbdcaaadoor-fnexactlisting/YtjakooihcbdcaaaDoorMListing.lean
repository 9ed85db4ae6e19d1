import Derived.Test.YtjakooihcbdcaaaDoorRows
import Derived.Test.YtjakooihcbdcaaaDoorCards
import Derived.Test.YtjakooihcbdcaaaDoorTie
import Derived.Test.YtjakooihcbdcaaaDoorMLdc
import Derived.Test.YtjakooihcbdcaaaDoorMLde
import Derived.Test.YtjakooihcbdcaaaDoorMLdb
import Derived.Test.YtjakooihcbdcaaaDoorMLdd
import Derived.Deep.DeepHandedRow
import Derived.Lib.LaidTab
import Derived.Stop.LaidErr
set_option maxRecDepth 100000
set_option maxHeartbeats 4000000
namespace Go.Proofs.YtjakooihcbdcaaaDoor.fnExactListing
open Go.Proofs.YtjakooihcbdcaaaDoor.Fo Go.ChangeShapes Go.WideShapes Go.ChangeAt Go.RowKit
set_option linter.unusedVariables false
theorem own : ownKnob Tryd.prog.godebug = none:=by kernel_rfl
theorem rowed : varsRowed Tryd.prog Rows.fnExactListingSpec.vars = true:=by kernel_rfl
theorem contract (H : Type) (enc : TypeId × Value → H) (W : World) (base : Nat) (args : Array Value) (ds gs : List (DataW H)) (before : List MemPlace)
    (hval : ∀ (j : Nat) t v,Tryd.f3.params[j]? = some t → args[j]? = some v → Value.okWide Tryd.prog W .any base t v)
    (hW : DataW.Whole enc Tryd.prog Tryd.f3.params.toList Rows.fnExactListingSpec.vars false W args.toList ds gs before)
    (hsz0 : (DataW.weightsEach Tryd.prog (Tryd.f3.params.toList ++ (OpenSpec.ofChange Rows.fnExactListingSpec).bare.plain.varTypes Tryd.prog) (ds ++ gs)).all (· ≤ reachBytes) = true) (hL : laidMetH Tryd.prog Rows.fnExactListingRow.laid W) :
    Calls Tryd.prog 3 args W fun e W'=>∃ v,e = .returned v ∧ Rows.fnExactListingSpec.post enc Tryd.prog Tryd.f3 false true false false W args v W':=by
  have hW':=hW
  obtain ⟨p,q,hA0,hV,rfl,hfz,hnd⟩:=hW
  have hA : DataW.TrodAll enc Tryd.prog W 0 (fun _=>true) true Tryd.f3.params.toList args.toList ds p:=hA0
  rw [Tryd.params3] at hA hval hsz0
  obtain ⟨v0,vs0,d0,ds0,p0,q0,hargs,rfl,rfl,h0,r0⟩:=trodAll_cons hA
  obtain ⟨rfl,rfl,rfl⟩:=trodAll_nil r0
  obtain rfl : args = #[v0]:=by cases args;simp_all
  obtain ⟨x1,x2,rfl⟩:=vars_two hV
  have hsz : (DataW.weightsEach Tryd.prog ([24] ++ (OpenSpec.ofChange Rows.fnExactListingSpec).bare.plain.varTypes Tryd.prog) ([d0] ++ [x1,x2])).all (· ≤ reachBytes) = true:=hsz0
  have hsd : Fo.Sz 24 d0:=by
    intro n hn
    exact of_decide_eq_true (List.all_eq_true.1 hsz n (DataW.weights_mem_each (j:=0) (t:=24) (d:=d0) rfl rfl n hn))
  obtain ⟨cs,rfl,hcz⟩:=okWide_struct Tryd.underlying24 (hval 0 24 v0 rfl rfl)
  clear hA0
  simp only [List.append_nil] at hW'
  have hlt : ∀ x ∈ p0,x.block < W.heap.size:=fun x hx=>by simpa using hW'.lt x (by simp [hx])
  rw [cellsCd] at hcz
  obtain ⟨va,nf,F,hv,ra,sa,sa'⟩:=read_code hcz h0 hsd
  rw [hv] at h0 hW' ⊢
  obtain ⟨pa,ca,rfl,-⟩:=id ra
  have hL2 : laidMet Tryd.prog Rows.fnExactListingRow.laid W:=hL
  have hgd:=gd_head (laidMet.tail (laidMet.tail (laidMet.tail hL2)))
  have hgn:=gn_head (laidMet.tail (laidMet.tail (laidMet.tail (laidMet.tail hL2))))
  have hpw : Pw W:=pw_head (laidMet.tail (laidMet.tail hL2))
  refine (law_ls W (fun W2 v h b=>sp_listing W2 h b) (fun W2 v k h b=>im_listing W2 (hgd.keep k) (hgn.keep k) (pw_keep hpw k) h b) ra sa sa').mono fun e W' ⟨he,hg⟩=>?_
  subst he
  have hvs:=kept_vars (enc:=enc) Fo.laidOut (fun i hi=>hg.block i (Nat.zero_le _) hi) rowed hV
  exact ⟨_,rfl,_,_,_,[],p0,_,hW',(trodAll_cons_mk (shut_bool Tryd.underlying4 _) trodAll_mk0),trodAll_mk1 (code_stays h0 hlt hg),hvs,World.keptBut_mono (fun _ f=>f.elim) hg.kept,fun h=>by cases h⟩
def put (cs : Array Value) : Obj → Obj
  | .cells _ t frozen=>.cells cs t frozen
  | o=>o
noncomputable def laidWorld (os : Os) : World :=
  { World.holding Tryd.prog os ⟨#[],#[],[]⟩ with heap:=(((((World.holding Tryd.prog os ⟨#[],#[],[]⟩).heap.modify 4 (put #[.int .u8 0,.int .u8 1,.int .u8 28,.int .u8 2,.int .u8 29,.int .u8 14,.int .u8 24,.int .u8 3,.int .u8 30,.int .u8 22,.int .u8 20,.int .u8 15,.int .u8 25,.int .u8 17,.int .u8 4,.int .u8 8,.int .u8 31,.int .u8 27,.int .u8 13,.int .u8 23,.int .u8 21,.int .u8 19,.int .u8 16,.int .u8 7,.int .u8 26,.int .u8 12,.int .u8 18,.int .u8 6,.int .u8 11,.int .u8 5,.int .u8 10,.int .u8 9])).modify 5 (put #[.int .u8 0,.int .u8 1,.int .u8 56,.int .u8 2,.int .u8 57,.int .u8 49,.int .u8 28,.int .u8 3,.int .u8 61,.int .u8 58,.int .u8 42,.int .u8 50,.int .u8 38,.int .u8 29,.int .u8 17,.int .u8 4,.int .u8 62,.int .u8 47,.int .u8 59,.int .u8 36,.int .u8 45,.int .u8 43,.int .u8 51,.int .u8 22,.int .u8 53,.int .u8 39,.int .u8 33,.int .u8 30,.int .u8 24,.int .u8 18,.int .u8 12,.int .u8 5,.int .u8 63,.int .u8 55,.int .u8 48,.int .u8 27,.int .u8 60,.int .u8 41,.int .u8 37,.int .u8 16,.int .u8 46,.int .u8 35,.int .u8 44,.int .u8 21,.int .u8 52,.int .u8 32,.int .u8 23,.int .u8 11,.int .u8 54,.int .u8 26,.int .u8 40,.int .u8 15,.int .u8 34,.int .u8 20,.int .u8 31,.int .u8 10,.int .u8 25,.int .u8 14,.int .u8 19,.int .u8 9,.int .u8 13,.int .u8 8,.int .u8 7,.int .u8 6])).modify 3 (put #[.int .u64 1,.int .u64 10,.int .u64 100,.int .u64 1000,.int .u64 10000,.int .u64 100000,.int .u64 1000000,.int .u64 10000000,.int .u64 100000000,.int .u64 1000000000,.int .u64 10000000000,.int .u64 100000000000,.int .u64 1000000000000,.int .u64 10000000000000,.int .u64 100000000000000,.int .u64 1000000000000000,.int .u64 10000000000000000,.int .u64 100000000000000000,.int .u64 1000000000000000000,.int .u64 10000000000000000000])).modify 1 (put #[.int .u8 0,.int .u8 0,.int .u8 0,.int .u8 0,.int .u8 1,.int .u8 0,.int .u8 0,.int .u8 0,.int .u8 2,.int .u8 0,.int .u8 0,.int .u8 0,.int .u8 0,.int .u8 0,.int .u8 0,.int .u8 0,.int .u8 12,.int .u8 3,.int .u8 0,.int .u8 0,.int .u8 12,.int .u8 22,.int .u8 0,.int .u8 0,.int .u8 13,.int .u8 22,.int .u8 0,.int .u8 0,.int .u8 12,.int .u8 17,.int .u8 0,.int .u8 0,.int .u8 17,.int .u8 22,.int .u8 0,.int .u8 0,.int .u8 12,.int .u8 4,.int .u8 0,.int .u8 0,.int .u8 4,.int .u8 22,.int .u8 0,.int .u8 0,.int .u8 12,.int .u8 5,.int .u8 0,.int .u8 0,.int .u8 12,.int .u8 0,.int .u8 0,.int .u8 0,.int .u8 16,.int .u8 22,.int .u8 22,.int .u8 0,.int .u8 16,.int .u8 22,.int .u8 23,.int .u8 0,.int .u8 12,.int .u8 22,.int .u8 22,.int .u8 0,.int .u8 22,.int .u8 22,.int .u8 22,.int .u8 0,.int .u8 12,.int .u8 7,.int .u8 22,.int .u8 0,.int .u8 12,.int .u8 8,.int .u8 22,.int .u8 22,.int .u8 6,.int .u8 0,.int .u8 0,.int .u8 0,.int .u8 22,.int .u8 6,.int .u8 0,.int .u8 0,.int .u8 22,.int .u8 6,.int .u8 0,.int .u8 0,.int .u8 14,.int .u8 0,.int .u8 0,.int .u8 0,.int .u8 18,.int .u8 22,.int .u8 0,.int .u8 0,.int .u8 18,.int .u8 23,.int .u8 0,.int .u8 0,.int .u8 12,.int .u8 23,.int .u8 0,.int .u8 0,.int .u8 12,.int .u8 18,.int .u8 9,.int .u8 0,.int .u8 14,.int .u8 18,.int .u8 0,.int .u8 0,.int .u8 14,.int .u8 22,.int .u8 23,.int .u8 0,.int .u8 23,.int .u8 0,.int .u8 0,.int .u8 0,.int .u8 22,.int .u8 0,.int .u8 0,.int .u8 0,.int .u8 6,.int .u8 11,.int .u8 0,.int .u8 0,.int .u8 0,.int .u8 0,.int .u8 0,.int .u8 0,.int .u8 10,.int .u8 0,.int .u8 0,.int .u8 0,.int .u8 10,.int .u8 0,.int .u8 0,.int .u8 0,.int .u8 22,.int .u8 23,.int .u8 0,.int .u8 0,.int .u8 0,.int .u8 0,.int .u8 0,.int .u8 0,.int .u8 19,.int .u8 0,.int .u8 0,.int .u8 0,.int .u8 19,.int .u8 6,.int .u8 0,.int .u8 0,.int .u8 19,.int .u8 6,.int .u8 0,.int .u8 0,.int .u8 21,.int .u8 0,.int .u8 0,.int .u8 0,.int .u8 20,.int .u8 6,.int .u8 14,.int .u8 0,.int .u8 15,.int .u8 0,.int .u8 0,.int .u8 0])).modify 0 (put #[.string ⟨#[]⟩,.string ⟨#[108,105,110,101]⟩,.string ⟨#[97,116]⟩,.string ⟨#[116,105,99,107]⟩,.string ⟨#[99,111,110,115,116]⟩,.string ⟨#[109,111,118,101]⟩,.string ⟨#[98,111,120]⟩,.string ⟨#[103,101,116]⟩,.string ⟨#[112,117,116]⟩,.string ⟨#[117,112,103,101,116]⟩,.string ⟨#[117,112,112,117,116]⟩,.string ⟨#[102,110]⟩,.string ⟨#[116,97,98,108,101]⟩,.string ⟨#[114,97,119]⟩,.string ⟨#[114,97,119,97,108,108]⟩,.string ⟨#[105,110,100,101,120]⟩,.string ⟨#[115,101,116]⟩,.string ⟨#[117,110,97,114,121]⟩,.string ⟨#[98,105,110,97,114,121]⟩,.string ⟨#[106,117,109,112]⟩,.string ⟨#[105,102]⟩,.string ⟨#[117,110,108,101,115,115]⟩,.string ⟨#[108,105,115,116]⟩,.string ⟨#[97,100,100]⟩,.string ⟨#[106,111,105,110]⟩,.string ⟨#[102,105,114,115,116]⟩,.string ⟨#[112,105,99,107]⟩,.string ⟨#[99,111,112,121]⟩,.string ⟨#[99,97,108,108]⟩,.string ⟨#[114,101,116,117,114,110]⟩,.string ⟨#[116,104,114,111,119]⟩,.string ⟨#[116,114,121]⟩,.string ⟨#[101,110,100,116,114,121]⟩,.string ⟨#[115,99,111,112,101]⟩,.string ⟨#[107,101,101,112]⟩,.string ⟨#[100,101,102,101,114]⟩,.string ⟨#[108,101,97,118,101]⟩,.string ⟨#[102,111,114]⟩,.string ⟨#[102,111,114,116,101,115,116]⟩,.string ⟨#[102,111,114,110,101,120,116]⟩,.string ⟨#[101,97,99,104]⟩,.string ⟨#[101,97,99,104,110,101,120,116]⟩,.string ⟨#[100,114,111,112]⟩]) }
theorem laid_met (os : Os) : laidMet Tryd.prog Rows.fnExactListingRow.laid ((laidWorld os).forCall (fun _ _=>0) ⟨#[],#[.agg #[.slice none 0 0]],[]⟩).memory :=
  laidMet_of_run' 8 (by kernel_rfl) (by kernel_rfl)
theorem reads (os : Os) {H : Type} (enc : TypeId × Value → H) : ∃ places,DataW.whole enc Tryd.prog ((laidWorld os).forCall (fun _ _=>0) ⟨#[],#[.agg #[.slice none 0 0]],[]⟩).memory Tryd.f3.params.toList Rows.fnExactListingSpec.vars false (#[.agg #[.slice none 0 0]] : Array Value).toList 8 = some ([.agg [.nil]],[Rows.laid_loop_example_heddle_impl_opNames,Rows.laid_loop_example_heddle_impl_instructions],places) :=
  ⟨MemPlace.row ⟨0,0,none⟩ 43 ++ MemPlace.row ⟨1,0,none⟩ 172,by kernel_rfl⟩
theorem lifted (os : Os) (started : os.Started) (H : Type) (enc : TypeId × Value → H) (F : Stop.Interp) :
    ReturnsInHanded {} Tryd.checked os 3 .any ((OpenSpec.ofChange Rows.fnExactListingSpec).preRow enc Tryd.prog Tryd.f3 Rows.fnExactListingRow.domain false Rows.fnExactListingRow.laid) (((OpenSpec.ofChange Rows.fnExactListingSpec).at F).post enc Tryd.prog Tryd.f3 false true false false):=by
  obtain ⟨places,hx⟩:=reads os enc
  refine returnsInHanded_of_row (C:=Tryd.checked) (s:=OpenSpec.ofChange Rows.fnExactListingSpec) own started (by kernel_rfl) Tryd.func3
    (witness_row_at (enc:=enc) (C:=Tryd.checked) false (laidWorld os) #[.agg #[.slice none 0 0]] rfl (by kernel_rfl) (by kernel_rfl) (by kernel_rfl)
      (OpenSpec.preRow_of_cond 8 hx (by kernel_rfl) (fun k hk=>by cases hk) (by kernel_rfl) (laid_met os))) ?_
  intro W base args ds gs before hval hW _ _ hsz hL _ _
  exact contract H enc W base args ds gs before hval hW hsz hL
theorem said : Rows.FnExactListingSaid :=
  OpenClaim.holds_of_cond 3 Tryd.f3 rfl rfl rfl rfl rfl rfl rfl ⟨rfl,rfl,rfl,rfl,rfl⟩ rfl rfl rfl rfl rfl (by kernel_rfl) Tryd.func3 (by kernel_rfl)
    (of_decide_eq_true (by kernel_rfl)) (by unfold Func.isWrapper;first | (rw [if_pos (by decide +kernel)];kernel_rfl) | (rw [if_neg (by decide +kernel)];exact ⟨rfl,rfl⟩))
    (fun os started H enc _ F=>by rw [OpenClaim.pre_eq_preRow];exact lifted os started H enc F)
theorem plain (f : FuncId) (fn : Func) (hf : Tryd.pinned.checked.prog.funcNamed "loop.example/heddle/laws.FnExactListing" = some f) (hfn : Tryd.pinned.checked.prog.funcs[f]? = some fn) :
    false = Tryd.pinned.checked.prog.looks [] ∧ ∀ (j : Nat) t,fn.params[j]? = some t → Tryd.pinned.checked.prog.wantsStandIn t = false:=by
  obtain rfl : f = 3:=Option.some.inj ((show Tryd.prog.funcNamed "loop.example/heddle/laws.FnExactListing" = some 3 by kernel_rfl).symm.trans hf) |>.symm
  obtain rfl : fn = Tryd.f3:=(Option.some.inj (Tryd.func3.symm.trans hfn)).symm
  refine ⟨by kernel_rfl,fun j t ht=>?_⟩
  rw [Tryd.params3] at ht
  obtain rfl : t = 24:=by simpa using Array.mem_of_getElem? ht
  exact (show Tryd.prog.wantsStandIn 24 = false by kernel_rfl)
theorem card : Rows.FnExactListingCardSaid :=
  Claim7.holds_tied_plain_at .later [] _ _ _ _ said (fun _ h=>by cases h) (by kernel_rfl) (fun _ h=>by cases h) fnExactListing_row_tie rfl ⟨rfl,rfl⟩ (by kernel_rfl) rfl plain (by kernel_rfl)
#print axioms card
end Go.Proofs.YtjakooihcbdcaaaDoor.fnExactListing
