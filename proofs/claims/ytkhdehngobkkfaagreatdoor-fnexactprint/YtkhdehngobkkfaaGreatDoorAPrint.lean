import Derived.Test.YtkhdehngobkkfaaGreatDoorAPvr
import Derived.Test.YtkhdehngobkkfaaGreatDoorAPrintG
set_option maxRecDepth 100000
set_option maxHeartbeats 4000000
namespace Go.Proofs.YtkhdehngobkkfaaGreatDoor.fnExactPrint
open Go.ChangeShapes Go.WideShapes Go.ChangeAt Go.RowKit
set_option linter.unusedVariables false
variable {W:World}{H:Type}
theorem own:ownKnob Tryz.prog.godebug=none:=by kernel_rfl
theorem rowed:varsRowed Tryz.prog Rows.fnExactPrintSpec.vars=true:=by kernel_rfl
theorem laidOut:laidOutB Tryz.prog=true:=by kernel_rfl
theorem t10:(Tryz.prog.globals[7]?).map (·.type)=some 198:=by kernel_rfl
theorem c10:Tryz.prog.cellsOf 198=20:=by kernel_rfl
theorem cU:Tryz.prog.cellsOf 120=1:=by kernel_rfl
theorem tab10(h:laidMet Tryz.prog Rows.fnExactPrintRow.laid W):Pw W:=by
 show Lib.TabIs Tryz.prog W "internal/strconv.uint64pow10" .u64 Lib.pow10Tab;have e:Lib.pow10Tab=[1,10,100,1000,10000,100000,1000000,10000000,100000000,1000000000,10000000000,100000000000,1000000000000,10000000000000,100000000000000,1000000000000000,10000000000000000,100000000000000000,1000000000000000000,10000000000000000000]:=by decide+kernel
 rw[e];exact Lib.tabIs_of_head Fo.gPow t10 Tryz.underlying198 Tryz.underlying120 cU c10 (laidMet.tail (laidMet.tail h))
theorem t64:(Tryz.prog.globals[9]?).map (·.type)=some 208:=by kernel_rfl
theorem c64:Tryz.prog.cellsOf 208=64:=by kernel_rfl
theorem cB:Tryz.prog.cellsOf 5=1:=by kernel_rfl
theorem g64:Tryz.prog.globalNamed "math/bits.deBruijn64tab" =some 9:=by kernel_rfl
def deb:List Int:=[0,1,56,2,57,49,28,3,61,58,42,50,38,29,17,4,62,47,59,36,45,43,51,22,53,39,33,30,24,18,12,5,63,55,48,27,60,41,37,16,46,35,44,21,52,32,23,11,54,26,40,15,34,20,31,10,25,14,19,9,13,8,7,6]
theorem tab64(h:laidMet Tryz.prog Rows.fnExactPrintRow.laid W):Fm.Tab W:=by
 have hT:Lib.TabIs Tryz.prog W "math/bits.deBruijn64tab" .u8 deb:=Lib.tabIs_of_head g64 t64 Tryz.underlying208 Tryz.underlying5 cB c64 (laidMet.tail h);have h1:W.cell? ⟨9,15,none⟩=some (.int .u8 4):=hT.cell g64 15 (by decide);exact⟨Fm.lt_of_cell h1,h1⟩
theorem gp_laid(h:laidMet Tryz.prog Rows.fnExactPrintRow.laid W):Fo.Gp W:=by
 have h8:=laidMet.tail (laidMet.tail (laidMet.tail (laidMet.tail (laidMet.tail (laidMet.tail (laidMet.tail (laidMet.tail h)))))));exact⟨gd_laid h,tab10 h,tab64 h,laidB h8,laidP (laidMet.tail h8),laidU (laidMet.tail (laidMet.tail h8))⟩
theorem array1{cs:Array Value}(h:cs.size=1):∃c,cs=#[c]:=by
 obtain⟨l⟩:=cs
 match l,h with
 | [c],_=>exact⟨c,rfl⟩
theorem rSheet:Tryz.prog.readableRec 24=true/\24<Tryz.prog.types.size:=⟨by kernel_rfl,of_decide_eq_true (by kernel_rfl)⟩
theorem sheet_stays{enc:TypeId×Value->H}{v:Value}{d:DataW H}{p:List MemPlace}(hl:laidOutB Tryz.prog=true)(h:DataW.Trod enc Tryz.prog W 0 (λ_=>true) true 24 v d p)(hlt:∀x ∈ p,x.block<W.heap.size):
  ∀W':World,(∀i,i<W.heap.size->W'.heap[i]? =W.heap[i]?)->DataW.Trod enc Tryz.prog W' 0 (λb=>decide (b<W.heap.size)) true 24 v d p:=by
 intro W' hk;obtain⟨fuel,hf⟩:=h;refine⟨fuel,DataW.trod_stays (kids_book hl rSheet.1) (book_sized rSheet.1) (λh=>by cases h) ⟨rSheet.2,book_self 24⟩ hf (λx hx=>?_) (λx hx=>by simpa using hlt x hx)⟩;have hb:=hlt x hx;cases x with
 |cell b o=>exact World.cell?_of_block (w:=W) (hk b hb)
 |map b=>exact hk b hb
theorem contract(H:Type)(enc:TypeId×Value->H)(W:World)(base:Nat)(args:Array Value)(ds gs:List (DataW H))(before:List MemPlace)
  (hval:∀(j:Nat) t v,Tryz.f3.params[j]? =some t->args[j]? =some v->Value.okWide Tryz.prog W .any base t v)
  (hW:DataW.Whole enc Tryz.prog Tryz.f3.params.toList Rows.fnExactPrintSpec.vars false W args.toList ds gs before)
  (hsz0:(DataW.weightsEach Tryz.prog (Tryz.f3.params.toList++(OpenSpec.ofChange Rows.fnExactPrintSpec).bare.plain.varTypes Tryz.prog) (ds++gs)).all (· <=reachBytes)=true) (hL:laidMetH Tryz.prog Rows.fnExactPrintRow.laid W):
  Calls Tryz.prog 3 args W λe W'=>∃v,e=.returned v/\Rows.fnExactPrintSpec.post enc Tryz.prog Tryz.f3 false true false false W args v W':=by
 have hW':=hW;obtain⟨p,q,hA0,hV,rfl,hfz,hnd⟩:=hW;have hA:DataW.TrodAll enc Tryz.prog W 0 (λ_=>true) true Tryz.f3.params.toList args.toList ds p:=hA0;rw[Tryz.params3]at hA hval hsz0;obtain⟨v0,vs0,d0,ds0,p0,q0,hargs,rfl,rfl,h0,r0⟩:=trodAll_cons hA;obtain⟨rfl,rfl,rfl⟩:=trodAll_nil r0;obtain rfl:args=#[v0]:=Array.toList_inj.1 hargs;obtain⟨x1,x2,x3,x4,x5,x6,rfl⟩:=vars_six (a:= "loop.example/heddle/impl.words") (b:= "loop.example/heddle/impl.marks") (c:= "loop.example/heddle/impl.infixes") (d:= "loop.example/heddle/impl.bonds") (e:= "loop.example/heddle/impl.prefixes") (f:= "loop.example/heddle/impl.units") hV;have hsz:(DataW.weightsEach Tryz.prog ([24]++(OpenSpec.ofChange Rows.fnExactPrintSpec).bare.plain.varTypes Tryz.prog) ([d0]++[x1,x2,x3,x4,x5,x6])).all (· <=reachBytes)=true:=hsz0
 have hsd:Fo.Sz 24 d0:=by
  intro n hn;exact of_decide_eq_true (List.all_eq_true.1 hsz n (DataW.weights_mem_each (j:=0) (t:=24) (d:=d0) rfl rfl n hn))
 obtain⟨cs,rfl,hcz⟩:=okWide_struct Tryz.underlying24 (hval 0 24 v0 rfl rfl);have h0k:=h0;obtain⟨fuel,hf⟩:=h0;simp only[List.append_nil]at hW';have hlt:∀x ∈ p0,x.block<W.heap.size:=λx hx=>by simpa using hW'.lt x (by simp[hx])
 obtain⟨y0,m,hx,_,hy⟩:=trod_struct1 Tryz.underlying24 hf;rw[Fo.cells24]at hcz;obtain⟨c0,rfl⟩:=array1 hcz;simp[Value.cells,Fo.cells22]at hy;simp only[Prod.mk.injEq]at hx;obtain⟨rfl,hp0⟩:=hx;obtain⟨pa,ca,n,F,hc,hR,hn,hF,hm⟩:=Fo.read_forms3 hy (λk hk=>hsd k (by simp[DataW.weights,Tryz.underlying24,DataW.weightsEach,hk]));simp only[List.cons.injEq,and_true]at hc;subst hc;clear hA0;have hL2:laidMet Tryz.prog Rows.fnExactPrintRow.laid W:=hL;refine(Fo.law_print W (gp_laid hL2) hR hn hF hm).mono λe W' ⟨he,hg⟩=>?_;subst he;have hkb:Kb W.heap.size W W':=Kb.of_kept hg;have hvs:=kept_vars (enc:=enc) laidOut (λi hi=>hkb.block i hi (by omega)) rowed hV;exact⟨_,rfl,_,_,_,[],p0,_,hW',(trodAll_cons_mk (shut_bool Tryz.underlying4 _) trodAll_mk0),trodAll_mk1 (sheet_stays laidOut h0k hlt W' (λi hi=>hkb.block i hi (by omega))),hvs,World.keptBut_mono (λ_ f=>f.elim) hg,λh=>by cases h⟩
def put(cs:Array Value):Obj->Obj
 |.cells _ t frozen=>.cells cs t frozen
 |o=>o
noncomputable def low:Nat:=(World.holding Tryz.prog default ⟨#[],#[],[]⟩).heap.size
abbrev rangeS:ByteArray:=⟨#[118,97,108,117,101,32,111,117,116,32,111,102,32,114,97,110,103,101]⟩
abbrev syntaxS:ByteArray:=⟨#[105,110,118,97,108,105,100,32,115,121,110,116,97,120]⟩
noncomputable def laidWorld(os:Os):World:=
 {World.holding Tryz.prog os ⟨#[.cells #[.string rangeS] 224,.cells #[.string syntaxS] 224],#[],[]⟩with heap:=(((((((((((World.holding Tryz.prog os ⟨#[.cells #[.string rangeS] 224,.cells #[.string syntaxS] 224],#[],[]⟩).heap.modify 9 (put #[.int .u8 0,.int .u8 1,.int .u8 56,.int .u8 2,.int .u8 57,.int .u8 49,.int .u8 28,.int .u8 3,.int .u8 61,.int .u8 58,.int .u8 42,.int .u8 50,.int .u8 38,.int .u8 29,.int .u8 17,.int .u8 4,.int .u8 62,.int .u8 47,.int .u8 59,.int .u8 36,.int .u8 45,.int .u8 43,.int .u8 51,.int .u8 22,.int .u8 53,.int .u8 39,.int .u8 33,.int .u8 30,.int .u8 24,.int .u8 18,.int .u8 12,.int .u8 5,.int .u8 63,.int .u8 55,.int .u8 48,.int .u8 27,.int .u8 60,.int .u8 41,.int .u8 37,.int .u8 16,.int .u8 46,.int .u8 35,.int .u8 44,.int .u8 21,.int .u8 52,.int .u8 32,.int .u8 23,.int .u8 11,.int .u8 54,.int .u8 26,.int .u8 40,.int .u8 15,.int .u8 34,.int .u8 20,.int .u8 31,.int .u8 10,.int .u8 25,.int .u8 14,.int .u8 19,.int .u8 9,.int .u8 13,.int .u8 8,.int .u8 7,.int .u8 6])).modify 8 (put #[.int .u8 0,.int .u8 1,.int .u8 28,.int .u8 2,.int .u8 29,.int .u8 14,.int .u8 24,.int .u8 3,.int .u8 30,.int .u8 22,.int .u8 20,.int .u8 15,.int .u8 25,.int .u8 17,.int .u8 4,.int .u8 8,.int .u8 31,.int .u8 27,.int .u8 13,.int .u8 23,.int .u8 21,.int .u8 19,.int .u8 16,.int .u8 7,.int .u8 26,.int .u8 12,.int .u8 18,.int .u8 6,.int .u8 11,.int .u8 5,.int .u8 10,.int .u8 9])).modify 7 (put #[.int .u64 1,.int .u64 10,.int .u64 100,.int .u64 1000,.int .u64 10000,.int .u64 100000,.int .u64 1000000,.int .u64 10000000,.int .u64 100000000,.int .u64 1000000000,.int .u64 10000000000,.int .u64 100000000000,.int .u64 1000000000000,.int .u64 10000000000000,.int .u64 100000000000000,.int .u64 1000000000000000,.int .u64 10000000000000000,.int .u64 100000000000000000,.int .u64 1000000000000000000,.int .u64 10000000000000000000])).modify 0 (put wordsA)).modify 1 (put marksA)).modify 2 (put infixA)).modify 4 (put Fo.bondA)).modify 5 (put Fo.prefA)).modify 6 (put Fo.unitA)).modify 11 (put #[.iface 222 (.pointer (some ⟨low,0,none⟩))])).modify 10 (put #[.iface 222 (.pointer (some ⟨low+1,0,none⟩))])}
theorem laid_met(os:Os):laidMet Tryz.prog Rows.fnExactPrintRow.laid ((laidWorld os).forCall (λ_ _=>0) ⟨#[],#[.agg #[.slice none 0 0]],[]⟩).memory:=
 laidMet_of_run' 8 (by kernel_rfl) (by kernel_rfl)
theorem reads(os:Os)(enc:TypeId×Value->H):∃places,DataW.whole enc Tryz.prog ((laidWorld os).forCall (λ_ _=>0) ⟨#[],#[.agg #[.slice none 0 0]],[]⟩).memory Tryz.f3.params.toList Rows.fnExactPrintSpec.vars false (#[.agg #[.slice none 0 0]]:Array Value).toList 8=some ([.agg [.nil]],[strData wordsL,strData marksL,strData infixL,.agg (tabD .i64 tlB 20 6),.agg (tabD .i64 tlP 4 2),.agg (tabD .i64 tlU 8 2)],places):=
 ⟨MemPlace.row ⟨0,0,none⟩ 22++MemPlace.row ⟨1,0,none⟩ 11++MemPlace.row ⟨2,0,none⟩ 18++MemPlace.row ⟨4,0,none⟩ 120++MemPlace.row ⟨5,0,none⟩ 8++MemPlace.row ⟨6,0,none⟩ 16,by kernel_rfl⟩
theorem lifted(os:Os)(started:os.Started)(H:Type)(enc:TypeId×Value->H)(F:Stop.Interp):
  ReturnsInHanded {} Tryz.checked os 3 .any ((OpenSpec.ofChange Rows.fnExactPrintSpec).preRow enc Tryz.prog Tryz.f3 Rows.fnExactPrintRow.domain false Rows.fnExactPrintRow.laid) (((OpenSpec.ofChange Rows.fnExactPrintSpec).at F).post enc Tryz.prog Tryz.f3 false true false false):=by
 obtain⟨places,hx⟩:=reads os enc
 refine returnsInHanded_of_row (C:=Tryz.checked) (s:=OpenSpec.ofChange Rows.fnExactPrintSpec) own started (by kernel_rfl) Tryz.func3
  (witness_row_at (enc:=enc) (C:=Tryz.checked) false (laidWorld os) #[.agg #[.slice none 0 0]] rfl (by kernel_rfl) (by kernel_rfl) (by kernel_rfl)
   (OpenSpec.preRow_of_cond 8 hx (by kernel_rfl) (λk hk=>by cases hk) (by kernel_rfl) (laid_met os))) ?_
 intro W base args ds gs before hval hW _ _ hsz hL _ _;exact contract H enc W base args ds gs before hval hW hsz hL
theorem said:Rows.FnExactPrintSaid:=
 OpenClaim.holds_of_cond 3 Tryz.f3 rfl rfl rfl rfl rfl rfl rfl ⟨rfl,rfl,rfl,rfl,rfl⟩ rfl rfl rfl rfl rfl (by kernel_rfl) Tryz.func3 closed
  (of_decide_eq_true (by kernel_rfl)) (by unfold Func.isWrapper;first|(rw[if_pos (by decide+kernel)];kernel_rfl)|(rw[if_neg (by decide+kernel)];exact⟨rfl,rfl⟩))
  (λos started H enc _ F=>by rw[OpenClaim.pre_eq_preRow];exact lifted os started H enc F)
theorem plain(f:FuncId)(fn:Func)(hf:Tryz.pinned.checked.prog.funcNamed "loop.example/heddle/laws.FnExactPrint" =some f)(hfn:Tryz.pinned.checked.prog.funcs[f]? =some fn):
  true=Tryz.pinned.checked.prog.looks []/\∀(j:Nat) t,fn.params[j]? =some t->Tryz.pinned.checked.prog.wantsStandIn t=false:=by
 obtain rfl:f=3:=Option.some.inj ((show Tryz.prog.funcNamed "loop.example/heddle/laws.FnExactPrint" =some 3 by kernel_rfl).symm.trans hf) |>.symm;obtain rfl:fn=Tryz.f3:=(Option.some.inj (Tryz.func3.symm.trans hfn)).symm;refine⟨by kernel_rfl,λj t ht=>?_⟩;rw[Tryz.params3]at ht;obtain rfl:t=24:=by simpa using Array.mem_of_getElem? ht
 exact(show Tryz.prog.wantsStandIn 24=false by kernel_rfl)
theorem card:Rows.FnExactPrintCardSaid:=
 Claim7.holds_tied_plain_at .later [] _ _ _ _ said (λ_ h=>by cases h) (by kernel_rfl) (λ_ h=>by cases h) fnExactPrint_row_tie rfl ⟨rfl,rfl⟩ (by kernel_rfl) rfl plain (by kernel_rfl)
#print axioms card
