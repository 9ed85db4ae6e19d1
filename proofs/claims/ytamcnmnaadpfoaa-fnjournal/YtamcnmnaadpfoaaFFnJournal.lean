import Derived.Test.YtamcnmnaadpfoaaRows
import Derived.Test.YtamcnmnaadpfoaaFZaa
import Derived.Test.YtamcnmnaadpfoaaFXdl
import Derived.Test.YtamcnmnaadpfoaaFXdm
set_option maxRecDepth 100000
set_option maxHeartbeats 4000000
namespace Go.Proofs.Ytamcnmnaadpfoaa.fnJournal
open Go.Proofs.Ytamcnmnaadpfoaa.Fo Go.ChangeShapes Go.WideShapes Go.ChangeAt Go.RowKit
set_option linter.unusedVariables false
theorem own:ownKnob Try.prog.godebug=none:=by kernel_rfl
theorem lifted (os : Os) (started : os.Started) (H : Type) (enc : TypeId × Value → H) :
  ReturnsInHanded {} Try.checked os 4 .any (Rows.fnJournalSpec.pre6 enc Try.prog Try.f4 Rows.fnJournalRow.domain false) (Rows.fnJournalSpec.post enc Try.prog Try.f4 false true false false):=by
 refine returnsInHanded_of_change_sized (C:=Try.checked) own started (by kernel_rfl) Try.func4
  (ChangeSpec.witness6 (enc:=enc) (C:=Try.checked) false ⟨#[],#[.slice none 0 0],[]⟩ 8 (by kernel_rfl) (by kernel_rfl) (by kernel_rfl) (by kernel_rfl)) ?_
 intro W base args ds gs before hval0 hW _ hsz0 _
 have hsz:(DataW.weightsEach Try.prog (Try.f4.params.toList ++ Rows.fnJournalSpec.plain.varTypes Try.prog) (ds ++ gs)).all (· ≤ reachBytes)=true:=hsz0
 clear hsz0
 have hval:∀ (j:Nat) t v,Try.f4.params[j]? = some t→args[j]? = some v→Value.okWide Try.prog W .any base t v:=hval0
 have hW':=hW
 obtain ⟨p,q,hA0,hV,rfl,hfz,hnd⟩:=hW
 have hA:DataW.TrodAll enc Try.prog W 0 (fun _=>true) true Try.f4.params.toList args.toList ds p:=hA0
 rw [Try.params4] at hA hval hsz
 obtain ⟨v0,vs0,d0,ds0,p0,q0,hargs,rfl,rfl,h0,r0⟩:=trodAll_cons hA
 obtain ⟨rfl,rfl,rfl⟩:=trodAll_nil r0
 obtain rfl:args = #[v0]:=by cases args;simp_all
 obtain ⟨rfl,rfl⟩:=trodVars_none hV
 have hsd:Sz 22 d0:=by
  intro n hn
  exact of_decide_eq_true (List.all_eq_true.1 hsz n (DataW.weights_mem_each (j:=0) (t:=22) (d:=d0) rfl rfl n hn))
 clear hA0 hval0
 simp only [List.append_nil] at hW'
 have hlt:∀ x ∈ p0,x.block < W.heap.size:=fun x hx=>by simpa using hW'.lt x (by simpa using hx)
 obtain ⟨v1,n,A,hv,ra,sn,sA⟩:=(by obtain ⟨fuel,hf⟩:=h0;exact read_byts hf hsd:∃ (v:Value) (n:Nat) (A:Nat→Int),v0.cells.toList = [v]∧RowV W v n (fun i=>.int .u8 (A i))∧(n:Int) < 140737488355328∧∀ i,i < n→0≤A i∧A i≤255)
 obtain ⟨a1,n1,c1,rfl⟩:=okWide_slice Try.underlying22 (hval 0 22 v0 rfl rfl)
 simp [Value.cells] at hv
 subst hv
 obtain ⟨pa,ca,e1,-⟩:=id ra
 rw [e1] at ra h0 hW' ⊢
 refine (law_fj W sn (fun _=>dr_draw W ra sA)).mono fun e W' ⟨he,hg⟩=>?_
 subst he
 exact ⟨_,rfl,_,_,_,[],p0,[],hW',(trodAll_cons_mk (shut_bool Try.underlying4 _) trodAll_mk0),trodAll_mk1 (byts_stays h0 hlt hg),rfl,World.keptBut_mono (fun _ f=>f.elim) hg.kept,fun h=>by cases h⟩
theorem over:Rows.fnJournalRow.holds Try.pinned (OpenSpec.ofChange Rows.fnJournalSpec) :=
 OpenClaim.holds_of_wide 4 Try.f4 rfl rfl rfl rfl rfl rfl rfl ⟨rfl,rfl,rfl,rfl,rfl⟩ rfl rfl rfl rfl rfl (by kernel_rfl) Try.func4 (by kernel_rfl)
  (of_decide_eq_true (by kernel_rfl)) (by unfold Func.isWrapper;first | (rw [if_pos (by decide +kernel)];kernel_rfl) | (rw [if_neg (by decide +kernel)];exact ⟨rfl,rfl⟩))
  (fun os started H enc _=>lifted os started H enc)
theorem proved:Rows.FnJournalSaid :=
 over
#print axioms proved
end Go.Proofs.Ytamcnmnaadpfoaa.fnJournal
