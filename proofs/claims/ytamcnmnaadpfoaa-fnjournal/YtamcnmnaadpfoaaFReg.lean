import Derived.Deep.RegionHeldLaw
import Derived.Deep.AppendLies
namespace Go.Proofs.Ytamcnmnaadpfoaa
section
variable {P:Program} {ops:Array Oper} {Q:Exit→Act→World→Prop} {md:Region.Mode} {S:World→Prop} {z:Nat}
def AnyL (P:Program) (md:Region.Mode) (ops:Array Oper) (Q:Exit→Act→World→Prop) (S:World→Prop) (z:Nat):Nat→Array Bool→Act→World→Prop
  | 0,listed,a,w=>Region.ready md ops listed = []∧Q .normal a w
  | k + 1, listed, a, w => (Region.ready md ops listed = [] → Q .normal a w) ∧
      ∀ i ∈ Region.ready md ops listed,wpOp P ops Q i (fun a' w'=>(i ≠ z→S w')∧AnyL P md ops Q S z k (listed.setIfInBounds i true) a' w') a w
theorem AnyL.any:∀ (k:Nat) (listed:Array Bool) (a:Act) (w:World),AnyL P md ops Q S z k listed a w→wpAny P md ops Q k listed a w
 | 0,_,_,_,h=>h
 | k+1,_,_,_,h=>⟨h.1,fun i hi=>wpOp_mono (fun a' w' g=>AnyL.any k _ a' w' g.2) (h.2 i hi)⟩
theorem AnyL.first {i : Nat} {oi : Oper} {v : Value} (hi : ops[i]? = some oi) (hsel : ∀ (j : Nat) (o : Oper) cs b, ops[j]? = some o → o.op ≠ .select cs b) (hQ : ∀ c a w, Q (.panic c) (a.put oi.dst v) w → Q (.panic c) a w) (hz : ∀ oz, ops[z]? = some oz → ∃ e ∈ oz.after, Region.binds md e = true ∧ e.on = i) (k : Nat) :
  ∀ (listed:Array Bool) (a:Act) (w:World),(∀ j oj,ops[j]? = some oj→j ≠ i→listed.getD j true=false→(∀ e ∈ oj.after,Region.binds md e=true→e.on ≠ i)→oi.apart ops oj=true) →
   i ∈ Region.ready md ops listed→YieldsIf P ops S oi v a→S w→AnyL P md ops Q S z k (listed.setIfInBounds i true) (a.put oi.dst v) w→AnyL P md ops Q S z (k+1) listed a w:=by
 induction k with
 | zero =>
  intro listed a w _ hr hy hS H
  refine ⟨fun h=>absurd hr (by rw [h];simp),fun j hj=>?_⟩
  by_cases e:j=i
  ·subst e
   exact hy.wpOp hi hS ⟨fun _=>hS,H⟩
  ·exact absurd (ready_mono hj e) (by rw [H.1];simp)
 | succ k ih =>
  intro listed a w hfree hr hy hS H
  refine ⟨fun h=>absurd hr (by rw [h];simp),fun j hj=>?_⟩
  by_cases e:j=i
  ·subst e
   exact hy.wpOp hi hS ⟨fun _=>hS,H⟩
  ·have h1:=H.2 j (ready_mono hj e)
   obtain ⟨hun,oj,hoj,hall⟩:=mem_ready.1 hj
   have hno:∀ x ∈ oj.after,Region.binds md x=true→x.on ≠ i:=by
    intro x hx hb heq
    have q1:=hall x hx hb
    have q0:=(mem_ready.1 hr).1
    rw [heq] at q1
    rcases Nat.lt_or_ge i listed.size with l | l
    ·simp [l] at q0 q1
     rw [q0] at q1
     cases q1
    ·simp [Array.getElem?_eq_none l] at q1
   have h2:=wpOp_putIf hoj (hfree j oj hoj e hun hno) (fun cs b=>hsel i oi cs b hi) (fun cs b=>hsel j oj cs b hoj) hQ hy h1
   have hjz:j ≠ z:=by
    rintro rfl
    obtain ⟨x,x1,x2,x3⟩:=hz oj hoj
    exact hno x x1 x2 x3
   refine wpOp_mono (fun a' w' h3=>⟨fun _=>h3.2.1 hjz,ih (listed.setIfInBounds j true) a' w' ?_ (ready_mono hr (Ne.symm e)) h3.1 (h3.2.1 hjz) ?_⟩) h2
   ·intro m om hm hmi hu hn
    refine hfree m om hm hmi ?_ hn
    by_cases e2:j=m
    ·subst e2;exact hun
    ·rw [getD_set_ne true e2] at hu;exact hu
   ·rw [Array.setIfInBounds_comm _ _ e]
    exact h3.2.2
theorem AnyL.take {i : Nat} {oi : Oper} {v : Value} {k : Nat} {listed : Array Bool} {a : Act} {w : World} (hi : ops[i]? = some oi)
  (hs:Region.noSelect ops=true) (hf:Region.free md ops listed i=true) (hr:(Region.ready md ops listed).contains i=true)
  (hQ:∀ c a w,Q (.panic c) (a.put oi.dst v) w→Q (.panic c) a w) (hz:(ops[z]?).all (fun o=>o.after.any fun e=>Region.binds md e && e.on == i)=true) (hw:Region.wanted oi (yielded ops a.tmps)=true) (hS:S w) (hy:∀ w,S w→(execOp a.eval oi).run P w = .ok (.value v) w)
  (h:AnyL P md ops Q S z k (listed.setIfInBounds i true) (a.put oi.dst v) w):AnyL P md ops Q S z (k+1) listed a w :=
 AnyL.first hi (Region.noSelect_spec hs) hQ (fun oz ho=>by
  rw [ho] at hz
  simp at hz
  obtain ⟨m,hm,h1,h2⟩:=hz
  exact ⟨_,Array.getElem_mem hm,h1,h2⟩) k listed a w (Region.free_spec hi hf) (by simpa using hr) (Or.inl ⟨hw,hy⟩) hS h
theorem AnyL.one {i : Nat} {o : Oper} {k : Nat} {listed : Array Bool} {a : Act} {w : World} (hr : Region.ready md ops listed = [i]) (ho : ops[i]? = some o) (hw : Region.wanted o (yielded ops a.tmps) = true)
  (h:∀ K:Act→World→Prop,Shut (∀ a' w',(i ≠ z→S w')→AnyL P md ops Q S z k (listed.setIfInBounds i true) a' w'→K a' w')→Oper.wp P o a w K Q):AnyL P md ops Q S z (k+1) listed a w:=by
 refine ⟨fun h=>absurd h (by rw [hr];simp),fun j hj=>?_⟩
 rw [hr] at hj
 obtain rfl:j=i:=by simpa using hj
 unfold wpOp
 simp only [ho,hw,if_true]
 exact Or.inl (h _ (fun a' w' h1 h2=>⟨h1,h2⟩))
theorem AnyL.region {id:Nat} {a:Act} {w:World} (hm:P.follows .mixedOrders=true) (h:AnyL P .any ops Q S z ops.size (Array.replicate ops.size false) a w.drew):(Code.region id ops true).wp P Q a w :=
 wp_region_any hm (AnyL.any _ _ _ _ h)
theorem AnyL.takeAt (i : Nat) (v : Value) {l : List Oper} {oi : Oper} {k : Nat} {listed : Array Bool} {a : Act} {w : World} (hi : l[i]? = some oi)
  (hs:Region.noSelect l.toArray=true) (hf:Region.free md l.toArray listed i=true) (hr:(Region.ready md l.toArray listed).contains i=true)
  (hz:(l.toArray[z]?).all (fun o=>o.after.any fun e=>Region.binds md e && e.on == i)=true)
  (hQ:∀ c a w,Q (.panic c) (a.put oi.dst v) w→Q (.panic c) a w) (hw:Region.wanted oi (yielded l.toArray a.tmps)=true) (hS:S w) (hy:∀ w,S w→(execOp a.eval oi).run P w = .ok (.value v) w)
  (h:AnyL P md l.toArray Q S z k (listed.setIfInBounds i true) (a.put oi.dst v) w):AnyL P md l.toArray Q S z (k+1) listed a w :=
 AnyL.take (by simpa using hi) hs hf hr hQ hz hw hS hy h
theorem AnyL.oneAt (i : Nat) {l : List Oper} {o : Oper} {k : Nat} {listed : Array Bool} {a : Act} {w : World} (ho : l[i]? = some o) (hr : Region.ready md l.toArray listed = [i]) (hw : Region.wanted o (yielded l.toArray a.tmps) = true)
  (h:∀ K:Act→World→Prop,Shut (∀ a' w',(i ≠ z→S w')→AnyL P md l.toArray Q S z k (listed.setIfInBounds i true) a' w'→K a' w')→Oper.wp P o a w K Q):AnyL P md l.toArray Q S z (k+1) listed a w :=
 AnyL.one hr (by simpa using ho) hw h
theorem AnyL.done {listed:Array Bool} {a:Act} {w:World} (hr:Region.ready md ops listed = []) (h:Q .normal a w):AnyL P md ops Q S z 0 listed a w:=⟨hr,h⟩
end
end Go.Proofs.Ytamcnmnaadpfoaa
