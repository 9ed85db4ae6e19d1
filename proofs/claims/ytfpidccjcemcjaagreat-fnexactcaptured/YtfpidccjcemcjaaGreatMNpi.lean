import Derived.Test.YtfpidccjcemcjaaGreatMZsq
import Derived.Test.YtfpidccjcemcjaaGreatMNqc
namespace Go.Proofs.YtfpidccjcemcjaaGreat.Fo
open Go.ChangeShapes Go.WideShapes Go.ChangeAt Go.RowKit
set_option linter.unusedVariables false
set_option maxRecDepth 100000
theorem cell_is {W:World} {b j:Nat} {v:Value} (h:W.cell? ⟨b,j,none⟩=some v):∃ o:Obj,W.heap[b]? = some o∧o.isCells=true:=by
 cases e:W.heap[b]? with
 | none=>simp [World.cell?,e] at h
 | some o =>
  cases o with
  | cells _ _ _=>exact ⟨_,rfl,rfl⟩
  | _=>simp [World.cell?,e] at h
theorem cell_isA {W:World} {a:Addr} {v:Value} (h:W.cell? a=some v):∃ o:Obj,W.heap[a.block]? = some o∧o.isCells=true:=by
 cases e:W.heap[a.block]? with
 | none=>simp [World.cell?,e] at h
 | some o =>
  cases o with
  | cells _ _ _=>exact ⟨_,rfl,rfl⟩
  | _=>simp [World.cell?,e] at h
def Kc (Bad:Nat→Prop) (W W':World):Prop:=∀ (k:Nat) (o:Obj),¬ Bad k→W.heap[k]? = some o→o.isCells=true→W'.heap[k]? = some o
theorem Kc.cell {Bad:Nat→Prop} {W W':World} (h:Kc Bad W W') {a:Addr} {v:Value} (hb:¬ Bad a.block) (hc:W.cell? a=some v):W'.cell? a=some v:=by
 obtain ⟨o,h1,h2⟩:=cell_isA hc
 exact (World.cell?_of_block ((h _ o hb h1 h2).trans h1.symm)).trans hc
theorem Kc.of_blk {Bad:Nat→Prop} {W W':World} (h:∀ k,k < W.heap.size→¬ Bad k→W'.heap[k]? = W.heap[k]?):Kc Bad W W':=fun k o hb ho _=>(h k (lt_of_obj ho) hb).trans ho
def RowG (Bad:Nat→Prop) (W:World) (s:Value) (n:Nat) (A:Nat→Int):Prop :=
 ∃ pa cap,s = .slice pa n cap∧(0 < n→∃ a:Addr,pa=some a∧n≤cap∧¬ Bad a.block∧∀ i,i < n→W.cell? (a.add i)=some (.int .i64 (A i)))
theorem RowG.keep {Bad:Nat→Prop} {W W':World} {s:Value} {n:Nat} {A:Nat→Int} (h:RowG Bad W s n A) (k:Kc Bad W W'):RowG Bad W' s n A:=by
 obtain ⟨pa,cap,e,h2⟩:=h
 refine ⟨pa,cap,e,fun hn=>?_⟩
 obtain ⟨a,e1,e2,e3,e4⟩:=h2 hn
 exact ⟨a,e1,e2,e3,fun i hi=>k.cell (by rw [add_block];exact e3) (e4 i hi)⟩
theorem RowG.bad {Bad Bad2:Nat→Prop} {W:World} {s:Value} {n:Nat} {A:Nat→Int} (h:RowG Bad W s n A) (hb:∀ k,k < W.heap.size→Bad2 k→Bad k):RowG Bad2 W s n A:=by
 obtain ⟨pa,cap,e,h2⟩:=h
 refine ⟨pa,cap,e,fun hn=>?_⟩
 obtain ⟨a,e1,e2,e3,e4⟩:=h2 hn
 have hl:=lt_of_cell' (e4 0 hn)
 rw [add_block] at hl
 exact ⟨a,e1,e2,fun g=>e3 (hb _ hl g),e4⟩
theorem RowG.row {Bad:Nat→Prop} {W:World} {s:Value} {n:Nat} {A:Nat→Int} (h:RowG Bad W s n A):RowV W s n (fun i=>.int .i64 (A i)):=by
 obtain ⟨pa,cap,e,h2⟩:=h
 refine ⟨pa,cap,e,fun hn=>?_⟩
 obtain ⟨a,e1,e2,e3,e4⟩:=h2 hn
 exact ⟨a,e1,e2,e4⟩
theorem RowB.rowG {W:World} {s:Value} {n:Nat} {A:Nat→Int} (h:RowB 0 W s n (fun i=>.int .i64 (A i))) {Bad:Nat→Prop} (hb:∀ k,k < W.heap.size→¬ Bad k):RowG Bad W s n A:=by
 obtain ⟨pa,cap,e,h2⟩:=h
 refine ⟨pa,cap,e,fun hn=>?_⟩
 obtain ⟨a,e1,e2,e3,e4⟩:=h2 hn
 have hl:=lt_of_cell' (e4 0 hn)
 rw [add_block] at hl
 exact ⟨a,e1,e2,hb _ hl,e4⟩
def Scx (Bad:Nat→Prop) (W:World):Value→List Vs→Prop
 | p,[]=>p = .pointer none
 | p,v :: r=>∃ B q s,p = .pointer (some ⟨B,0,none⟩)∧¬ Bad B∧W.cell? ⟨B,0,none⟩=some q∧W.cell? ⟨B,1,none⟩=some s∧RowG Bad W s v.1 v.2∧v.1≤1048576∧Scx Bad W q r
theorem Scx.keep {Bad:Nat→Prop} {W W':World} (k:Kc Bad W W'):∀ (l:List Vs) {p:Value},Scx Bad W p l→Scx Bad W' p l
 | [],_,h=>h
 | v :: r,p,⟨B,q,s,h1,h0,h2,h3,h4,h5,h6⟩=>⟨B,q,s,h1,h0,k.cell h0 h2,k.cell h0 h3,h4.keep k,h5,Scx.keep k r h6⟩
theorem Scx.bad {Bad Bad2:Nat→Prop} {W:World} (hb:∀ k,k < W.heap.size→Bad2 k→Bad k):∀ (l:List Vs) {p:Value},Scx Bad W p l→Scx Bad2 W p l
 | [],_,h=>h
 | v :: r,p,⟨B,q,s,h1,h0,h2,h3,h4,h5,h6⟩=>⟨B,q,s,h1,fun g=>h0 (hb _ (lt_of_cell' h2) g),h2,h3,h4.bad hb,h5,Scx.bad hb r h6⟩
theorem Scx.sco {Bad:Nat→Prop} {W:World}:∀ (l:List Vs) {p:Value},Scx Bad W p l→Sco W p l
 | [],_,h=>h
 | v :: r,p,⟨B,q,s,h1,h0,h2,h3,h4,h5,h6⟩=>⟨B,q,s,h1,h2,h3,h4.row,h5,Scx.sco r h6⟩
variable {Q:Nat→Prop}
def Oks (Bad:Nat→Prop) (N:Nat→Nd) (n:Nat) (m:Int) (G:Nat) (W:World) (k:Nat):Prop :=
 ∃ (a:Option Addr) (b:Bool) (l:List Vs),W.cell? ⟨G,k*2,none⟩=some (.pointer a)∧W.cell? ⟨G,k*2+1,none⟩=some (.bool b)∧Scx Bad W (.pointer a) l∧(∀ x,inS x l↔SS N n m x k)∧b=dc (LL N n k)
def Any (n G:Nat) (W:World):Prop:=∀ k,k < n→∃ (a:Option Addr) (b:Bool),W.cell? ⟨G,k*2,none⟩=some (.pointer a)∧W.cell? ⟨G,k*2+1,none⟩=some (.bool b)
def Bd2 (Q:Nat→Prop) (G Bs:Nat) (k:Nat):Prop:=k=G∨k=Bs∨Q k
def Bd3 (Q:Nat→Prop) (G Bs A:Nat) (k:Nat):Prop:=k=G∨k=Bs∨k=A∨Q k
structure Rm (Q:Nat→Prop) (N:Nat→Nd) (n:Nat) (m:Int) (G Bs A:Nat) (X:World) (C:Int→Prop) (a:Option Addr) (b:Bool) (P:Nat→Prop) (W:World):Prop where
 os:W.os=X.os
 output:W.output=X.output
 eA:A=X.heap.size
 lG:G < X.heap.size
 gB:G ≠ Bs
 lB:Bs < X.heap.size
 lQ:∀ k,Q k→k < X.heap.size
 size:X.heap.size+1≤W.heap.size
 old:∀ k,k < X.heap.size→k ≠ G→W.heap[k]? = X.heap[k]?
 a0:W.cell? ⟨A,0,none⟩=some (.pointer a)
 a1:W.cell? ⟨A,1,none⟩=some (.bool b)
 af:∀ j,W.frozen? ⟨A,j,none⟩=false
 gf:∀ j,W.frozen? ⟨G,j,none⟩=false
 any:Any n G W
 sc:∃ l,Scx (Bd3 Q G Bs A) W (.pointer a) l∧∀ x,inS x l↔C x
 ok:∀ k,k < n→P k→Oks (Bd3 Q G Bs A) N n m G W k
theorem Oks.keep {Bad:Nat→Prop} {N:Nat→Nd} {n:Nat} {m:Int} {G:Nat} {W W':World} {k:Nat} (h:Oks Bad N n m G W k) (kc:Kc Bad W W') (h0:W'.cell? ⟨G,k*2,none⟩=W.cell? ⟨G,k*2,none⟩) (h1:W'.cell? ⟨G,k*2+1,none⟩=W.cell? ⟨G,k*2+1,none⟩):Oks Bad N n m G W' k:=by
 obtain ⟨a,b,l,e1,e2,e3,e4⟩:=h
 exact ⟨a,b,l,h0.trans e1,h1.trans e2,e3.keep kc,e4⟩
theorem Rm.drewN {N:Nat→Nd} {n:Nat} {m:Int} {G Bs A:Nat} {X:World} {C:Int→Prop} {a:Option Addr} {b:Bool} {P:Nat→Prop} {W:World} (h:Rm Q N n m G Bs A X C a b P W) (d:Nat):Rm Q N n m G Bs A X C a b P (W.drewN d):=by
 have kc:Kc (Bd3 Q G Bs A) W (W.drewN d):=fun k o _ ho _=>ho
 obtain ⟨l,l1,l2⟩:=h.sc
 exact ⟨h.os,h.output,h.eA,h.lG,h.gB,h.lB,h.lQ,h.size,h.old,h.a0,h.a1,h.af,h.gf,h.any,⟨l,l1.keep kc,l2⟩,fun k hk hp=>(h.ok k hk hp).keep kc rfl rfl⟩
theorem Rm.setb {N:Nat→Nd} {n:Nat} {m:Int} {G Bs A:Nat} {X:World} {C:Int→Prop} {a:Option Addr} {b:Bool} {P:Nat→Prop} {W:World} (h:Rm Q N n m G Bs A X C a b P W) (b':Bool):Rm Q N n m G Bs A X C a b' P (W.setCell ⟨A,1,none⟩ (.bool b')):=by
 have hA:=h.eA
 have hse:∀ k,k ≠ A→(W.setCell ⟨A,1,none⟩ (.bool b')).heap[k]? = W.heap[k]?:=fun k hne=>Below.heap_setCell W _ _ _ hne
 have kc:Kc (Bd3 Q G Bs A) W (W.setCell ⟨A,1,none⟩ (.bool b')):=.of_blk (fun k hk hb=>hse k (fun e=>hb (.inr (.inr (.inl e)))))
 have hGA:G ≠ A:=by have:=h.lG;omega
 have ce:∀ j,(W.setCell ⟨A,1,none⟩ (.bool b')).cell? ⟨G,j,none⟩=W.cell? ⟨G,j,none⟩:=fun j=>World.cell?_of_block (hse G hGA)
 obtain ⟨l,l1,l2⟩:=h.sc
 exact ⟨h.os,h.output,h.eA,h.lG,h.gB,h.lB,h.lQ,by rw [World.size_setCell];exact h.size,fun k hk hg=>(hse k (by omega)).trans (h.old k hk hg),(set_ne _ _ _ _ _ (by omega)).trans h.a0,set_eq _ _ _ _ _ h.a1,fun j=>(set_fz _ _ _ _ _).trans (h.af j),fun j=>(World.frozen?_of_block (hse G hGA)).trans (h.gf j),fun k hk=>by
  obtain ⟨a2,b2,q1,q2⟩:=h.any k hk
  exact ⟨a2,b2,(ce _).trans q1,(ce _).trans q2⟩,⟨l,l1.keep kc,l2⟩,fun k hk hp=>(h.ok k hk hp).keep kc (ce _) (ce _)⟩
theorem Rm.push {N:Nat→Nd} {n:Nat} {m:Int} {G Bs A:Nat} {X:World} {C:Int→Prop} {a:Option Addr} {b:Bool} {P:Nat→Prop} {W:World} (h:Rm Q N n m G Bs A X C a b P W) {s:Value} {p:Nat} {R:Nat→Int} (hs:RowG (Bd3 Q G Bs A) W s p R) (hp:p≤1048576) (t:TypeId):Rm Q N n m G Bs A X (fun x=>C x∨∃ j,j < p∧x=R j) (some ⟨W.heap.size,0,none⟩) b P ((W.alloc (.cells #[.pointer a,s] t)).setCell ⟨A,0,none⟩ (.pointer (some ⟨W.heap.size,0,none⟩))):=by
 have hA:=h.eA
 have hsz:=h.size
 have hlG:=h.lG
 have hlB:=h.lB
 obtain ⟨W',hW'⟩:∃ W',W'=(W.alloc (.cells #[.pointer a,s] t)).setCell ⟨A,0,none⟩ (.pointer (some ⟨W.heap.size,0,none⟩)):=⟨_,rfl⟩
 rw [← hW']
 have hse:∀ k,k ≠ A→k < W.heap.size→W'.heap[k]? = W.heap[k]?:=fun k hne hl=>by
  rw [hW',Below.heap_setCell _ _ _ _ hne]
  exact (kb_alloc 0 W _).block k zq hl
 have hnew:W'.heap[W.heap.size]? = some (.cells #[.pointer a,s] t (0,0)):=by
  rw [hW',Below.heap_setCell _ _ _ _ (by show W.heap.size ≠ A;omega)]
  exact alloc_new _ _ _
 have kc:Kc (Bd3 Q G Bs A) W W':=.of_blk (fun k hk hb=>hse k (fun e=>hb (.inr (.inr (.inl e)))) hk)
 have hGA:G ≠ A:=by omega
 have ce:∀ j,W'.cell? ⟨G,j,none⟩=W.cell? ⟨G,j,none⟩:=fun j=>World.cell?_of_block (hse G hGA (by omega))
 have cA:∀ j,(W.alloc (.cells #[.pointer a,s] t)).cell? ⟨A,j,none⟩=W.cell? ⟨A,j,none⟩:=fun j=>World.cell?_of_block ((kb_alloc 0 W _).block A zq (by omega))
 obtain ⟨l,l1,l2⟩:=h.sc
 have nb:¬ Bd3 Q G Bs A W.heap.size:=by
  rintro (e | e | e | e)
  ·omega
  ·omega
  ·omega
  ·have:=h.lQ _ e;omega
 refine ⟨by rw [hW'];exact h.os,by rw [hW'];exact h.output,h.eA,h.lG,h.gB,h.lB,h.lQ,by rw [hW',World.size_setCell,World.size_alloc];omega,fun k hk hg=>(hse k (by omega) (by omega)).trans (h.old k hk hg),?_,?_,fun j=>?_,fun j=>(World.frozen?_of_block (hse G hGA (by omega))).trans (h.gf j),fun k hk=>?_,?_,fun k hk hp=>(h.ok k hk hp).keep kc (ce _) (ce _)⟩
 ·rw [hW'];exact set_eq _ _ _ _ _ ((cA 0).trans h.a0)
 ·rw [hW',set_ne _ _ _ _ _ (by omega)];exact (cA 1).trans h.a1
 ·rw [hW',set_fz]
  exact (World.frozen?_of_block ((kb_alloc 0 W _).block A zq (by omega))).trans (h.af j)
 ·obtain ⟨a2,b2,q1,q2⟩:=h.any k hk
  exact ⟨a2,b2,(ce _).trans q1,(ce _).trans q2⟩
 ·refine ⟨(p,R) :: l,⟨W.heap.size,.pointer a,s,rfl,nb,cell_of hnew rfl,cell_of hnew rfl,hs.keep kc,hp,l1.keep kc⟩,fun x=>?_⟩
  constructor
  ·rintro ⟨v,hv,hj⟩
   rcases List.mem_cons.1 hv with rfl | hv
   ·exact .inr hj
   ·exact .inl ((l2 x).1 ⟨v,hv,hj⟩)
  ·rintro (g | g)
   ·obtain ⟨v,hv,hj⟩:=(l2 x).2 g
    exact ⟨v,List.mem_cons_of_mem _ hv,hj⟩
   ·exact ⟨(p,R),List.mem_cons_self ..,g⟩
theorem Rm.store {N:Nat→Nd} {n:Nat} {m:Int} {G Bs A:Nat} {X:World} {C:Int→Prop} {a:Option Addr} {b:Bool} {P:Nat→Prop} {W:World} (h:Rm Q N n m G Bs A X C a b P W) {k0:Nat} (hk0:k0 < n) (hC:∀ x,C x↔SS N n m x k0) (hb:b=dc (LL N n k0)):Rm Q N n m G Bs A X C a b (fun k=>P k∨k=k0) ((W.setCell ⟨G,k0*2,none⟩ (.pointer a)).setCell ⟨G,k0*2+1,none⟩ (.bool b)):=by
 have hA:=h.eA
 have hlG:=h.lG
 obtain ⟨W',hW'⟩:∃ W',W'=(W.setCell ⟨G,k0*2,none⟩ (.pointer a)).setCell ⟨G,k0*2+1,none⟩ (.bool b):=⟨_,rfl⟩
 rw [← hW']
 have hse:∀ k,k ≠ G→W'.heap[k]? = W.heap[k]?:=fun k hne=>by rw [hW',Below.heap_setCell _ _ _ _ hne,Below.heap_setCell _ _ _ _ hne]
 have kc:Kc (Bd3 Q G Bs A) W W':=.of_blk (fun k hk hb=>hse k (fun e=>hb (.inl e)))
 have hGA:A ≠ G:=by omega
 have cA:∀ j,W'.cell? ⟨A,j,none⟩=W.cell? ⟨A,j,none⟩:=fun j=>World.cell?_of_block (hse A hGA)
 obtain ⟨a2,b2,q1,q2⟩:=h.any k0 hk0
 have e0:W'.cell? ⟨G,k0*2,none⟩=some (.pointer a):=by rw [hW',set_ne _ _ _ _ _ (by omega)];exact set_eq _ _ _ _ _ q1
 have e1:W'.cell? ⟨G,k0*2+1,none⟩=some (.bool b):=by rw [hW'];exact set_eq _ _ _ _ _ ((set_ne _ _ _ _ _ (by omega)).trans q2)
 have ef:∀ j,j ≠ k0*2→j ≠ k0*2+1→W'.cell? ⟨G,j,none⟩=W.cell? ⟨G,j,none⟩:=fun j h1 h2=>by rw [hW',set_ne _ _ _ _ _ h2,set_ne _ _ _ _ _ h1]
 obtain ⟨l,l1,l2⟩:=h.sc
 refine ⟨by rw [hW'];exact h.os,by rw [hW'];exact h.output,h.eA,h.lG,h.gB,h.lB,h.lQ,by rw [hW',World.size_setCell,World.size_setCell];exact h.size,fun k hk hg=>(hse k hg).trans (h.old k hk hg),(cA 0).trans h.a0,(cA 1).trans h.a1,fun j=>(World.frozen?_of_block (hse A hGA)).trans (h.af j),fun j=>by rw [hW',set_fz,set_fz];exact h.gf j,fun k hk=>?_,⟨l,l1.keep kc,l2⟩,fun k hk hp=>?_⟩
 ·by_cases e:k=k0
  ·subst e;exact ⟨a,b,e0,e1⟩
  ·obtain ⟨a3,b3,r1,r2⟩:=h.any k hk
   exact ⟨a3,b3,(ef _ (by omega) (by omega)).trans r1,(ef _ (by omega) (by omega)).trans r2⟩
 ·by_cases e:k=k0
  ·subst e;exact ⟨a,b,l,e0,e1,l1.keep kc,fun x=>(l2 x).trans (hC x),hb⟩
  ·exact (h.ok k hk (hp.resolve_right e)).keep kc (ef _ (by omega) (by omega)) (ef _ (by omega) (by omega))
structure Sp (Q:Nat→Prop) (w:World) (N:Nat→Nd) (n:Nat) (m:Int) (AN:Addr) (ca Bs:Nat) (P:Nat→Prop) (W:World):Prop where
 os:W.os=w.os
 output:W.output=w.output
 sB:w.heap.size+4 < Bs
 lQ:∀ k,Q k→k < w.heap.size
 size:Bs < W.heap.size
 old:∀ k,k < w.heap.size→W.heap[k]? = w.heap[k]?
 b1:W.cell? ⟨w.heap.size+1,0,none⟩=some (.slice (some AN) n ca)
 b3:W.cell? ⟨w.heap.size+1+1+1,0,none⟩=some (.slice (some ⟨w.heap.size+1+1,0,none⟩) n n)
 gf:∀ j,W.frozen? ⟨w.heap.size+1+1,j,none⟩=false
 any:Any n (w.heap.size+1+1) W
 ok:∀ k,k < n→P k→Oks (Bd2 Q (w.heap.size+1+1) Bs) N n m (w.heap.size+1+1) W k
theorem Sp.blk {w:World} {N:Nat→Nd} {n:Nat} {m:Int} {AN:Addr} {ca Bs:Nat} {P:Nat→Prop} {W W':World} (h:Sp Q w N n m AN ca Bs P W) (h1:W'.os=W.os) (h2:W'.output=W.output) (h3:W.heap.size≤W'.heap.size) (h5:∀ k,k < w.heap.size+4→W'.heap[k]? = W.heap[k]?) (h4:Kc (Bd2 Q (w.heap.size+1+1) Bs) W W'):Sp Q w N n m AN ca Bs P W':=by
 have hs:=h.size
 have hB:=h.sB
 have ce:∀ j,W'.cell? ⟨w.heap.size+1+1,j,none⟩=W.cell? ⟨w.heap.size+1+1,j,none⟩:=fun j=>World.cell?_of_block (h5 _ (by show w.heap.size+1+1 < _;omega))
 refine ⟨h1.trans h.os,h2.trans h.output,h.sB,h.lQ,by omega,fun k hk=>(h5 k (by omega)).trans (h.old k hk),(World.cell?_of_block (h5 _ (by show w.heap.size+1 < _;omega))).trans h.b1,(World.cell?_of_block (h5 _ (by show w.heap.size+1+1+1 < _;omega))).trans h.b3,fun j=>(World.frozen?_of_block (h5 _ (by show w.heap.size+1+1 < _;omega))).trans (h.gf j),fun k hk=>?_,fun k hk hp=>(h.ok k hk hp).keep h4 (ce _) (ce _)⟩
 obtain ⟨a2,b2,q1,q2⟩:=h.any k hk
 exact ⟨a2,b2,(ce _).trans q1,(ce _).trans q2⟩
theorem own_sp {w:World} {N:Nat→Nd} {n:Nat} {m:Int} {AN:Addr} {ca Bs M:Nat} {β : Type} {P : β → Nat→Prop} (hM:Bs < M):OwnFrom M (fun pre : β=>Sp Q w N n m AN ca Bs (P pre)):=fun pre X X' row h hg hr=>by
 have hs:=h.size
 have hB:=h.sB
 refine h.blk hg.os hg.output hg.size (fun k hk=>hg.block k (by omega) (fun e=>?_)) (fun k o hb ho hc=>?_)
 ·have:=(hr k e.symm).1
  omega
 ·refine (hg.block k (lt_of_obj ho) (fun e=>?_)).trans ho
  obtain ⟨_,o',ho',hc'⟩:=hr k e.symm
  rw [ho] at ho'
  have:o=o':=by simpa using ho'
  subst this
  rw [hc] at hc'
  cases hc'
end Go.Proofs.YtfpidccjcemcjaaGreat.Fo
