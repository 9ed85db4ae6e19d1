import Derived.Test.YtfpidccjcemcjaaGreatMZsq
import Derived.Test.YtfpidccjcemcjaaGreatMNga
import Derived.Test.YtfpidccjcemcjaaGreatMNia
import Derived.RangeFuncFrom
import Derived.RangeFuncLeaves
import Derived.RangeFuncCalls
import Derived.OwnWalkIn
import Derived.TacticsInMore
import Derived.LoopNIn
import Derived.LoopIn
import Derived.Shelf.Abstract
import Derived.RangeFuncBox
import Derived.Shelf.RegionOpen
set_option maxRecDepth 100000
set_option maxHeartbeats 4000000
namespace Go.Proofs.YtfpidccjcemcjaaGreat.Fo
open Go.ChangeShapes Go.WideShapes Go.ChangeAt Go.RowKit
set_option linter.unusedVariables false
set_option maxRecDepth 100000
theorem ck_pos {K:Nat→Int} {k:Int}:∀ q i,i < q→K i=k→1≤ck K k q
 | q+1,i,h,e=>by
  unfold ck
  by_cases g:i=q
  ·subst g;rw [if_pos e];omega
  ·have:=ck_pos q i (by omega) e;omega
theorem cn_pos {N:Nat→Nd} {k:Int}:∀ n t i,t < n→i < (N t).q→(N t).K i=k→1≤cn N k n
 | n+1,t,i,h,hi,e=>by
  unfold cn
  by_cases g:t=n
  ·subst g;have:=ck_pos _ i hi e;omega
  ·have:=cn_pos n t i (by omega) hi e;omega
theorem cn_uniq {N:Nat→Nd} {k:Int}:∀ n t i t' i',cn N k n≤1→t < n→i < (N t).q→(N t).K i=k→t' < n→i' < (N t').q→(N t').K i'=k→t=t'
 | n+1,t,i,t',i',hc,h,hi,e,h',hi',e'=>by
  unfold cn at hc
  by_cases g:t=n
  ·by_cases g':t'=n
   ·omega
   ·have h1:=cn_pos n t' i' (by omega) hi' e'
    subst g
    have h2:=ck_pos _ i hi e
    omega
  ·by_cases g':t'=n
   ·have h1:=cn_pos n t i (by omega) hi e
    subst g'
    have h2:=ck_pos _ i' hi' e'
    omega
   ·exact cn_uniq n t i t' i' (by omega) (by omega) hi e (by omega) hi' e'
theorem grn_uniq {N:Nat→Nd} {n:Nat} {PA DA PB DB:Nat→Int} (h:Grn N n PA DA) (g:Grn N n PB DB) (h1:∀ k,k+1 < n→cn N (k:Int) n=1) (hK:∀ t,t < n→∀ i,i < (N t).q→0≤(N t).K i∧(N t).K i < (t:Int)):(∀ k,k < n→PA k=PB k)∧∀ k,k < n→DA k=DB k:=by
 have hp:∀ k,k < n→PA k=PB k:=by
  intro k hk
  by_cases e:k+1 < n
  ·obtain ⟨t,ht,e1,i,hi,e2⟩:=(h.2.1 k e).2.1 (h1 k e)
   obtain ⟨t',ht',e1',i',hi',e2'⟩:=(g.2.1 k e).2.1 (h1 k e)
   have:=cn_uniq n t i t' i' (by rw [h1 k e];exact Nat.le_refl _) ht hi e2 ht' hi' e2'
   rw [e1,e1',this]
  ·rw [show k=n - 1 by omega,h.1,g.1]
 refine ⟨hp,?_⟩
 have:∀ d k,k < n→n - k≤d→DA k=DB k:=by
  intro d
  induction d with
  | zero=>intro k hk hd;omega
  | succ d ih =>
   intro k hk hd
   obtain ⟨a1,a2,a3,a4⟩:=h.2.2.1 k zq hk
   obtain ⟨b1,b2,b3,b4⟩:=g.2.2.1 k zq hk
   by_cases e:k+1 < n
   ·obtain ⟨t,ht,e1,i,hi,e2⟩:=(h.2.1 k e).2.1 (h1 k e)
    have hlt:=hK t ht i hi
    have e3:PB k=(t:Int):=by rw [← hp k hk];exact e1
    rw [a3 (by omega),b3 (by omega),e1,e3,Int.toNat_natCast,ih t ht (by omega)]
   ·rw [show k=n - 1 by omega]
    rw [show k=n - 1 by omega] at a4 b4
    rw [a4 (by rw [h.1];omega),b4 (by rw [g.1];omega)]
 exact fun k hk=>this (n - k) k hk (Nat.le_refl _)
def P5 (N:Nat→Nd) (n j:Nat):Prop:=∀ PA DA,Grn N n PA DA→DA j≤100
def Q4 (F:Nat→Fd) (f j:Nat):Prop:=P4 (F f).N (F f).n j
def Q5 (F:Nat→Fd) (f j:Nat):Prop:=P5 (F f).N (F f).n j
def An2 (nf:Nat) (F:Nat→Fd) (c f n:Nat):Prop :=
 (c=4∧Lx (Q4 F) (Ln F) nf f n)∨(c=5∧La (Q4 F) (Ln F) nf∧Lx (Q5 F) (Ln F) nf f n)∨(c=0∧f=0∧n=0∧La (Q4 F) (Ln F) nf∧La (Q5 F) (Ln F) nf)
theorem kids_ok {nf:Nat} {F:Nat→Fd} (hb:Bd nf F) (h3:La (P3 F) (Ln F) nf):∀ f,f < nf→(∀ t,t < (F f).n→((F f).N t).q≤200)∧∀ t,t < (F f).n→∀ i,i < ((F f).N t).q→0≤((F f).N t).K i∧((F f).N t).K i < (t:Int):=by
 intro f hf
 refine ⟨fun t ht=>?_,fun t ht i hi=>⟨((h3 f hf t ht).2.2.1 i hi).1,((h3 f hf t ht).2.2.1 i hi).2.1⟩⟩
 exact ((sh_eq (hb.hm f hf t ht) (hb.hN f hf t ht).1 (fun j hj=>(h3 f hf j (Nat.lt_trans hj ht)).1)).2 (h3 f hf t ht)).1
end Go.Proofs.YtfpidccjcemcjaaGreat.Fo
namespace Go.Proofs.YtfpidccjcemcjaaGreat.Fo
open Go.ChangeShapes Go.WideShapes Go.ChangeAt Go.RowKit Go.Shelf
set_option linter.unusedVariables false
set_option maxRecDepth 100000
attribute [local go_sem] Oper.semAt_some
structure Kx (B:Nat) (a w:World):Prop where
 os:w.os=a.os
 output:w.output=a.output
 size:a.heap.size≤w.heap.size
 block:∀ i,i < a.heap.size→i ≠ B→w.heap[i]? = a.heap[i]?
def bodyEnd {α : Type} (n₀ B:Nat) (I:List α → World→Prop) (xs:List α) (W:World):Exit→Act→World→Prop
 | .normal,_,W'=>KeepsFrom n₀ W W'∧I xs W'∧W'.heap[B]? = W.heap[B]?
 | _,_,_=>False
theorem wpIn_rangeFunc_s0 {α : Type} {P : Program} {n : Nat} {g : Operand} {ps : Array Tmp} {assign body : Code} {Q : Exit → Act → World → Prop} {a : Act} {w : World}
    (h1 : 1≤n) {gf:Nat} {lb:Array Value} (hg:a.eval g = .func (.func gf) #[] lb) (eg:∀ args w,(callFunc gf args).run P w = .ok (.enter gf args) w)
    {encs : α → Array Value} (hps:∀ x,(encs x).size=ps.size) (B:Nat) (hB:B < w.heap.size) (xs:List α) (E:World→Prop)
    (I:List α → World→Prop) (hI:OwnFrom w.heap.size I) (hIK:∀ s W W',I s W→Kx B W W'→I s W') (h0:I [] w)
    (hE:∀ W l o',w.heap.size≤l→E W→E (W.putObj l o'))
    (hiter:∀ (lp:Nat) (J:List α → World→Prop) (W:World),Below w.heap.size w W→(∀ pre W W',J pre W→Kx B W W'→J pre W')→(∀ pre W,J pre W→I pre W) →
      (∀ pre x W,J pre W→pre.length < xs.length→YieldAt Fence.wide (n - 1 - 1) P lp (encs x) W fun e W'=>e = .returned (.bool true)∧J (pre ++ [x]) W'∧W'.heap[B]? = W.heap[B]?)→J [] W →
      CallsIn Fence.wide (n - 1) P gf (#[.func (.yield lp) #[] #[]] ++ lb) W fun en W'=>(∃ v,en = .returned v)∧J xs W'∧E W')
    (a₁ : α → Act)
    (hassign:∀ (l:Nat) (x : α) (W:World) (K:Act→World→Prop),K (a₁ x) W →
      assign.wpIn (Fence.wide.inRound l) (n - 1 - 1) P (Exit.then K (fun _ _ _=>False)) { tmps:=(ps.zip (encs x)).foldl (fun t (p,v)=>t.setIfInBounds p v) a.tmps,defers:=[] } W)
    (hbody:∀ (l:Nat) (pre:List α) (x : α) (W:World),pre.length < xs.length→I pre W →
      body.wpIn (Fence.wide.inRound l) (n - 1 - 1) P (bodyEnd w.heap.size B I (pre ++ [x]) W) (a₁ x) W)
    (hdone:∀ (D:Nat) (W:World),w.heap.size≤D→I xs W→E W→W.heap[D]? = some (.deferred (some []))→Q .normal { a with defers:={ target:=.collected D,args:=#[] } :: a.defers } W) :
    (Code.rangeFunc g ps assign body).wpIn Fence.wide n P Q a w:=by
  refine wpIn_rangeFunc ?_
  intro fn hfn
  rw [show Fence.wide.round=none from rfl]
  obtain ⟨rec,hrec⟩:∃ rec:LoopState→Option Code→Loop,rec=fun st pe=>{ state:=st,pending:=pe,fn,tmps:=a.tmps,params:=ps,assign,body,defers:=w.heap.size }:=⟨_,rfl⟩
  obtain ⟨W1,hW1⟩:∃ W1,(w.alloc (.deferred (some []))).alloc (.loop (rec .ready none))=W1:=⟨_,rfl⟩
  have hL1:W1.heap[w.heap.size+1]? = some (.loop (rec .ready none)):=by
    rw [← hW1];have:=World.alloc_heap_new (w.alloc (.deferred (some []))) (.loop (rec .ready none));rwa [World.size_alloc] at this
  have hK1:W1.heap[w.heap.size]? = some (.deferred (some [])):=by
    rw [← hW1];exact (Below.heap_alloc _ _ _ (by simp)).trans (World.alloc_heap_new w _)
  have hI1:I [] W1:=by rw [← hW1];exact hI.alloc _ (hI.alloc _ h0)
  have hb1:Below w.heap.size w W1:=by
    rw [← hW1];exact ((Below.refl _ w).alloc (Nat.le_refl _) _).alloc (by simp) _
  refine ⟨w.heap.size+1,[{ target:=.collected w.heap.size,args:=#[] }],W1,{ target:=.fn (.func gf) lb,args:=#[.func (.yield (w.heap.size+1)) #[] #[]] },W1,gf,
    #[.func (.yield (w.heap.size+1)) #[] #[]] ++ lb,W1,?_,?_,?_,?_,fun _=>h1,?_⟩
  · rw [← hW1,hrec];exact run_enterLoop_outer _ _ _ _ _
  · simp only [resolve,hg]
    simp [go_sem]
  · intro f' hf';trivial
  · simp [invoke,go_sem,eg]
  · refine (hiter (w.heap.size + 1)
      (fun pre W=>I pre W∧W.heap[w.heap.size+1]? = some (.loop (rec .ready none))∧W.heap[w.heap.size]? = some (.deferred (some [])))
      W1 hb1 ?_ (fun pre W h=>h.1) ?_ ⟨hI1,hL1,hK1⟩).mono ?_
    · rintro pre W W' ⟨hi,hl,hk⟩ hkb
      have l1:w.heap.size+1 < W.heap.size:=(Array.getElem?_eq_some_iff.1 hl).1
      exact ⟨hIK _ _ _ hi hkb,(hkb.block _ l1 (by omega)).trans hl,(hkb.block _ (by omega) (by omega)).trans hk⟩
    · rintro pre x W ⟨hi,hl,hk⟩ hlen
      have hlt:w.heap.size+1 < W.heap.size:=(Array.getElem?_eq_some_iff.1 hl).1
      have hy:=run_yield (P:=P) (args:=encs x) hl (by rw [hrec];exact hps x)
      rw [hrec] at hy
      refine ⟨fn,_,assign,body,hy,roundIn_of_wpIn hfn (hassign _ x W _ ⟨_,run_beginRound hl (by rw [hrec]),?_⟩)⟩
      obtain ⟨W2,hW2⟩:∃ W2,W.putObj (w.heap.size+1) (.loop { rec .ready none with state:=.busy })=W2:=⟨_,rfl⟩
      rw [hW2]
      have hl2:W2.heap[w.heap.size+1]? = some (.loop { rec .ready none with state:=.busy }):=by rw [← hW2];exact World.putObj_heap_same (by omega)
      have hk2:W2.heap[w.heap.size]? = some (.deferred (some [])):=by rw [← hW2];exact (World.putObj_heap_other (by omega)).trans hk
      have hi2:I pre W2:=by rw [← hW2];exact hI.putObj _ hi (by omega) hl rfl
      have hB2:W2.heap[B]? = W.heap[B]?:=by rw [← hW2];exact World.putObj_heap_other (by omega)
      refine wpIn_mono (hbody _ pre x W2 hlen hi2) ?_
      rintro e a3 W3 hp
      cases e with
      | normal =>
        obtain ⟨hk3,hi3,hB3⟩:=hp
        have hl3:=hk3.same _ _ (by omega) hl2 rfl
        have hr:=run_endRound (P:=P) none hl3
        rw [hrec] at hr hl3 ⊢
        refine ⟨_,_,hr,rfl,⟨hI.putObj _ hi3 (by omega) hl3 rfl,World.putObj_heap_same (Array.getElem?_eq_some_iff.1 hl3).1,(World.putObj_heap_other (by omega)).trans (hk3.same _ _ (by omega) hk2 rfl)⟩,?_⟩
        exact (World.putObj_heap_other (by omega)).trans (hB3.trans hB2)
      | ret=>exact hp.elim
      | exit id=>exact hp.elim
      | goto t=>exact hp.elim
      | panic ch=>exact hp.elim
      | outgrown=>exact hp.elim
    · rintro e W2 ⟨⟨v,rfl⟩,⟨hi,hl,hk⟩,hE2⟩
      exact ⟨none,_,by have:=run_endLoop (P:=P) hl (by rw [hrec];simp);rw [hrec] at this;exact this,hdone _ _ (Nat.le_refl _) (hI.putObj _ hi (by omega) hl rfl) (hE _ _ _ (by omega) hE2) ((World.putObj_heap_other (by omega)).trans hk)⟩
def bwl (q k:Nat):List Nat:=(List.range k).map (fun j=>q - 1 - j)
theorem bwl_succ (q k:Nat):bwl q (k+1)=bwl q k ++ [q - 1 - k]:=by simp [bwl,List.range_succ]
def Ord {q:Nat} (pre:List {j:Nat // j < q}):Prop:=pre.map (fun x=>x.val)=bwl q pre.length
theorem Ord.nil {q:Nat}:Ord ([]:List {j:Nat // j < q}):=rfl
theorem Ord.app {q:Nat} {pre:List {j:Nat // j < q}} {x : {j:Nat // j < q}} (h:Ord (pre ++ [x])):Ord pre∧x.val=q - 1 - pre.length:=by
 unfold Ord at h
 rw [List.map_append,List.length_append,List.length_cons,List.length_nil,Nat.zero_add,bwl_succ] at h
 have h2:=List.append_inj' h rfl
 exact ⟨h2.1,by simpa using h2.2⟩
theorem Ord.push {q:Nat} {pre:List {j:Nat // j < q}} {x : {j:Nat // j < q}} (h:Ord pre) (hx:x.val=q - 1 - pre.length):Ord (pre ++ [x]):=by
 unfold Ord
 rw [List.map_append,List.length_append,List.length_cons,List.length_nil,Nat.zero_add,bwl_succ,show pre.map (fun x=>x.val) = _ from h,← hx]
 rfl
def Kp2 (n Bs:Nat) (W W':World):Prop:=∀ k,k < n∨k=Bs→W'.heap[k]? = W.heap[k]?
theorem Kp2.refl (n Bs:Nat) (W:World):Kp2 n Bs W W:=fun _ _=>rfl
theorem Kp2.trans {n Bs:Nat} {A B C:World} (h:Kp2 n Bs A B) (k:Kp2 n Bs B C):Kp2 n Bs A C:=fun i hi=>(k i hi).trans (h i hi)
theorem ord_ex (q:Nat):∀ k,k≤q→∃ xs:List {j:Nat // j < q},Ord xs∧xs.length=k:=by
 intro k
 induction k with
 | zero=>intro _;exact ⟨[],Ord.nil,rfl⟩
 | succ k ih =>
  intro h
  obtain ⟨xs,h1,h2⟩:=ih (by omega)
  exact ⟨xs ++ [⟨q - 1 - k,by omega⟩],h1.push (by rw [h2]),by simp [h2]⟩
theorem map_val_inj {q:Nat}:∀ {xs ys:List {j:Nat // j < q}},xs.map (fun x=>x.val)=ys.map (fun x=>x.val)→xs=ys
 | [],[],_=>rfl
 | [],_ :: _,h=>by cases h
 | _ :: _,[],h=>by cases h
 | x :: xs,y :: ys,h=>by
  simp only [List.map_cons,List.cons.injEq] at h
  rw [Subtype.ext h.1,map_val_inj h.2]
theorem ord_uniq {q:Nat} {xs ys:List {j:Nat // j < q}} (hx:Ord xs) (hy:Ord ys) (h:xs.length=ys.length):xs=ys :=
 map_val_inj ((show _ = _ from hx).trans ((congrArg (bwl q) h).trans (show _ = _ from hy).symm))
def mks (rs:List Nat):List Deferred:=rs.map (fun r=>{ target:=.collected r,args:=#[] })
def Mks (b m:Nat) (rs:List Nat) (W:World):Prop:=rs.Nodup∧∀ r,r ∈ rs→b≤r∧r < m∧W.heap[r]? = some (.deferred (some []))
theorem leaves_marks {F : Fence} {n : Nat} {P : Program} {fn : Func} {tmps : Array Value} {R : Ending → World → Prop} : ∀ (rs : List Nat) (w : World), rs.Nodup → (∀ r, r ∈ rs → w.heap[r]? = some (.deferred (some []))) →
  (∀ w':World,w'.os=w.os→w'.output=w.output→w'.heap.size=w.heap.size→(∀ k,k ∉ rs→w'.heap[k]? = w.heap[k]?)→LeavesInM F n P fn tmps R [] .returning w')→LeavesInM F n P fn tmps R (mks rs) .returning w:=by
 intro rs
 induction rs with
 | nil=>intro w _ _ h;exact h w rfl rfl rfl (fun _ _=>rfl)
 | cons r rs ih =>
  intro w hn hr h
  have hr0:=hr r (by simp)
  have hnr:r ∉ rs:=(List.nodup_cons.1 hn).1
  refine ⟨by simp,.inl ⟨r,_,rfl,run_takeDeferred hr0,?_⟩⟩
  refine ih _ (List.nodup_cons.1 hn).2 (fun r' h'=>?_) (fun w' h1 h2 h3 h4=>h w' h1 h2 (by rw [h3];simp) (fun k hk=>?_))
  ·rw [World.putObj_heap_other (fun e:r'=r=>hnr (e ▸ h'))];exact hr r' (by simp [h'])
  ·rw [h4 k (fun e=>hk (by simp [e]))]
   exact World.putObj_heap_other (fun e=>hk (by simp [e]))
attribute [local go_sem] Oper.semAt_some
theorem bwk_in (n : Nat) (hn : 1 ≤ n) (l Bs : Nat) (w0 : World) {v : Value} {q : Nat} {PK : Nat → Option Addr} {Q CK : Nat → Nat} (hq : q ≤ 1048576) (hr : RowV w0 v q (fun i => .slice (PK i) (Q i) (CK i))) (J Jx : List {j : Nat // j < q} → World → Prop)
    (hY:∀ pre x W,J pre W→pre.length < q→YieldAt Fence.wide (n - 1) Tryz.prog l #[.int .i64 (x.val:Int),.slice (PK x.val) (Q x.val) (CK x.val)] W fun e W' =>
      (e = .returned (.bool true)∧J (pre ++ [x]) W'∧Kp2 w0.heap.size Bs W W')∨(e = .returned (.bool false)∧Jx (pre ++ [x]) W'))
    (W:World) (hW:∀ k,k < w0.heap.size→W.heap[k]? = w0.heap[k]?) (hBs:W.cell? ⟨Bs,0,none⟩=some v) (h0:J [] W) :
    CallsIn Fence.wide n Tryz.prog 107 #[.func (.yield l) #[] #[],.pointer (some ⟨Bs,0,none⟩)] W fun e W'=>(∃ v,e = .returned v) ∧
      ((∃ ys,(Ord ys∧ys.length=q)∧J ys W')∨(∃ pre,Ord pre∧Jx pre W')):=by
  obtain ⟨pa,ca,rfl,hr2⟩:=hr
  have hqI:(q:Int)≤1048576:=by omega
  have HR:Hid (0 < q→∃ a:Addr,pa=some a∧q≤ca∧∀ i,i < q→w0.cell? (a.add i)=some (.slice (PK i) (Q i) (CK i))):=hr2
  have HY : Hid (∀ pre x W, J pre W → pre.length < q → YieldAt Fence.wide (n - 1) Tryz.prog l #[.int .i64 (x.val : Int), .slice (PK x.val) (Q x.val) (CK x.val)] W fun e W' =>
      (e = .returned (.bool true)∧J (pre ++ [x]) W'∧Kp2 w0.heap.size Bs W W')∨(e = .returned (.bool false)∧Jx (pre ++ [x]) W')):=hY
  have HW:Hid ((∀ k,k < w0.heap.size→W.heap[k]? = w0.heap[k]?)∧W.cell? ⟨Bs,0,none⟩=some (.slice pa q ca)):=(⟨hW,hBs⟩:_∧_)
  clear hr2 hY hW hq
  refine callsIn_of_wp Tryz.func107 rfl trivial ?_ rfl
  simp only [Tryz.ntmps107,List.size_toArray,List.length_cons,List.length_nil,Nat.reduceAdd,Nat.reduceSub,Array.replicate_succ,Array.replicate_zero,List.push_toArray,List.append_toArray,List.nil_append,List.cons_append]
  gi_wp2_with fail
  gi_loopw [3] (fun i wr=>∃ k:Nat,k≤q∧i = .int .i64 ((q:Int) - 1 - (k:Int))∧Hid (∃ pre,pre.length=k∧Ord pre∧J pre wr∧Kp2 w0.heap.size Bs W wr)) (fun i _=>(intOf i+1).toNat)
  case atStart=>exact ⟨0,Nat.zero_le _,by first | rfl | simp,(⟨[],rfl,Ord.nil,h0,Kp2.refl _ _ _⟩:∃ pre,_)⟩
  case round =>
    clear h0 hBs
    obtain ⟨k,hk,rfl,HI⟩:=hrel
    obtain ⟨pre,hpl,hord,hj,hkp⟩:=(uh HI)
    obtain ⟨hW,hBs⟩:=(uh HW)
    have c0:wr.cell? ⟨Bs,0,none⟩=some (.slice pa q ca):=(World.cell?_of_block (hkp Bs (.inr rfl))).trans hBs
    rcases Nat.lt_or_ge k q with hlt | hge
    · obtain ⟨j,hjk⟩:∃ j:Nat,j=q - 1 - k:=⟨_,rfl⟩
      have ej:(q:Int) - 1 - (k:Int)=(j:Int):=by omega
      obtain ⟨a,rfl,hca,hra⟩:=(uh HR) (by omega)
      have q0:=hra j (by omega)
      have hl0:=lt_of_cell' q0
      have qa:wr.cell? (a.add j)=some (.slice (PK j) (Q j) (CK j)):=(World.cell?_of_block ((hkp _ (.inl hl0)).trans (hW _ hl0))).trans q0
      have hjq:(j:Int) < (q:Int):=by omega
      have hjN:j < q:=by omega
      obtain ⟨fn,tmps,assign,body,hy,hR⟩:=(uh HY) pre ⟨j,hjN⟩ wr hj (by omega)
      have HX:Hid (Ord (pre ++ [⟨j,hjN⟩])∧(pre ++ [(⟨j,hjN⟩ : {j:Nat // j < q})]).length=k+1∧Kp2 w0.heap.size Bs W wr):=(⟨hord.push (by show j = _;omega),by simp;omega,hkp⟩:_∧_∧_)
      rw [ej]
      dsimp only at hy
      have hmk:(q:Int) - 1 - ((k+1:Nat):Int)=(j:Int) - 1:=by omega
      clear HI HY HR HW hord hj hkp hW hBs hra q0 hl0 ej hjk hpl
      gi_wp2
      refine hR.mono ?_
      rintro e W3 (⟨rfl,hJ3,hk3⟩ | ⟨rfl,hJx3⟩)
      · have HX3:Hid (∃ pre,pre.length=k+1∧Ord pre∧J pre W3∧Kp2 w0.heap.size Bs W W3):=(⟨_,HX.2.1,HX.1,hJ3,HX.2.2.trans hk3⟩:∃ pre,_)
        clear HX hJ3 hk3 hR hy
        gi_wp2
        go_roundw
        case rel=>exact ⟨k+1,by omega,by rw [hmk],HX3⟩
        case measure=>first | (simp [intOf];done) | (simp [intOf];omega)
      · gi_wp2
        refine bodyPost_ret (results_none rfl _ _ _) rfl ?_
        exact ⟨⟨_,rfl⟩,.inr ⟨_,HX.1,hJx3⟩⟩
    · have HX:Hid (∃ pre,pre.length=k∧Ord pre∧J pre wr∧Kp2 w0.heap.size Bs W wr):=HI
      obtain rfl:k=q:=by omega
      have ej:(k:Int) - 1 - (k:Int) = -1:=by omega
      rw [ej]
      clear HI HY HR HW hord hj hkp hW hBs
      gi_wp2
      go_end0
      obtain ⟨pre,h1,h2,h3,_⟩:=(uh HX)
      exact ⟨⟨_,rfl⟩,.inl ⟨pre,⟨h2,h1⟩,h3⟩⟩
theorem bwk_make (a : Option Addr) (len cap : Nat) (w : World) :
  Calls Tryz.prog 97 #[.slice a len cap] w fun e w'=>e = .returned (.func (.func 107) #[] #[.pointer (some ⟨w.heap.size,0,none⟩)])∧w'=w.alloc (.cells #[.slice a len cap] 115):=by
 go_enter Tryz.func97,Tryz.ntmps97
 go_wp2
 go_ret
 exact ⟨rfl,rfl⟩
def Kn (F:Nat→Nd) (n:Nat):Prop:=∀ i,i < n→∀ j,j < (F i).q→0≤(F i).K j∧(F i).K j < (i:Int)
def upd (D:Nat→Int) (K:Nat→Int) (x:Int):Nat→Nat→Int
 | 0,k=>D k
 | j+1,k=>if (k:Int)=K j then x else upd D K x j k
def dpr (F:Nat→Nd) (n:Nat):Nat→Nat→Int
 | 0,_=>0
 | r+1,k=>upd (dpr F n r) (F (n - 1 - r)).K (dpr F n r (n - 1 - r)+1) (F (n - 1 - r)).q k
theorem upd_in {D:Nat→Int} {K:Nat→Int} {x m:Int} (hD:∀ k,0≤D k∧D k≤m) (hx : 0≤x∧x≤m):∀ j k,0≤upd D K x j k∧upd D K x j k≤m:=by
 intro j
 induction j with
 | zero=>exact hD
 | succ j ih =>
  intro k
  show 0≤(if (k:Int)=K j then x else upd D K x j k)∧_
  split
  ·rename_i h
   show _∧(if (k:Int)=K j then x else upd D K x j k)≤m
   rw [if_pos h];exact hx
  ·rename_i h
   show _∧(if (k:Int)=K j then x else upd D K x j k)≤m
   rw [if_neg h];exact ih k
theorem upd_far {D:Nat→Int} {K:Nat→Int} {x:Int} {i:Nat}:∀ j,(∀ j',j' < j→K j' < (i:Int))→upd D K x j i=D i:=by
 intro j
 induction j with
 | zero=>intro _;rfl
 | succ j ih =>
  intro h
  show (if (i:Int)=K j then x else upd D K x j i)=D i
  rw [if_neg (by have:=h j (by omega);omega)]
  exact ih (fun j' hj'=>h j' (by omega))
structure Dp (w:World) (F:Nat→Nd) (n:Nat) (pre:List {j:Nat // j < n}) (W:World):Prop where
 os:W.os=w.os
 output:W.output=w.output
 size:w.heap.size+3≤W.heap.size
 old:∀ k,k < w.heap.size→W.heap[k]? = w.heap[k]?
 box:W.heap[w.heap.size+1]? = some (.cells #[.slice (some ⟨w.heap.size,0,none⟩) n n] 57 (0,0))
 fz:∀ k,W.frozen? ⟨w.heap.size,k,none⟩=false
 row:∃ D:Nat→Int,(∀ k,k < n→W.cell? ⟨w.heap.size,k,none⟩=some (.int .i64 (D k)))∧(∀ k,0≤D k∧D k≤(pre.length:Int))∧(Ord pre→∀ k,D k=dpr F n pre.length k)
theorem Dp.blk {w:World} {F:Nat→Nd} {n:Nat} {pre:List {j:Nat // j < n}} {W W':World} (h:Dp w F n pre W) (h1:W'.os=W.os) (h2:W'.output=W.output) (h3:W.heap.size≤W'.heap.size) (h4:∀ k,k < w.heap.size+2→W'.heap[k]? = W.heap[k]?):Dp w F n pre W':=by
 obtain ⟨D,d1,d2⟩:=h.row
 exact ⟨h1.trans h.os,h2.trans h.output,Nat.le_trans h.size h3,fun k hk=>(h4 k (by omega)).trans (h.old k hk),(h4 _ (by omega)).trans h.box,fun k=>(World.frozen?_of_block (h4 _ (by show w.heap.size < _;omega))).trans (h.fz k),
  D,fun k hk=>(World.cell?_of_block (h4 _ (by show w.heap.size < _;omega))).trans (d1 k hk),d2⟩
theorem own_dp {w:World} {F:Nat→Nd} {n:Nat}:OwnFrom (w.heap.size+3) (Dp w F n):=fun pre X X' row h hg hr =>
 h.blk hg.os hg.output hg.size (fun k hk=>hg.block k (by have:=h.size;omega) (fun e=>by have:=(hr k e.symm).1;omega))
structure Dq (w:World) (F:Nat→Nd) (n:Nat) (D:Nat→Int) (X W:World):Prop where
 os:W.os=X.os
 output:W.output=X.output
 size:X.heap.size≤W.heap.size
 old:∀ k,k < X.heap.size→k ≠ w.heap.size→W.heap[k]? = X.heap[k]?
 oth:∀ o,X.heap[w.heap.size]? = some o→o.isCells=true
 row:∀ k,k < n→W.cell? ⟨w.heap.size,k,none⟩=some (.int .i64 (D k))
 fz:∀ k,W.frozen? ⟨w.heap.size,k,none⟩=false
theorem Dq.set {w:World} {F:Nat→Nd} {n:Nat} {D:Nat→Int} {X W:World} (h:Dq w F n D X W) (m:Nat) (hm:m < n) (x:Int) (D':Nat→Int) (hD:∀ k,k < n→D' k=if k=m then x else D k) (d:Nat):Dq w F n D' X ((W.setCell ⟨w.heap.size,m,none⟩ (.int .i64 x)).drewN d):=by
 refine ⟨h.os,h.output,by simpa using h.size,fun k hk hne=>(Below.heap_setCell W _ _ _ hne).trans (h.old k hk hne),h.oth,fun k hk=>?_,fun k=>(set_fz W w.heap.size m k (.int .i64 x)).trans (h.fz k)⟩
 rw [hD k hk]
 by_cases e:k=m
 ·subst e;rw [if_pos rfl];exact set_eq W _ _ _ (.int .i64 (D k)) (h.row k hk)
 ·rw [if_neg e];exact (set_ne W _ _ _ _ e).trans (h.row k hk)
theorem Dq.keeps {w:World} {F:Nat→Nd} {n:Nat} {D:Nat→Int} {X W:World} (h:Dq w F n D X W) (b:Nat):KeepsFrom b X W :=
 ⟨h.size,fun k o _ hk ho=>by
  by_cases e:k=w.heap.size
  ·subst e
   have:=h.oth o hk
   rw [ho] at this
   cases this
  ·exact (h.old k (Array.getElem?_eq_some_iff.1 hk).1 e).trans hk⟩
theorem Dp.round {w : World} {F : Nat → Nd} {n : Nat} {pre : List {j : Nat // j < n}} {x : {j : Nat // j < n}} {X W : World} (h : Dp w F n pre X) (hpl : pre.length < n) {D : Nat → Int} (d2 : ∀ k, 0 ≤ D k ∧ D k ≤ (pre.length : Int)) (d3 : Ord pre → ∀ k, D k = dpr F n pre.length k)
  (hq:Dq w F n (upd D (F x.val).K (D x.val+1) (F x.val).q) X W):Dp w F n (pre ++ [x]) W:=by
 have hs:=h.size
 refine ⟨hq.os.trans h.os,hq.output.trans h.output,Nat.le_trans hs hq.size,fun k hk=>(hq.old k (by omega) (by omega)).trans (h.old k hk),(hq.old _ (by omega) (by omega)).trans h.box,hq.fz,_,hq.row,fun k=>?_,fun ho k=>?_⟩
 ·have hx:=d2 x.val
  have:=upd_in (D:=D) (K:=(F x.val).K) (x:=D x.val+1) (m:=(pre.length:Int)+1) (fun k=>by have:=d2 k;omega) (by omega) (F x.val).q k
  rw [List.length_append,List.length_cons,List.length_nil]
  omega
 ·obtain ⟨o1,o2⟩:=ho.app
  have e:D=dpr F n pre.length:=funext (d3 o1)
  rw [List.length_append,List.length_cons,List.length_nil,e,o2]
  rfl
theorem im_deeper (d:Int) (w:World):Calls Tryz.prog 98 #[.int .i64 d] w fun e w'=>e = .returned (.bool (decide (100 < d)))∧w'=w:=by
 by_cases h : 100 < d
 ·rw [decide_eq_true h]
  go_enter Tryz.func98,Tryz.ntmps98
  go_wp2_with fail
  go_ret
  exact ⟨rfl,rfl⟩
 ·rw [decide_eq_false h]
  go_enter Tryz.func98,Tryz.ntmps98
  go_wp2_with fail
  go_ret
  exact ⟨rfl,rfl⟩
theorem en_deeper:∀ args w,(callFunc 98 args).run Tryz.prog w = .ok (.enter 98 args) w:=enters_of Tryz.func98 (by kernel_rfl) rfl
inductive Tdp (D:Nat→Int) (n:Nat):Int→Prop
 | at (i:Nat):i < n→(∀ j,j < i→D j≤100)→100 < D i→Tdp D n (i:Int)
 | none:(∀ j,j < n→D j≤100)→Tdp D n (-1)
theorem im_ixdeep {g n : Nat} {D : Nat → Int} (w : World) (hr : ∀ k, k < n → w.cell? ⟨g, k, none⟩ = some (.int .i64 (D k))) (hp : n ≤ 3000) :
  Calls Tryz.prog 82 #[.slice (some ⟨g,0,none⟩) n n,.func (.func 98) #[] #[]] w fun e w'=>(∃ r:Int,e = .returned (.int .i64 r)∧Tdp D n r)∧w'=w:=by
 have hpI:(n:Int)≤3000:=by omega
 have HR:Hid (∀ k,k < n→w.cell? ⟨g,k,none⟩=some (.int .i64 (D k))):=hr
 clear hr hp
 have eg:=en_deeper
 go_enter Tryz.func82,Tryz.ntmps82
 go_wp2_with fail
 go_loopw [8] (fun s8 wr=>∃ i:Nat,s8 = .int .i64 (i:Int)∧i≤n∧wr=w∧Hid (∀ j,j < i→D j≤100)) (fun s8 _=>n - (intOf s8).toNat)
 case atStart=>exact ⟨0,rfl,Nat.zero_le _,rfl,(fun j hj=>by omega:∀ j,j < 0→D j≤100)⟩
 case round =>
  obtain ⟨i,rfl,hin,rfl,HI⟩:=hrel
  have ha:=(uh HI)
  rcases Nat.lt_or_ge i n with hi | hi
  ·have hiI:(i:Int) < (n:Int):=by omega
   have qa:=(uh HR) i hi
   have hcall:=im_deeper (D i) wr
   by_cases hn : 100 < D i
   ·rw [decide_eq_true hn] at hcall
    have HX:Hid (Tdp D n (i:Int)):=.at i hi ha hn
    clear HI ha HR hn
    generalize D i=x at *
    go_wp2_with (go_at_fn 98;refine hcall.mono ?_;rintro e w' ⟨rfl,rfl⟩)
    go_ret
    exact ⟨⟨(i:Int),rfl,HX⟩,rfl⟩
   ·rw [decide_eq_false hn] at hcall
    have HX:Hid (∀ j,j < i+1→D j≤100):=(fun j hj=>by
     by_cases e:j=i
     ·rw [e];omega
     ·exact ha j (by omega):∀ j,j < i+1→D j≤100)
    clear HI ha HR hn
    generalize D i=x at *
    go_wp2_with (go_at_fn 98;refine hcall.mono ?_;rintro e w' ⟨rfl,rfl⟩)
    go_roundw
    case rel=>exact ⟨i+1,by go_num,by omega,by first | trivial | rfl,HX⟩
    case measure=>simp [intOf];omega
  ·obtain rfl:i=n:=by omega
   clear HR ha
   go_wp2_with fail
   go_ret
   exact ⟨⟨-1,rfl,.none HI⟩,rfl⟩
theorem im_deep {v : Value} {n : Nat} {F : Nat → Nd} {PK : Nat → Option Addr} {CK : Nat → Nat} (w : World) (hrx : RowV w v n (fun i => .slice (PK i) (F i).q (CK i))) (hrk : ∀ i, i < n → RowV w (.slice (PK i) (F i).q (CK i)) (F i).q (fun j => .int .i64 ((F i).K j))) (hn : n ≤ 3000) (hK : Kn F n) (hq : ∀ i, i < n → (F i).q ≤ 1048576) :
  Calls Tryz.prog 84 #[v] w fun e w'=>(∃ r:Int,e = .returned (.int .i64 r)∧Tdp (dpr F n n) n r)∧w'.os=w.os∧w'.output=w.output∧w.heap.size≤w'.heap.size∧∀ k,k < w.heap.size→w'.heap[k]? = w.heap[k]?:=by
 have HRX:=hrx
 obtain ⟨pf,cf,rfl,_⟩:=hrx
 obtain ⟨xs,hxo,hxl⟩:=ord_ex n n (Nat.le_refl _)
 have hnI:(n:Int)≤3000:=by omega
 have hmk:=run_make (P:=Tryz.prog) w 57 3 Tryz.t3 (.int .i64 0) Tryz.underlying57 (by kernel_rfl) (by kernel_rfl) .i64 .i64 (n:Int) (n:Int) (by omega) (Int.le_refl _) (by show (8:Int)*(n:Int)≤_;omega) (by omega)
 rw [Int.toNat_natCast] at hmk
 have HMB:=fun W=>bwk_make pf n cf W
 have HST:Hid (RowV w (.slice pf n cf) n (fun i=>.slice (PK i) (F i).q (CK i))∧(∀ i,i < n→RowV w (.slice (PK i) (F i).q (CK i)) (F i).q (fun j=>.int .i64 ((F i).K j)))∧Kn F n∧(∀ i,i < n→(F i).q≤1048576)∧Ord xs∧xs.length=n):=(⟨HRX,hrk,hK,hq,hxo,hxl⟩:_∧_∧_∧_∧_∧_)
 clear HRX hrk hK hq hxo
 refine (callsIn_wide (n:=3)).1 ?_
 refine callsIn_of_wp_marks Tryz.func84 rfl trivial ?_ rfl
 simp only [Tryz.ntmps84,List.size_toArray,List.length_cons,List.length_nil,Nat.reduceAdd,Nat.reduceSub,Array.replicate_succ,Array.replicate_zero,List.push_toArray,List.append_toArray,List.nil_append,List.cons_append]
 gi_wp2_with fail
 refine ⟨trivial,(callsIn_wide.2 (HMB _)).mono ?_⟩
 rintro en w4 ⟨rfl,hw4⟩
 gi_wp2_with fail
 obtain ⟨W3,hW3⟩:∃ W3,W3=(((w.alloc (.cells (madeCells #[.int .i64 0] (n*Tryz.t3.size)) 3)).alloc (.cells #[.slice (some ⟨w.heap.size,0,none⟩) n n] 57)).alloc (.cells #[.slice pf n cf] 115)):=⟨_,rfl⟩
 rw [← hW3]
 have z3:W3.heap.size=w.heap.size+3:=by rw [hW3];simp
 have d3:Dp w F n [] W3:=by
  rw [hW3]
  refine ⟨rfl,rfl,by simp,fun k hk=>?_,?_,fun k=>?_,fun _=>0,fun k hk=>?_,fun k=>by simp,fun _ k=>rfl⟩
  ·rw [Below.heap_alloc _ _ _ (by simp;omega),Below.heap_alloc _ _ _ (by simp;omega),Below.heap_alloc _ _ _ hk]
  ·rw [Below.heap_alloc _ _ _ (by simp)]
   have:=World.alloc_heap_new (w.alloc (.cells (madeCells #[.int .i64 0] (n*Tryz.t3.size)) 3)) (.cells #[.slice (some ⟨w.heap.size,0,none⟩) n n] 57)
   simpa using this
  ·rw [World.frozen?_alloc_past _ _ _ (by simp;omega),World.frozen?_alloc_past _ _ _ (by simp)]
   exact World.frozen?_alloc_at _ _ _ _ (by simp)
  ·rw [World.cell?_alloc_past _ _ _ (by simp;omega),World.cell?_alloc_past _ _ _ (by simp)]
   exact made_cell w (.int .i64 0) 3 n rfl k hk
 have s3:W3.cell? ⟨w.heap.size+1+1,0,none⟩=some (.slice pf n cf):=by
  rw [hW3,World.cell?_alloc_at _ _ _ _ (by simp)];rfl
 clear hW3 hw4 HMB hmk
 refine wpIn_rangeFunc_s0 (α:={j:Nat // j < n}) (n:=3) (by omega) (gf:=107) (lb:=#[.pointer (some ⟨w.heap.size+1+1,0,none⟩)]) rfl (enters_of Tryz.func107 (by kernel_rfl) rfl)
  (encs:=fun x=>#[.int .i64 (x.val:Int),.slice (PK x.val) (F x.val).q (CK x.val)]) (fun _=>rfl) (w.heap.size+1+1) (by omega) xs (fun _=>True) (Dp w F n) (by rw [z3];exact own_dp)
  (fun s X X' h hk=>h.blk hk.os hk.output hk.size (fun k hl=>hk.block k (by have:=h.size;omega) (by omega))) d3 (fun _ _ _ _ _=>trivial) ?iter
  (fun x=>{ tmps:=#[.slice pf n cf,undef,.int .i64 0,.pointer (some ⟨w.heap.size+1,0,none⟩),.int .i64 (x.val:Int),.slice (PK x.val) (F x.val).q (CK x.val),undef,undef,.slice pf n cf,.int .i64 (n:Int),.slice (some ⟨w.heap.size,0,none⟩) n n,.slice pf n cf,.func (.func 107) #[] #[.pointer (some ⟨w.heap.size+1+1,0,none⟩)],.int .i64 (x.val:Int),.slice (PK x.val) (F x.val).q (CK x.val),undef,undef,undef,undef,undef,undef,undef,undef,undef,undef,undef,undef,undef,undef,undef,undef,undef],defers:=[] }) ?assign ?body ?done
 case iter =>
  obtain ⟨hrx,hrk,hK,hq,hxo,_⟩:=(uh HST)
  intro lp J X hb hJ hJI hY h0
  refine (bwk_in 2 (by omega) lp (w.heap.size+1+1) w (q:=n) (by omega) hrx J (fun _ _=>False) (fun pre x W1 hj hl=>?_) X (fun k hk=>(hb.block k (by omega)).trans (d3.old k hk)) ((hb.cell (p:=⟨w.heap.size+1+1,0,none⟩) (lt_of_cell s3)).trans s3) h0).mono ?_
  ·obtain ⟨fn,tmps,assign,body,hy,hR⟩:=hY pre x W1 hj (by rw [hxl];exact hl)
   refine ⟨fn,tmps,assign,body,hy,hR.mono fun e W' ⟨he,hj',hB⟩=>.inl ⟨he,hj',fun k hk=>?_⟩⟩
   rcases hk with hk | rfl
   ·exact ((hJI _ _ hj').old k hk).trans ((hJI _ _ hj).old k hk).symm
   ·exact hB
  ·rintro e W' ⟨he,⟨ys,⟨o,l⟩,hj⟩ | ⟨_,_,f⟩⟩
   ·rw [ord_uniq hxo o (hxl.trans l.symm)];exact ⟨he,hj,trivial⟩
   ·exact f.elim
 case assign =>
  intro l x X K hKK
  gi_wp2
  exact hKK
 case body =>
  intro l pre x X hpl hi
  obtain ⟨hrx,hrk,hK,hq,hxo,_⟩:=(uh HST)
  obtain ⟨D,d1,d2,dd⟩:=hi.row
  obtain ⟨i,hix⟩:∃ i,i=x.val:=⟨_,rfl⟩
  have hin:i < n:=by rw [hix];exact x.property
  have hqi:=hq i hin
  have hqI:((F i).q:Int)≤1048576:=by omega
  have HQ0:Hid (Dq w F n (upd D (F i).K (D i+1) 0) X X):=⟨rfl,rfl,Nat.le_refl _,fun _ _ _=>rfl,fun o ho=>by
   have h0:=hi.fz
   cases o with
   | cells _ _ _=>rfl
   | _=>exact absurd (d1 i hin) (by simp [World.cell?,ho]),d1,hi.fz⟩
  have HEND:Hid (∀ W,Dq w F n (upd D (F i).K (D i+1) (F i).q) X W→bodyEnd W3.heap.size (w.heap.size+1+1) (Dp w F n) (pre ++ [x]) X .normal { tmps:=#[],defers:=[] } W):=(fun W hw=>by
   rw [hix] at hw
   refine (⟨hw.keeps _,hi.round (x:=x) (by omega) d2 dd hw,hw.old (w.heap.size+1+1) (by have:=hi.size;omega) (by omega)⟩:_∧_∧_):∀ W,_)
  have HIN:Hid (i < n∧Kn F n∧(∀ k,0≤D k∧D k≤(pre.length:Int))∧(∀ k,k < w.heap.size→X.heap[k]? = w.heap[k]?)∧X.heap[w.heap.size+1]? = some (.cells #[.slice (some ⟨w.heap.size,0,none⟩) n n] 57 (0,0))∧w.heap.size+3≤X.heap.size∧RowV w (.slice (PK i) (F i).q (CK i)) (F i).q (fun j=>.int .i64 ((F i).K j))):=(⟨hin,hK,d2,hi.old,hi.box,hi.size,hrk i hin⟩:_∧_∧_∧_∧_∧_∧_)
  have hpn:pre.length < 3000:=by omega
  rw [← hix]
  have mixed:Tryz.prog.follows .mixedOrders=true:=by kernel_rfl
  clear hi hrx hrk hK hq hxo d1 d2 dd hqi hix HST d3 s3
  gi_wp2_with fail
  gi_loopw [17] (fun s18 wr=>∃ j:Nat,s18 = .int .i64 (j:Int)∧j≤(F i).q∧Hid (Dq w F n (upd D (F i).K (D i+1) j) X wr)) (fun s18 _=>(F i).q - (intOf s18).toNat)
  case atStart=>exact ⟨0,rfl,Nat.zero_le _,HQ0⟩
  case round =>
   obtain ⟨j,rfl,hjq,HJ⟩:=hrel
   have hJ:=(uh HJ)
   obtain ⟨hin,hK,d2,hold,hbox,hsz,hrk⟩:=(uh HIN)
   clear HQ0
   rcases Nat.lt_or_ge j (F i).q with hj | hj
   ·have hjI:(j:Int) < ((F i).q:Int):=by omega
    obtain ⟨pa,ca,hpe,hr2⟩:=hrk
    obtain ⟨b,hb,hcb,hra⟩:=hr2 (by omega)
    obtain ⟨e1,_,e2⟩:PK i=pa∧(F i).q=(F i).q∧CK i=ca:=by simpa using hpe
    subst e2
    rw [e1,hb] at *
    have q0w:=hra j hj
    have hl0:=lt_of_cell' q0w
    obtain ⟨k0,k1⟩:=hK i hin j hj
    obtain ⟨m,hm⟩:∃ m:Nat,(F i).K j=(m:Int):=⟨((F i).K j).toNat,by omega⟩
    have q0:wr.cell? (b.add j)=some (.int .i64 (m:Int)):=by
     rw [← hm];exact (World.cell?_of_block ((hJ.old _ (by omega) (by omega)).trans (hold _ hl0))).trans q0w
    have hb1:=(hJ.old (w.heap.size+1) (by omega) (by omega)).trans hbox
    have c3:wr.cell? ⟨w.heap.size+1,0,none⟩=some (.slice (some ⟨w.heap.size,0,none⟩) n n):=by simp [World.cell?,hb1]
    have q1:=hJ.row i hin
    rw [upd_far j (fun j' hj'=>(hK i hin j' (by omega)).2)] at q1
    have q2:=hJ.row m (by omega)
    have q3:=hJ.fz m
    have hmn:(m:Int) < (n:Int):=by omega
    have hiI:(i:Int) < (n:Int):=by omega
    have hd:=d2 i
    have hd1 : 0≤D i:=hd.1
    have hd2:D i≤3000:=by omega
    have HX:Hid (∀ d,Dq w F n (upd D (F i).K (D i+1) (j+1)) X ((wr.setCell ⟨w.heap.size,m,none⟩ (.int .i64 (D i+1))).drewN d)):=(fun d=>hJ.set m (by omega) (D i+1) _ (fun y hy=>by
     show (if (y:Int)=(F i).K j then D i+1 else upd D (F i).K (D i+1) j y) = _
     rw [hm]
     by_cases e:y=m
     ·rw [if_pos (by omega),if_pos e]
     ·rw [if_neg (by omega),if_neg e]) d:∀ d,_)
    clear hJ HJ k0 k1 hm hK d2 hold hbox hra q0w hl0 hb1 hd HIN HEND hr2
    generalize D i=z at *
    generalize upd D (F i).K (z+1) j m=z2 at *
    have hwz:IntKind.i64.wrap (z+1)=z+1:=by simp only [IntKind.wrap_i64];omega
    gi_wp2_with fail
    gi_region_with_o (fail)
    all_goals
     have HX1:Hid (Dq w F n (upd D (F i).K (z+1) (j+1)) X (wr.setCell ⟨w.heap.size,m,none⟩ (.int .i64 (z+1))).drew):=(uh HX) 1
     clear HX q0 q1 q2 q3 c3
     gi_wp2_with fail
     go_roundw
     case rel=>exact ⟨j+1,by go_num,by omega,HX1⟩
     case measure=>simp [intOf];omega
   ·have ej:j=(F i).q:=by omega
    have HX:=(uh HEND) wr (by rw [← ej];exact hJ)
    have HX2:Hid (bodyEnd W3.heap.size (w.heap.size+1+1) (Dp w F n) (pre ++ [x]) X .normal { tmps:=#[],defers:=[] } wr):=HX
    rw [ej]
    clear hJ HJ HEND HIN hK d2 hold hbox hsz hrk ej hj hjq HX
    gi_wp2_with fail
    exact HX2
 case done =>
  rintro D' X hD hi _ hx
  obtain ⟨_,_,_,_,hxo,_⟩:=(uh HST)
  obtain ⟨D,d1,d2,dd⟩:=hi.row
  have c3:X.cell? ⟨w.heap.size+1,0,none⟩=some (.slice (some ⟨w.heap.size,0,none⟩) n n):=by simp [World.cell?,hi.box]
  have HC:=im_ixdeep X d1 hn
  have HX:Hid (D=dpr F n n∧X.os=w.os∧X.output=w.output∧w.heap.size+3≤X.heap.size∧(∀ k,k < w.heap.size→X.heap[k]? = w.heap[k]?)∧X.heap[D']? = some (.deferred (some []))):=(⟨by funext k;have:=dd hxo k;rw [hxl] at this;exact this,hi.os,hi.output,hi.size,hi.old,hx⟩:_∧_∧_∧_∧_∧_)
  clear hi d1 d2 dd HST d3 s3 hx
  gi_wp2_with fail
  refine ⟨trivial,(callsIn_wide.2 HC).mono ?_⟩
  rintro en w5 ⟨⟨r,rfl,hr⟩,rfl⟩
  obtain ⟨x1,x2,x3,x4,x5,x6⟩:=(uh HX)
  rw [x1] at hr
  clear HC c3 x1
  gi_wp2_with fail
  refine leaves_marks [D'] w5 (by simp) (fun r' hr'=>by rw [List.mem_singleton.1 hr'];exact x6) (fun w' h1 h2 h3 h4=>?_)
  refine ⟨_,by simp [results,Tryz.results84,go_sem];rfl,?_⟩
  exact ⟨⟨r,rfl,hr⟩,h1.trans x2,h2.trans x3,by omega,fun k hk=>(h4 k (fun e=>by have:=List.mem_singleton.1 e;omega)).trans (x5 k hk)⟩
end Go.Proofs.YtfpidccjcemcjaaGreat.Fo
