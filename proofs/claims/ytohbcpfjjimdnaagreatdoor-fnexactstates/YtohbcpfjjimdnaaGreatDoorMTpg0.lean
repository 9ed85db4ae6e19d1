import Derived.Test.YtohbcpfjjimdnaaGreatDoorMTpf
namespace Go.Proofs.YtohbcpfjjimdnaaGreatDoor.Fo
open Go.ChangeShapes Go.WideShapes Go.ChangeAt Go.RowKit Go.Shelf
set_option linter.unusedVariables false
set_option maxRecDepth 100000
variable {S:Ts}{vw vw':Value}{W W1:World}{i:Nat}{L:List Nat}
structure RX where
 w0:World
 R:Nat
 TB:Nat
 KB:Nat
 P:Nat
 n:Nat
structure RXk (Y:RX):Prop where
 r0:Y.w0.heap.size<=Y.R
 t0:Y.w0.heap.size<=Y.TB
 k0:Y.w0.heap.size<=Y.KB
 rt:Y.R≠Y.TB
 rk:Y.R≠Y.KB
 tk:Y.TB≠Y.KB
def RcB(Y:RX)(S:Ts)(vw:Value)(W:World):Prop:=W.heap[Y.R]? =some (.cells #[.pointer (some ⟨Y.P,0,none⟩),.int .i64 S.m,.slice (some ⟨Y.TB,0,none⟩) Y.n Y.n,.slice (some ⟨Y.KB,0,none⟩) Y.n Y.n,vw,.int .i64 S.l] 141 (0,0))
def nI(L:List Nat):List Int:=L.map (λ(x:Nat)=>(x:Int))
structure RS (Y:RX) (S:Ts) (vw:Value) (W:World):Prop where
 y:RXk Y
 k:Kb 0 Y.w0 W
 rc:RcB Y S vw W
 tc:∀j,j<Y.n->W.cell? ⟨Y.TB,j,none⟩=some (.int .i64 (S.t j:Int))
 bc:∀j,j<Y.n->W.cell? ⟨Y.KB,j,none⟩=some (.int .i64 (S.b j:Int))
 tf:∀j,W.frozen? ⟨Y.TB,j,none⟩=false
 bf:∀j,W.frozen? ⟨Y.KB,j,none⟩=false
 wo:OwI Y.w0.heap.size W vw (nI S.w)
 wn:∀g,vw.ownBlock=some g->g≠Y.R/\g≠Y.TB/\g≠Y.KB
 tl:Y.TB<W.heap.size
 kl:Y.KB<W.heap.size
theorem RS.kb{Y:RX}{W':World}(h:RS Y S vw W)(k:Kb 0 W W'):RS Y S vw W':=by
 have e:∀b,b<W.heap.size->W'.heap[b]? =W.heap[b]?:=λb hb=>k.block b zq hb;have hR:=(Array.getElem?_eq_some_iff.1 h.rc).1;exact⟨h.y,h.k.trans k,(e _ hR).trans h.rc,λj hj=>(World.cell?_of_block (e _ h.tl)).trans (h.tc j hj),λj hj=>(World.cell?_of_block (e _ h.kl)).trans (h.bc j hj),λj=>(World.frozen?_of_block (e _ h.tl)).trans (h.tf j),λj=>(World.frozen?_of_block (e _ h.kl)).trans (h.bf j),h.wo.kb k,h.wn,Nat.lt_of_lt_of_le h.tl k.size,Nat.lt_of_lt_of_le h.kl k.size⟩
theorem RS.setR{Y:RX}{S':Ts}(h:RS Y S vw W)(j:Nat)(v:Value)(hrc:RcB Y S' vw' (W.setCell ⟨Y.R,j,none⟩ v))(ht:∀j,j<Y.n->S'.t j=S.t j)(hb:∀j,j<Y.n->S'.b j=S.b j)(hw:OwI Y.w0.heap.size W vw' (nI S'.w))(hn:∀g,vw'.ownBlock=some g->g≠Y.R/\g≠Y.TB/\g≠Y.KB):RS Y S' vw' (W.setCell ⟨Y.R,j,none⟩ v):=by
 have e:∀b,b≠Y.R->(W.setCell ⟨Y.R,j,none⟩ v).heap[b]? =W.heap[b]?:=λb hb=>heap_setCell_other W _ b v hb;have hy:=h.y;refine⟨hy,h.k.setCell ⟨Y.R,j,none⟩ (.inr hy.r0) v,hrc,λj hj=>?_,λj hj=>?_,λj=>(World.frozen?_of_block (e _ (λq=>hy.rt q.symm))).trans (h.tf j),λj=>(World.frozen?_of_block (e _ (λq=>hy.rk q.symm))).trans (h.bf j),rowBlk' hw (λg eg=>e g (hn g eg).1),hn,by simpa using h.tl,by simpa using h.kl⟩
 ·rw[ht j hj];exact(World.cell?_of_block (e _ (λq=>hy.rt q.symm))).trans (h.tc j hj)
 ·rw[hb j hj];exact(World.cell?_of_block (e _ (λq=>hy.rk q.symm))).trans (h.bc j hj)
theorem RS.setT{Y:RX}(h:RS Y S vw W)(hi:i<Y.n)(x:Nat):RS Y ⟨S.m,λy=>if y=i then x else S.t y,S.b,S.w,S.l⟩ vw (W.setCell ⟨Y.TB,i,none⟩ (.int .i64 x)):=by
 have e:∀b,b≠Y.TB->(W.setCell ⟨Y.TB,i,none⟩ (.int .i64 x)).heap[b]? =W.heap[b]?:=λb hb=>heap_setCell_other W _ b _ hb;have hy:=h.y;refine⟨hy,h.k.setCell ⟨Y.TB,i,none⟩ (.inr hy.t0) _,(e _ hy.rt).trans h.rc,λj hj=>?_,λj hj=>(World.cell?_of_block (e _ (λq=>hy.tk q.symm))).trans (h.bc j hj),λj=>by rw[set_fz];exact h.tf j,λj=>(World.frozen?_of_block (e _ (λq=>hy.tk q.symm))).trans (h.bf j),rowBlk' h.wo (λg eg=>e g (h.wn g eg).2.1),h.wn,by simpa using h.tl,by simpa using h.kl⟩;dsimp only;by_cases q:j=i
 ·subst q;rw[if_pos rfl];exact set_eq _ _ _ _ _ (h.tc j hj)
 ·rw[if_neg q,set_ne _ _ _ _ _ q];exact h.tc j hj
theorem RS.setB{Y:RX}(h:RS Y S vw W)(hi:i<Y.n)(x:Nat):RS Y ⟨S.m,S.t,λy=>if y=i then x else S.b y,S.w,S.l⟩ vw (W.setCell ⟨Y.KB,i,none⟩ (.int .i64 x)):=by
 have e:∀b,b≠Y.KB->(W.setCell ⟨Y.KB,i,none⟩ (.int .i64 x)).heap[b]? =W.heap[b]?:=λb hb=>heap_setCell_other W _ b _ hb;have hy:=h.y;refine⟨hy,h.k.setCell ⟨Y.KB,i,none⟩ (.inr hy.k0) _,(e _ hy.rk).trans h.rc,λj hj=>(World.cell?_of_block (e _ hy.tk)).trans (h.tc j hj),λj hj=>?_,λj=>(World.frozen?_of_block (e _ hy.tk)).trans (h.tf j),λj=>by rw[set_fz];exact h.bf j,rowBlk' h.wo (λg eg=>e g (h.wn g eg).2.2),h.wn,by simpa using h.tl,by simpa using h.kl⟩;dsimp only;by_cases q:j=i
 ·subst q;rw[if_pos rfl];exact set_eq _ _ _ _ _ (h.bc j hj)
 ·rw[if_neg q,set_ne _ _ _ _ _ q];exact h.bc j hj
theorem RS.met{Y:RX}(h:RS Y S vw W)(x:Nat):RS Y ⟨x,S.t,S.b,S.w,S.l⟩ vw (W.setCell ⟨Y.R,1,none⟩ (.int .i64 x)):=
 h.setR 1 _ (heap_setCell_same W Y.R 1 _ _ _ h.rc) (λ_ _=>rfl) (λ_ _=>rfl) h.wo h.wn
theorem RS.lst{Y:RX}(h:RS Y S vw W)(x:Nat):RS Y ⟨S.m,S.t,S.b,S.w,x⟩ vw (W.setCell ⟨Y.R,5,none⟩ (.int .i64 x)):=
 h.setR 5 _ (heap_setCell_same W Y.R 5 _ _ _ h.rc) (λ_ _=>rfl) (λ_ _=>rfl) h.wo h.wn
theorem RS.way{Y:RX}(h:RS Y S vw W)(hw:OwI Y.w0.heap.size W vw' (nI L))(hn:∀g,vw'.ownBlock=some g->g≠Y.R/\g≠Y.TB/\g≠Y.KB):RS Y ⟨S.m,S.t,S.b,L,S.l⟩ vw' (W.setCell ⟨Y.R,4,none⟩ vw'):=
 h.setR 4 _ (heap_setCell_same W Y.R 4 _ _ _ h.rc) (λ_ _=>rfl) (λ_ _=>rfl) hw hn
theorem RS.grown{Y:RX}(h:RS Y S vw W)(k:W.grownBy W1 vw.ownBlock):Kb 0 Y.w0 W1/\RcB Y S vw W1/\(∀b,b<W.heap.size->(∀g,vw.ownBlock=some g->b≠g)->W1.heap[b]? =W.heap[b]?)/\W.heap.size<=W1.heap.size:=by
 have hy:=h.y;have hR:=(Array.getElem?_eq_some_iff.1 h.rc).1;have e:∀b,b<W.heap.size->(∀g,vw.ownBlock=some g->b≠g)->W1.heap[b]? =W.heap[b]?:=λb hb hg=>k.block b hb (λq=>hg b q.symm rfl);refine⟨h.k.gr k (λg eg=>(h.wo.lt g eg).1),(e _ hR (λg eg q=>(h.wn g eg).1 q.symm)).trans h.rc,e,k.size⟩
theorem RS.swap{Y:RX}(h:RS Y S vw W)(k:W.grownBy W1 vw.ownBlock)(hw:OwI Y.w0.heap.size W1 vw' (nI L))(hn:∀g,vw'.ownBlock=some g->g≠Y.R/\g≠Y.TB/\g≠Y.KB):RS Y ⟨S.m,S.t,S.b,L,S.l⟩ vw' (W1.setCell ⟨Y.R,4,none⟩ vw'):=by
 obtain⟨k0,rc,e,hs⟩:=h.grown k;have hy:=h.y;have eT:=e Y.TB h.tl (λg eg q=>(h.wn g eg).2.1 q.symm);have eK:=e Y.KB h.kl (λg eg q=>(h.wn g eg).2.2 q.symm);have f:∀b,b≠Y.R->(W1.setCell ⟨Y.R,4,none⟩ vw').heap[b]? =W1.heap[b]?:=λb hb=>heap_setCell_other W1 _ b _ hb;have fT:=(f Y.TB (λq=>hy.rt q.symm)).trans eT;have fK:=(f Y.KB (λq=>hy.rk q.symm)).trans eK;exact⟨hy,k0.setCell ⟨Y.R,4,none⟩ (.inr hy.r0) _,heap_setCell_same W1 Y.R 4 _ _ _ rc,λj hj=>(World.cell?_of_block fT).trans (h.tc j hj),λj hj=>(World.cell?_of_block fK).trans (h.bc j hj),λj=>(World.frozen?_of_block fT).trans (h.tf j),λj=>(World.frozen?_of_block fK).trans (h.bf j),rowBlk' hw (λg eg=>f g (hn g eg).1),hn,by have:=h.tl;simp;omega,by have:=h.kl;simp;omega⟩
theorem nI_app(L:List Nat)(x:Nat):nI (L++[x])=nI L++[(x:Int)]:=by unfold nI;simp
theorem nI_len(L:List Nat):(nI L).length=L.length:=by unfold nI;simp
theorem OwI.cut{base:Nat}{p:Option Addr}{n c:Nat}{T:List Int}(h:OwI base W (.slice p n c) T){k:Nat}(hk:k<=T.length):OwI base W (.slice p k c) (T.take k):=by
 unfold OwI at h⊢;have hl:(T.take k).length=k:=by rw[List.length_take];omega
 rw[hl];refine⟨by rw[iv_len,hl];omega,?_⟩;rcases h.2 with⟨e,z⟩|⟨g,cap,cur,e,h1,h2,h3,h4,h5,h6⟩
 ·have e':=Value.slice.inj e;obtain rfl:k=0:=by omega
  exact .inl ⟨by rw[e'.1,e'.2.2],rfl⟩
 ·obtain⟨e1,e2,e3⟩:=Value.slice.inj e;refine .inr ⟨g,cap,cur,by rw[e1,e3],h1,h2,by omega,h4,h5,?_⟩
  have:cur.toList.take (k*1)=(cur.toList.take (T.length*1)).take k:=by
   rw[List.take_take];congr 1;omega
  rw[this,h6];unfold iv;rw[List.map_take]
def SamB(g:Nat)(W W':World):Prop:=W.heap[g]? =W'.heap[g]?
theorem sl_from(g n cv k:Nat)(h:n<=cv)(hk:k<n)(W:World):(Instr.slice 53 (.slice (some ⟨g,0,none⟩) n cv) (some (.int .i64 k)) none none).run Tryz.prog W=.ok (.slice (some ⟨g,k,none⟩) (n-k) (cv-k)) W:=by
 rw[run_slice_l (t:=53) (a:=some ⟨g,0,none⟩) (len:=n) (cap:=cv) (ht:=Tryz.underlying53) (h0:=by omega) (h1:=by omega),elI,Tryz.sizeOf3 W];have e4:cv≠k:=by omega
 simp[sliced,e4,Result.andThen,Addr.add_lit]
theorem sl_to(g n cv k:Nat)(h:k<=cv)(W:World):(Instr.slice 53 (.slice (some ⟨g,0,none⟩) n cv) none (some (.int .i64 k)) none).run Tryz.prog W=.ok (.slice (some ⟨g,0,none⟩) k cv) W:=by
 rw[run_slice_h (t:=53) (a:=some ⟨g,0,none⟩) (len:=n) (cap:=cv) (ht:=Tryz.underlying53) (h0:=by omega) (h2:=by omega),elI,Tryz.sizeOf3 W];simp[sliced,Result.andThen,Addr.add_lit]
theorem lmin_app:∀(A:List Nat) (x l:Nat),lmin (A++[x]) l=min (lmin A l) x
 | [],x,l=>rfl
 |a::A,x,l=>by
  show lmin (A++[x]) (min l a)=min (lmin A (min l a)) x;exact lmin_app A x (min l a)
