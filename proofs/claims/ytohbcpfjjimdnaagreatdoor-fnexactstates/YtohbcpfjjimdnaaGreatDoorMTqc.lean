import Derived.Test.YtohbcpfjjimdnaaGreatDoorMTnc
set_option maxHeartbeats 8000000
namespace Go.Proofs.YtohbcpfjjimdnaaGreatDoor.Fo
open Go.ChangeShapes Go.WideShapes Go.ChangeAt Go.RowKit
set_option linter.unusedVariables false
set_option maxRecDepth 100000
variable {S av bv:Nat->Prop}{a b W W':World}{T:List Int}{v va vb:Value}{g n SB i j base ca x r:Nat}{V vt vg:Nat->Value}{A:Nat->Nat->Int}{ti gi nt ng:Nat->Nat}{B:Nat->Bool}{α:Type}{f:Nat->α}{pa:Option Addr}{D:List Nat}{d:Pd}
structure Ko (S:Nat->Prop) (a w:World):Prop where
 os:w.os=a.os
 output:w.output=a.output
 size:a.heap.size<=w.heap.size
 block:∀k,k<a.heap.size->¬S k->w.heap[k]? =a.heap[k]?
theorem Ko.refl(S:Nat->Prop)(a:World):Ko S a a:=⟨rfl,rfl,Nat.le_refl _,λ_ _ _=>rfl⟩
theorem Ko.trans{c:World}(h:Ko S a b)(k:Ko S b c):Ko S a c:=
 ⟨k.os.trans h.os,k.output.trans h.output,Nat.le_trans h.size k.size,λi hi hs=>(k.block i (Nat.lt_of_lt_of_le hi h.size) hs).trans (h.block i hi hs)⟩
theorem Ko.mono{T:Nat->Prop}(h:Ko S a b)(hs:∀k,S k->T k):Ko T a b:=⟨h.os,h.output,h.size,λk hk hn=>h.block k hk (λf=>hn (hs k f))⟩
theorem Ko.of_kq(h:Kq S a b):Ko S a b:=⟨h.os,h.output,h.size,h.block⟩
theorem Ko.set1(p:Addr)(hp:S p.block)(v:Value):Ko S a (a.setCell p v):=⟨rfl,rfl,by simp,λk _ hs=>Below.heap_setCell a p v k (λe=>hs (e▸hp))⟩
structure GwR (W:World) (v:Value) (g n:Nat) (V:Nat->Value):Prop where
 sl:∃pa cap,v=.slice pa n cap/\(0<n->pa=some ⟨g,0,none⟩/\n<=cap)
 cell:∀j,j<n*3->W.cell? ⟨g,j,none⟩=some (V j)
 fz:0<n->∀j,W.frozen? ⟨g,j,none⟩=false
theorem GwR.on(h:GwR W v g n V)(hb:0<n->W'.heap[g]? =W.heap[g]?):GwR W' v g n V:=
 ⟨h.sl,λj hj=>by rw[World.cell?_of_block (hb (by omega))];exact h.cell j hj,λhn j=>by rw[World.frozen?_of_block (hb hn)];exact h.fz hn j⟩
theorem GwR.lt(h:GwR W v g n V)(hn:0<n):g<W.heap.size:=lt_of_cell (h.cell 0 (by omega))
theorem OwnR.lt{A:Nat->Value}(h:OwnR W v g n A)(hn:0<n):g<W.heap.size:=lt_of_cell (h.cell 0 hn)
theorem mark_guards(w:World)(k:Int)(ha:GwR w v g n V)(hn:n<=1000)(h1:1<=k)(h2:k<=400000000):
  Calls Tryz.prog 26 #[v,.int .i64 k] w λe w'=>e=.returned (.int .i64 (k+3*(n:Int)))/\Ko (λj=>0<n/\j=g) w w'/\GwR w' v g n (λx=>vU (x%3) (k+(x:Int))):=by
 obtain⟨pa,ca,rfl,hp⟩:=ha.sl;by_cases h0:n=0
 ·subst h0;refine(mrk_guards (g:=w.heap.size) k h1 (by omega) (by omega) (λq=>by omega)).mono ?_;rintro e w' ⟨rfl,k1,-⟩;exact⟨rfl,⟨k1.os,k1.output,k1.size,λb hb _=>k1.block b hb (by omega)⟩,⟨⟨_,_,rfl,λq=>by omega⟩,λj hj=>by omega,λq=>by omega⟩⟩
 ·have hl:=ha.lt (by omega);refine(mrk_guards (g:=g) k h1 (by omega) (by omega) (λq=>⟨(hp q).1,λj hj=>⟨_,ha.cell j hj⟩,ha.fz q,hl⟩)).mono ?_;rintro e w' ⟨rfl,k1,cj⟩;exact⟨rfl,⟨k1.os,k1.output,k1.size,λb hb hs=>k1.block b hb (λe=>hs ⟨by omega,e⟩)⟩,⟨⟨_,_,rfl,hp⟩,cj,λq j=>(k1.fz j hl).trans (ha.fz q j)⟩⟩
structure OwS (W:World) (SB n:Nat) (ti gi nt ng:Nat->Nat) (vt vg:Nat->Value) (B:Nat->Bool) (A:Nat->Nat->Int) (V:Nat->Nat->Value):Prop where
 fz:0<n->∀j,W.frozen? ⟨SB,j,none⟩=false
 c0:∀j,j<n->W.cell? ⟨SB,j*3,none⟩=some (.bool (B j))
 c1:∀j,j<n->W.cell? ⟨SB,j*3+1,none⟩=some (vt j)
 c2:∀j,j<n->W.cell? ⟨SB,j*3+2,none⟩=some (vg j)
 ty:∀j,j<n->OwnR W (vt j) (ti j) (nt j) (λi=>.int .i64 (A j i))
 gu:∀j,j<n->GwR W (vg j) (gi j) (ng j) (V j)
theorem OwS.kb{V:Nat->Nat->Value}(h:OwS W SB n ti gi nt ng vt vg B A V)(k:Kb 0 W W'):OwS W' SB n ti gi nt ng vt vg B A V:=
 ⟨λhn j=>(k.frozen zq (lt_of_cell (h.c0 0 hn))).trans (h.fz hn j),λj hj=>k.cell (h.c0 j hj),λj hj=>k.cell (h.c1 j hj),λj hj=>k.cell (h.c2 j hj),λj hj=>(h.ty j hj).block (λq=>k.block _ zq ((h.ty j hj).lt q)),λj hj=>(h.gu j hj).on (λq=>k.block _ zq ((h.gu j hj).lt q))⟩
structure Dst (base SB n:Nat) (ti gi nt ng:Nat->Nat):Prop where
 sb:0<n->base<=SB
 t0:∀j,j<n->0<nt j->base<=ti j/\ti j≠SB
 g0:∀j,j<n->0<ng j->base<=gi j/\gi j≠SB
 tt:∀j k,j<n->k<n->j≠k->0<nt j->0<nt k->ti j≠ti k
 gg:∀j k,j<n->k<n->j≠k->0<ng j->0<ng k->gi j≠gi k
 tg:∀j k,j<n->k<n->0<nt j->0<ng k->ti j≠gi k
def kS (nt ng:Nat->Nat):Nat->Nat
 |0=>1
 |j+1=>kS nt ng j+1+nt j+3*ng j
theorem kS_le {nt ng:Nat->Nat} {n:Nat} (h:∀j,j<n->nt j<=1000/\ng j<=1000):∀j,j<=n->1<=kS nt ng j/\kS nt ng j<=1+4001*j
 |0,_=>⟨Nat.le_refl _,Nat.le_refl _⟩
 |j+1,hj=>by
  have:=kS_le h j (by omega);have:=h j (by omega);show 1<=kS nt ng j+1+nt j+3*ng j/\kS nt ng j+1+nt j+3*ng j<=_;omega
def mB(nt ng:Nat->Nat)(j:Nat):Bool:=(kS nt ng j:Int)%3==0
def mA(nt ng:Nat->Nat)(j i:Nat):Int:=(kS nt ng j:Int)+1+(i:Int)
def mV(nt ng:Nat->Nat)(j x:Nat):Value:=vU (x%3) ((kS nt ng j:Int)+1+(nt j:Int)+(x:Int))
def upto(i:Nat)(f g:Nat->α)(j:Nat):α:=if j<i then f j else g j
theorem upto_ne{g:Nat->α}(h:j≠i):upto (i+1) f g j=upto i f g j:=by
 unfold upto;by_cases q:j<i
 ·rw[if_pos q,if_pos (by omega)]
 ·rw[if_neg q,if_neg (by omega)]
theorem upto_eq{g:Nat->α}:upto (i+1) f g i=f i:=if_pos (Nat.lt_succ_self i)
theorem upto_all{g:Nat->α}(h:j<i):upto i f g j=f j:=if_pos h
def MgS(SB n:Nat)(ti gi nt ng:Nat->Nat)(vt vg:Nat->Value)(B:Nat->Bool)(A:Nat->Nat->Int)(V:Nat->Nat->Value)(i:Nat)(W:World):Prop:=
 OwS W SB n ti gi nt ng vt vg (upto i (mB nt ng) B) (upto i (mA nt ng) A) (upto i (mV nt ng) V)
theorem MgS.step{V:Nat->Nat->Value}{w2 w3:World}(h:MgS SB n ti gi nt ng vt vg B A V i W)(hd:Dst base SB n ti gi nt ng)(hi:i<n)
  (k2:Ko (λj=>0<nt i/\j=ti i) (W.setCell ⟨SB,i*3,none⟩ (.bool (mB nt ng i))) w2) (t2:OwnR w2 (vt i) (ti i) (nt i) (λx=>.int .i64 (mA nt ng i x)))
  (k3:Ko (λj=>0<ng i/\j=gi i) w2 w3) (g3:GwR w3 (vg i) (gi i) (ng i) (mV nt ng i)):MgS SB n ti gi nt ng vt vg B A V (i+1) w3:=by
 have hl:SB<W.heap.size:=lt_of_cell (h.c0 i hi);have hl1:∀b,b<W.heap.size->b<(W.setCell ⟨SB,i*3,none⟩ (.bool (mB nt ng i))).heap.size:=λb hb=>by simpa using hb
 have keep:∀b,b<W.heap.size->¬(0<nt i/\b=ti i)->¬(0<ng i/\b=gi i)->w3.heap[b]? =(W.setCell ⟨SB,i*3,none⟩ (.bool (mB nt ng i))).heap[b]?:=λb hb c1 c2=>(k3.block b (Nat.lt_of_lt_of_le (hl1 b hb) k2.size) c2).trans (k2.block b (hl1 b hb) c1);have eSB:=keep SB hl (λq=>(hd.t0 i hi q.1).2 q.2.symm) (λq=>(hd.g0 i hi q.1).2 q.2.symm);refine⟨λhn j=>by rw[World.frozen?_of_block eSB,set_fz];exact h.fz hn j,λj hj=>?_,λj hj=>?_,λj hj=>?_,λj hj=>?_,λj hj=>?_⟩
 ·rw[World.cell?_of_block eSB];by_cases e:j=i
  ·subst e;rw[upto_eq];exact set_eq _ _ _ _ _ (h.c0 j hj)
  ·rw[upto_ne e,set_ne _ _ _ _ _ (by omega)];exact h.c0 j hj
 ·rw[World.cell?_of_block eSB,set_ne _ _ _ _ _ (by omega)];exact h.c1 j hj
 ·rw[World.cell?_of_block eSB,set_ne _ _ _ _ _ (by omega)];exact h.c2 j hj
 ·by_cases e:j=i
  ·subst e;rw[upto_eq];exact t2.block (λq=>k3.block _ (t2.lt q) (λc=>hd.tg j j hj hj q c.1 c.2))
  ·rw[upto_ne e];have:=h.ty j hj;exact this.block (λq=>(keep _ (this.lt q) (λc=>hd.tt j i hj hi e q c.1 c.2) (λc=>hd.tg j i hj hi q c.1 c.2)).trans (Below.heap_setCell _ _ _ _ (hd.t0 j hj q).2))
 ·by_cases e:j=i
  ·subst e;rw[upto_eq];exact g3
  ·rw[upto_ne e];have:=h.gu j hj;exact this.on (λq=>(keep _ (this.lt q) (λc=>hd.tg i j hi hj c.1 q c.2.symm) (λc=>hd.gg j i hj hi e q c.1 c.2)).trans (Below.heap_setCell _ _ _ _ (hd.g0 j hj q).2))
theorem mark_states{V:Nat->Nat->Value}(w:World)(h:OwS w SB n ti gi nt ng vt vg B A V)(hd:Dst base SB n ti gi nt ng)(hpa:0<n->pa=some ⟨SB,0,none⟩)(hn:n<=6000)(hs:∀j,j<n->nt j<=1000/\ng j<=1000):
  Calls Tryz.prog 11 #[.slice pa n ca,.int .i64 1] w λe w'=>e=.returned (.int .i64 (kS nt ng n:Int))/\Ko (λb=>base<=b) w w'/\OwS w' SB n ti gi nt ng vt vg (mB nt ng) (mA nt ng) (mV nt ng):=by
 have HD:Hid (Dst base SB n ti gi nt ng/\(0<n->pa=some ⟨SB,0,none⟩)/\n<=6000/\(∀j,j<n->nt j<=1000/\ng j<=1000)):=(⟨hd,hpa,hn,hs⟩:_/\_)
 have H0:Hid (Ko (λb=>base<=b) w w/\MgS SB n ti gi nt ng vt vg B A V 0 w):=(⟨Ko.refl _ _,h⟩:_/\_)
 have nI:(n:Int)<=6000:=by omega
 clear h hd hpa hn hs;go_enter Tryz.func11,Tryz.ntmps11;go_wp2_with fail
 go_loopw [1,5] (λs1 s5 wr=>∃i:Nat,i<=n/\s5=.int .i64 i/\s1=.int .i64 (kS nt ng i:Int)/\Hid (Ko (λb=>base<=b) w wr/\MgS SB n ti gi nt ng vt vg B A V i wr)) (λ_ s5 _=>n-(intOf s5).toNat)
 case atStart=>exact⟨0,Nat.zero_le _,rfl,rfl,H0⟩
 case round=>
  clear H0;obtain⟨i,hi,rfl,rfl,HX⟩:=hrel;by_cases hin:i<n
  ·obtain⟨hd,hpa,hn,hs⟩:=(uh HD)
   obtain rfl:=hpa (by omega);obtain⟨kw,hm⟩:=(uh HX)
   have hk:=kS_le hs i (by omega);have hsi:=hs i hin;obtain⟨pt,ct,et,-⟩:=(hm.ty i hin).sl;obtain⟨pg,cg,eg,-⟩:=(hm.gu i hin).sl;obtain⟨K,hK⟩:∃K:Int,K=(kS nt ng i:Int):=⟨_,rfl⟩
   have hK1:1<=K:=by omega
   have hK2:K<=30000000:=by omega
   obtain⟨u,hu⟩:∃u,u=upto i (mB nt ng) B i:=⟨_,rfl⟩
   have x0:wr.cell? ⟨SB,i*3,none⟩=some (.bool u):=by rw[hu];exact hm.c0 i hin
   have f0:wr.frozen? ⟨SB,i*3,none⟩=false:=hm.fz (by omega) _;obtain⟨y,hy⟩:∃y,y=wr.setCell ⟨SB,i*3,none⟩ (.bool (mB nt ng i)):=⟨_,rfl⟩
   have kwy:Ko (λb=>base<=b) w y:=by rw[hy];exact kw.trans (Ko.set1 _ (hd.sb (by omega)) _)
   have y1:y.cell? ⟨SB,i*3+1,none⟩=some (.slice pt (nt i) ct):=by rw[hy,set_ne _ _ _ _ _ (by omega),<-et];exact hm.c1 i hin
   have y2:y.cell? ⟨SB,i*3+2,none⟩=some (.slice pg (ng i) cg):=by rw[hy,set_ne _ _ _ _ _ (by omega),<-eg];exact hm.c2 i hin
   have ty:OwnR y (vt i) (ti i) (nt i) (λx=>.int .i64 (upto i (mA nt ng) A i x)):=(hm.ty i hin).block (λq=>by rw[hy];exact Below.heap_setCell _ _ _ _ (hd.t0 i hin q).2);have gu:GwR y (vg i) (gi i) (ng i) (upto i (mV nt ng) V i):=(hm.gu i hin).on (λq=>by rw[hy];exact Below.heap_setCell _ _ _ _ (hd.g0 i hin q).2);have hsb:SB<y.heap.size:=lt_of_cell y1;rw[et]at ty;rw[eg]at gu;have HM1:=mark_ints y (K+1) ty (by omega) (by omega) (by omega);have HY:Hid (wr.setCell ⟨SB,i*3,none⟩ (.bool (K%3==0))=y):=by rw[hy];unfold mB;rw[<-hK];rfl
   have HN:Hid (∀w2 w3,Ko (λj=>0<nt i/\j=ti i) y w2->OwnR w2 (.slice pt (nt i) ct) (ti i) (nt i) (λx=>.int .i64 (K+1+(x:Int)))->Ko (λj=>0<ng i/\j=gi i) w2 w3->GwR w3 (.slice pg (ng i) cg) (gi i) (ng i) (λx=>vU (x%3) (K+1+(nt i:Int)+(x:Int)))->Ko (λb=>base<=b) w w3/\MgS SB n ti gi nt ng vt vg B A V (i+1) w3):=(λw2 w3 k2 t2 k3 g3=>⟨(kwy.trans (k2.mono (λb q=>by rw[q.2];exact(hd.t0 i hin q.1).1))).trans (k3.mono (λb q=>by rw[q.2];exact(hd.g0 i hin q.1).1)),hm.step hd hin (by rw[<-hy];exact k2) (by rw[et];rw[hK]at t2;exact t2) k3 (by rw[eg];rw[hK]at g3;exact g3)⟩:∀w2 w3,_)
   have HG2:Hid (∀w2,Ko (λj=>0<nt i/\j=ti i) y w2->w2.cell? ⟨SB,i*3+2,none⟩=some (.slice pg (ng i) cg)/\Calls Tryz.prog 26 #[.slice pg (ng i) cg,.int .i64 (K+1+(nt i:Int))] w2 λe w'=>e=.returned (.int .i64 (K+1+(nt i:Int)+3*(ng i:Int)))/\Ko (λj=>0<ng i/\j=gi i) w2 w'/\GwR w' (.slice pg (ng i) cg) (gi i) (ng i) (λx=>vU (x%3) (K+1+(nt i:Int)+(x:Int)))):=(λw2 k2=>⟨(World.cell?_of_block (k2.block SB hsb (λq=>(hd.t0 i hin q.1).2 q.2.symm))).trans y2,mark_guards w2 _ (gu.on (λq=>k2.block _ (gu.lt q) (λc=>hd.tg i i hin hin c.1 q c.2.symm))) (by omega) (by omega) (by omega)⟩:∀w2,_)
   have HKK:Hid (K=(kS nt ng i:Int)):=hK;rw[<-hK];have iI:(i:Int)<(n:Int):=by omega
   obtain⟨a,ha⟩:∃a,a=nt i:=⟨_,rfl⟩
   obtain⟨b,hb⟩:∃b,b=ng i:=⟨_,rfl⟩
   rw[<-ha,<-hb]at HN HG2;rw[<-ha]at y1 HM1;have aI:(a:Int)<=1000:=by omega
   have bI:(b:Int)<=1000:=by omega
   have HAB:Hid (a=nt i/\b=ng i):=(⟨ha,hb⟩:_/\_)
   clear hd hpa hn hs kw hm hk hsi et eg hu hy kwy y2 ty gu hsb hK HX ha hb;go_upto_region 5 with fail;rw[(uh HY)];clear HY x0 f0;go_wp2_with fail;refine HM1.mono ?_;rintro e w2 ⟨rfl,k2,t2⟩;obtain⟨z2,HG⟩:=(uh HG2) w2 (Ko.of_kq k2);have HN2:Hid (∀w3,Ko (λj=>0<b/\j=gi i) w2 w3->GwR w3 (.slice pg b cg) (gi i) b (λx=>vU (x%3) (K+1+(a:Int)+(x:Int)))->Ko (λb=>base<=b) w w3/\MgS SB n ti gi nt ng vt vg B A V (i+1) w3):=(λw3=>(uh HN) w2 w3 (Ko.of_kq k2) t2:∀w3,_)
   clear HG2 HN HM1 k2 t2 y1;go_wp2_with fail;refine HG.mono ?_;rintro e w3 ⟨rfl,k3,g3⟩;have HN3:Hid (Ko (λb=>base<=b) w w3/\MgS SB n ti gi nt ng vt vg B A V (i+1) w3):=(uh HN2) w3 k3 g3;clear HN2 HG k3 g3 z2;go_wp2_with fail;go_roundw
   case rel=>exact⟨i+1,by omega,by go_num,by
    have h1:=(uh HKK)
    have h2:=(uh HAB)
    congr 1
    show K+1+(a:Int)+3*(b:Int)=((kS nt ng i+1+nt i+3*ng i:Nat):Int);rw[<-h2.1,<-h2.2]
    omega,HN3⟩
   case measure=>simp[intOf];omega
  ·obtain rfl:i=n:=by omega
   have hI:¬(i:Int)<(i:Int):=by omega
   have HE:Hid (Ko (λb=>base<=b) w wr/\OwS wr SB i ti gi nt ng vt vg (mB nt ng) (mA nt ng) (mV nt ng)):=by
    show _/\_;obtain⟨k,hm⟩:=(uh HX)
    exact⟨k,hm.fz,λj hj=>by have:=hm.c0 j hj;rw[upto_all hj]at this;exact this,hm.c1,hm.c2,λj hj=>by have:=hm.ty j hj;rw[upto_all hj]at this;exact this,λj hj=>by have:=hm.gu j hj;rw[upto_all hj]at this;exact this⟩
   clear HX HD;go_wp2_with fail;go_ret;exact⟨rfl,HE⟩
theorem held_states(w:World)(h:OwS w SB n ti gi nt ng vt vg (mB nt ng) (mA nt ng) (mV nt ng))(hpa:0<n->pa=some ⟨SB,0,none⟩)(hn:n<=6000)(hs:∀j,j<n->nt j<=1000/\ng j<=1000):
  Calls Tryz.prog 12 #[.slice pa n ca,.int .i64 1] w λe w'=>e=.returned (.int .i64 (kS nt ng n:Int))/\Kb 0 w w':=by
 have HD:Hid (OwS w SB n ti gi nt ng vt vg (mB nt ng) (mA nt ng) (mV nt ng)/\(0<n->pa=some ⟨SB,0,none⟩)/\n<=6000/\(∀j,j<n->nt j<=1000/\ng j<=1000)):=(⟨h,hpa,hn,hs⟩:_/\_)
 have nI:(n:Int)<=6000:=by omega
 clear h hpa hn hs;go_enter Tryz.func12,Tryz.ntmps12;go_wp2_with fail
 go_loopw [1,5] (λs1 s5 wr=>∃i:Nat,i<=n/\s5=.int .i64 i/\s1=.int .i64 (kS nt ng i:Int)/\Hid (Kb 0 w wr)) (λ_ s5 _=>n-(intOf s5).toNat)
 case atStart=>exact⟨0,Nat.zero_le _,rfl,rfl,Kb.refl _ _⟩
 case round=>
  obtain⟨i,hi,rfl,rfl,HX⟩:=hrel;by_cases hin:i<n
  ·obtain⟨h,hpa,hn,hs⟩:=(uh HD)
   obtain rfl:=hpa (by omega);have hm:=h.kb (uh HX);have hk:=kS_le hs i (by omega);have hsi:=hs i hin;obtain⟨pt,ct,et,-⟩:=(hm.ty i hin).sl;obtain⟨pg,cg,eg,hpg⟩:=(hm.gu i hin).sl;obtain⟨K,hK⟩:∃K:Int,K=(kS nt ng i:Int):=⟨_,rfl⟩
   have hK1:1<=K:=by omega
   have hK2:K<=30000000:=by omega
   have x0:wr.cell? ⟨SB,i*3,none⟩=some (.bool (K%3==0)):=by rw[hK];exact hm.c0 i hin
   have x1:wr.cell? ⟨SB,i*3+1,none⟩=some (.slice pt (nt i) ct):=by rw[<-et];exact hm.c1 i hin
   have y2:wr.cell? ⟨SB,i*3+2,none⟩=some (.slice pg (ng i) cg):=by rw[<-eg];exact hm.c2 i hin
   have ty:=(hm.ty i hin).row;have gu:=hm.gu i hin;rw[et]at ty;rw[eg]at gu;have HM1:=held_ints wr (K+1) (by rw[hK];exact ty) (show nt i<=1048576 by omega) (by omega) (by omega);have HG2:Hid (∀w2,Kb 0 wr w2->w2.cell? ⟨SB,i*3+2,none⟩=some (.slice pg (ng i) cg)/\Calls Tryz.prog 28 #[.slice pg (ng i) cg,.int .i64 (K+1+(nt i:Int))] w2 λe w'=>e=.returned (.int .i64 (K+1+(nt i:Int)+3*(ng i:Int)))/\Kb 0 w2 w'):=(λw2 k2=>⟨k2.cell y2,hld_guards (g:=gi i) _ (by omega) (by omega) (by omega) (λq=>⟨by obtain⟨e,-⟩:=hpg q;exact e,λj hj=>(k2.cell (gu.cell j hj)).trans (by rw[hK];rfl)⟩)⟩:∀w2,_)
   have HKK:Hid (K=(kS nt ng i:Int)):=hK;rw[<-hK];have iI:(i:Int)<(n:Int):=by omega
   obtain⟨a,ha⟩:∃a,a=nt i:=⟨_,rfl⟩
   obtain⟨b,hb⟩:∃b,b=ng i:=⟨_,rfl⟩
   rw[<-ha,<-hb]at HG2;rw[<-ha]at x1 HM1;have aI:(a:Int)<=1000:=by omega
   have bI:(b:Int)<=1000:=by omega
   have p1:¬K+1+(a:Int)<0:=by omega
   have p2:¬K+1+(a:Int)+3*(b:Int)<0:=by omega
   have HAB:Hid (a=nt i/\b=ng i):=(⟨ha,hb⟩:_/\_)
   clear h hpa hn hs hm hk hsi et eg hpg y2 ty gu hK ha hb;go_wp2_with fail;refine HM1.mono ?_;rintro e w2 ⟨rfl,d2⟩;have k2:Kb 0 wr w2:=by obtain⟨d,rfl⟩:=d2;exact(Kb.refl 0 wr).drewN d
   obtain⟨z2,HG⟩:=(uh HG2) w2 k2;have HB2:Hid (Kb 0 w w2):=(uh HX).trans k2;clear HG2 HM1 d2 k2 x0 x1 HX;go_wp2_with fail;refine HG.mono ?_;rintro e w3 ⟨rfl,k3⟩;have HB3:Hid (Kb 0 w w3):=(uh HB2).trans k3;clear HB2 HG k3 z2;go_wp2_with fail;go_roundw
   case rel=>exact⟨i+1,by omega,by go_num,by
    have h1:=(uh HKK)
    have h2:=(uh HAB)
    congr 1
    show K+1+(a:Int)+3*(b:Int)=((kS nt ng i+1+nt i+3*ng i:Nat):Int);rw[<-h2.1,<-h2.2]
    omega,HB3⟩
   case measure=>simp[intOf];omega
  ·obtain rfl:i=n:=by omega
   have hI:¬(i:Int)<(i:Int):=by omega
   clear HD;go_wp2_with fail;go_ret;exact⟨rfl,HX⟩
theorem freM_uns(M:Nat->Option Sv)(n:Nat):freM M n=unsB (λj=>(M j).isSome) n:=by
 unfold freM unsB;apply List.countP_congr;intro j _;cases hM:M j<;>simp[hM]
theorem onL_uns(D:List Nat)(n:Nat):onL D n=unsB (λj=>!dc (j ∈ D)) n:=by
 unfold onL unsB;apply List.countP_congr;intro j _
 simp
theorem freM_upd{M:Nat->Option Sv}{s:Sv}(hx:x<n)(hm:M x=none):freM (upd M x s) n+1=freM M n:=by
 rw[freM_uns,freM_uns];have:=unsB_set (Sn:=λj=>(M j).isSome) hx (by simp[hm]);rw[<-this]
 congr 1
 unfold unsB;apply List.countP_congr;intro j _;unfold upd;by_cases e:j=x<;>simp[e]
theorem onL_add{D':List Nat}(hx:x<n)(hn:x ∉ D)(h:∀j,j ∈ D'↔j=x\/j ∈ D):onL D' n=onL D n+1:=by
 rw[onL_uns,onL_uns];have:=unsB_set (Sn:=λj=>!dc (j ∈ D')) hx (by simp[dc,(h x).2 (.inl rfl)]);rw[<-this]
 congr 1
 unfold unsB;apply List.countP_congr;intro j _;by_cases e:j=x
 ·subst e;simp[dc,hn]
 ·have:j ∈ D'↔j ∈ D:=by rw[h j];simp[e]
  simp[e,dc,this]
noncomputable def mu(n:Nat)(st:St):Nat:=match st with|.ok M D=>2*freM M n+onL D n|.bad _ _=>0
theorem adv_mu{st:St}{x:Nat×Sv}(h:SOk d st)(hx:x.1<d.n):mu d.n (adv st x)<=mu d.n st:=by
 cases st with
 |bad c n=>exact Nat.le_refl _
 |ok M D=>
  have h:Inv d M D:=h;unfold adv;dsimp only;cases hm:M x.1 with
  |none=>
   dsimp only;show 2*freM (upd M x.1 x.2) d.n+onL (insD D x.1) d.n<=2*freM M d.n+onL D d.n;have h1:=freM_upd (s:=x.2) hx hm;have h2:=onL_add (D':=insD D x.1) hx (λq=>(h.du _ q).2 hm) (λj=>insD_mem);omega
  |some s=>
   dsimp only;split
   ·exact Nat.le_refl _
   ·exact Nat.zero_le _
theorem onL_cons(hi:i<n)(h:(i::D).Pairwise (· < ·)):onL (i::D) n=onL D n+1:=
 onL_add hi (λq=>by have:=(List.pairwise_cons.1 h).1 i q;omega) (λj=>List.mem_cons)
def tf(g r:Nat):List Int:=List.replicate r 1++List.replicate (g-r) 0
theorem tf_len(h:r<=g):(tf g r).length=g:=by unfold tf;rw[List.length_append,List.length_replicate,List.length_replicate];omega
theorem tf_step(h:r<g)(x:Int):(tf g r).set r x=List.replicate r 1++x::List.replicate (g-r-1) 0:=by
 unfold tf;rw[List.set_append_right _ _ (by simp),List.length_replicate,Nat.sub_self,show g-r=(g-r-1)+1 by omega,List.replicate_succ,List.set_cons_zero]
 simp
theorem tf_next(h:r<g):(tf g r).set r 1=tf g (r+1):=by
 rw[tf_step h];unfold tf;rw[List.replicate_succ',List.append_assoc,show g-r-1=g-(r+1) by omega];rfl
theorem tf_end{p:Nat}(h:Hd p d):(d.r=true->(tf d.g.toNat d.m.toNat).set d.m.toNat 3=t0 d)/\(¬d.r=true->tf d.g.toNat d.m.toNat=t0 d)/\d.m.toNat<=d.g.toNat/\(d.r=true->d.m.toNat<d.g.toNat):=by
 obtain⟨_,_,⟨g0,g1⟩,⟨m0,m1⟩,_⟩:=h;refine⟨λhr=>?_,λhr=>?_,?_,λhr=>?_⟩
 ·rw[if_pos hr]at m1;rw[tf_step (by omega)];unfold t0;rw[if_pos hr]
 ·unfold t0 tf;rw[if_neg hr]
 ·split at m1<;>omega
 ·rw[if_pos hr]at m1;omega
theorem made_ints(w:World)(base g:Nat)(hb:base<=w.heap.size)(hg:g<=1000):(w.alloc (.cells (madeCells (.int .i64 0:Value).cells (g*1)) 3)).ownsRow base 3 1 (.slice (some ⟨w.heap.size,0,none⟩) g g) g (iv (tf g 0)):=by
 have:=World.ownsRow_lit (base:=base) (e:=3) (size:=1) w (madeCells (.int .i64 0:Value).cells (g*1)) g hb (by unfold maxLen;omega) (by simp[madeCells])
 have e:(madeCells (.int .i64 0:Value).cells (g*1)).toList=iv (tf g 0):=by
  apply List.ext_getElem?;intro j;unfold iv tf;rw[Nat.sub_zero,List.replicate_zero,List.nil_append,List.getElem?_map,List.getElem?_replicate];rcases Nat.lt_or_ge j g with h|h
  ·rw[if_pos h];have:=made_at w (.int .i64 0) 1 3 g rfl j 0 h (by omega);rw[World.cell?_alloc_mark]at this;rw[Array.getElem?_toList];rw[show(Value.int .i64 0).cells[0]? =some (.int .i64 0)from rfl,show j*1+0=j by omega]at this;rw[this];rfl
  ·rw[if_neg (by omega)];simp[madeCells,h]
 rw[e]at this;exact this
def WtA(r:Nat)(w:World)(e:Ending)(w':World):Prop:=∃v,e=.returned v/\((wts r=[]/\v=.slice none 0 0)\/(wts r≠ []/\∃b cap,v=.slice (some b) (wts r).length cap))/\Rz (λk=>w.heap.size<=k) w' v (wts r)/\Kb 0 w w'
theorem rz_lit(w:World)(T:List Int)(hT:T≠ []):Rz (λk=>w.heap.size<=k) (w.alloc (.cells (iv T).toArray 3)) (.slice (some ⟨w.heap.size,0,none⟩) T.length T.length) T:=by
 refine⟨_,_,rfl,Nat.le_refl _,λ_=>⟨_,rfl,Nat.le_refl _,λj x hx=>?_⟩⟩;refine qr_cells w (iv T).toArray 3 (iv T) (by simp) j _ ?_;unfold iv;rw[List.getElem?_map,hx];rfl
theorem wt_nil(r:Nat)(w:World)(h:wts r=[]):WtA r w (.returned (.slice none 0 0)) w:=⟨_,rfl,.inl ⟨h,rfl⟩,by rw[h];exact⟨none,0,rfl,Nat.le_refl _,λq=>by simp at q⟩,Kb.refl _ _⟩
theorem wt_lit(r:Nat)(w:World)(h:wts r≠ []):WtA r w (.returned (.slice (some ⟨w.heap.size,0,none⟩) (wts r).length (wts r).length)) (w.alloc (.cells (iv (wts r)).toArray 3)):=⟨_,rfl,.inr ⟨h,_,_,rfl⟩,rz_lit w _ h,kb_alloc _ _ _⟩
theorem im_wants(r:Nat)(hr:r<24)(w:World):Calls Tryz.prog 120 #[.int .u8 r] w (WtA r w):=by
 rcases(by omega:r=0\/r=1\/r=2\/r=3\/r=4\/r=5\/r=6\/r=7\/r=8\/r=9\/r=10\/r=11\/r=12\/r=13\/r=14\/r=15\/r=16\/r=17\/r=18\/r=19\/r=20\/r=21\/r=22\/r=23)with rfl|rfl|rfl|rfl|rfl|rfl|rfl|rfl|rfl|rfl|rfl|rfl|rfl|rfl|rfl|rfl|rfl|rfl|rfl|rfl|rfl|rfl|rfl|rfl
 all_goals
  clear hr;go_enter Tryz.func120,Tryz.ntmps120;go_wp2_with fail;refine bodyPost_ret (by simp[results,Tryz.results120,go_sem];rfl) rfl ?_
  first
   |exact wt_nil _ w (by decide)
   |exact wt_lit _ w (by decide)
theorem im_kept{C:Nat}{G:List Gv}{vg:Value}(w:World)(hc:w.cell? ⟨C,7,none⟩=some vg)(r:Rg av w vg G)(hn:G.length<=1000)(hg:∀g,g ∈ G->-1000<=g.2.1/\g.2.1<=1000):
  Calls Tryz.prog 122 #[.pointer (some ⟨C,0,none⟩)] w λe w'=>e=.returned (.int .i64 (kpt G))/\Kb 0 w w':=by
 obtain⟨pg,cg,rfl,-,r1⟩:=r;have HA:Hid ((0<G.length->∃a:Addr,pg=some a/\av a.block/\∀j x,G[j]? =some x->CelG w (a.add (j*3)) x)/\∀g,g ∈ G->-1000<=g.2.1/\g.2.1<=1000):=(⟨r1,hg⟩:_/\_)
 have nI:(G.length:Int)<=1000:=by omega
 clear r1 hg hn;go_enter Tryz.func122,Tryz.ntmps122;go_wp2_with fail
 go_loopw [3,12] (λs3 s12 wr=>∃i:Nat,s12=.int .i64 i/\i<=G.length/\s3=.int .i64 ((G.take i).foldl kp1 0)/\Hid (Kb 0 w wr)) (λ_ s12 _=>G.length-(intOf s12).toNat)
 case atStart=>exact⟨0,rfl,Nat.zero_le _,rfl,Kb.refl _ _⟩
 case round=>
  obtain⟨i,rfl,hi,rfl,HX⟩:=hrel;have kw:=(uh HX)
  clear HX;rcases Nat.lt_or_ge i G.length with h|h
  ·have iI:(i:Int)<(G.length:Int):=by omega
   obtain⟨r1,hg⟩:=(uh HA)
   obtain⟨a,rfl,-,hrow⟩:=r1 (by omega);obtain⟨x,hx⟩:∃x,G[i]? =some x:=⟨_,List.getElem?_eq_getElem h⟩
   have q0:=kw.cell (hrow i x hx).c0;have q1:=kw.cell (hrow i x hx).c1;have q2:=kw.cell (hrow i x hx).c2;have e:(G.take (i+1)).foldl kp1 0=kp1 ((G.take i).foldl kp1 0) x:=by rw[take_app G i x hx,List.foldl_append];rfl
   have HE:Hid ((G.take (i+1)).foldl kp1 0=kp1 ((G.take i).foldl kp1 0) x):=e;have HK:Hid (∀o,Kb 0 w (wr.alloc o)):=(λo=>kw.alloc o:∀o,_)
   have hx1:=hg x (List.mem_of_getElem? hx);clear kw hrow r1 hg e hx h;obtain⟨x1,x2,x3⟩:=x;dsimp only at q0 q1 q2 hx1;obtain⟨m,hm⟩:∃m,m=(G.take i).foldl kp1 0:=⟨_,rfl⟩
   rw[<-hm]at HE⊢;clear hm;cases x1 with
   |false=>
    have HE2:Hid ((G.take (i+1)).foldl kp1 0=m):=HE;clear HE;go_wp2_with fail;go_roundw
    case rel=>exact⟨i+1,by go_num,by omega,by rw[(uh HE2)],(uh HK) _⟩
    case measure=>simp[intOf];omega
   |true=>
    have HE2:Hid ((G.take (i+1)).foldl kp1 0=max m x2):=HE;clear HE;go_wp2_with fail;go_roundw
    case rel=>exact⟨i+1,by go_num,by omega,by rw[(uh HE2)];first|rfl|(congr 1;omega)|simp[Int.max_def],(uh HK) _⟩
    case measure=>simp[intOf];omega
  ·have iI:¬(i:Int)<(G.length:Int):=by omega
   have e:(G.take i).foldl kp1 0=kpt G:=by rw[List.take_of_length_le h];rfl
   rw[e];have HK:Hid (Kb 0 w wr):=kw;clear kw e;go_wp2_with fail;go_ret;exact⟨rfl,HK⟩
theorem im_eqi{T2:List Int}(w:World)(h1:Rz av w va T)(h2:Rz bv w vb T2)(hn:T.length<=1000/\T2.length<=1000):
    Calls Tryz.prog 77 #[va,vb] w λe w'=>e=.returned (.bool (dc (T=T2)))/\Kb 0 w w':=by
  obtain⟨pa,ca,rfl,-,a1⟩:=h1;obtain⟨pb,cb,rfl,-,a2⟩:=h2;have HA:Hid ((0<T.length->∃a:Addr,pa=some a/\av a.block/\∀j x,T[j]? =some x->w.cell? (a.add j)=some (.int .i64 x))/\(0<T2.length->∃a:Addr,pb=some a/\bv a.block/\∀j x,T2[j]? =some x->w.cell? (a.add j)=some (.int .i64 x))):=(⟨a1,a2⟩:_/\_)
  have n1:(T.length:Int)<=1000:=by omega
  have n2:(T2.length:Int)<=1000:=by omega
  obtain⟨R,hR⟩:∃R,R=dc (T=T2):=⟨_,rfl⟩
  rw[<-hR];have HR:Hid (R=dc (T=T2)):=hR;clear hR a1 a2 hn;by_cases e1:T.length=T2.length
  rotate_left
  · have hF:R=false:=by rw[(uh HR)];exact dc_f (λq=>e1 (by rw[q]))
    have g1:((T.length:Int)==(T2.length:Int))=false:=bne (by omega);subst hF;clear HA HR e1 n1 n2;go_enter Tryz.func77,Tryz.ntmps77;go_wp2_with fail;go_ret;exact⟨rfl,Kb.refl _ _⟩
  have HE:Hid (T.length=T2.length):=e1;rw[<-e1];clear e1 n2;go_enter Tryz.func77,Tryz.ntmps77;go_wp2_with fail
  go_loopw [13] (λsl wr=>∃i:Nat,sl=.int .i64 i/\i<=T.length/\Hid (Kb 0 w wr/\∀j,j<i->T[j]? =T2[j]?)) (λsl _=>T.length-(intOf sl).toNat)
  case atStart=>exact⟨0,rfl,Nat.zero_le _,(⟨Kb.refl _ _,λj h=>by omega⟩:_/\_)⟩
  case round=>
    obtain⟨i,rfl,hi,HX⟩:=hrel;obtain⟨kw,hX⟩:=(uh HX)
    clear HX;rcases Nat.lt_or_ge i T.length with h|h
    · have hI:(i:Int)<(T.length:Int):=by omega
      obtain⟨A1,A2⟩:=(uh HA)
      have E1:=(uh HE)
      obtain⟨a,rfl,-,ra⟩:=A1 (by omega);obtain⟨b,rfl,-,rb⟩:=A2 (by omega);obtain⟨p,hp⟩:∃p,T[i]? =some p:=⟨_,List.getElem?_eq_getElem h⟩
      obtain⟨q,hq⟩:∃q,T2[i]? =some q:=⟨_,List.getElem?_eq_getElem (by omega)⟩
      have s1:=kw.cell (ra i p hp);have s2:=kw.cell (rb i q hq);by_cases e:p=q
      · have HN : Hid (∀ m, Kb 0 w (wr.drewN m) ∧ ∀ j, j < i + 1 → T[j]? = T2[j]?) := (fun m => ⟨kw.drewN m, fun j hj => by
          by_cases ej:j=i
          · subst ej;rw[hp,hq,e]
          · exact hX j (by omega)⟩:∀m,_)
        have g3:(p==q)=true:=beq1 e;clear hX kw ra rb A1 A2 hp hq E1;go_wp2_with fail
        go_quiet (skip)
        go_wp2_with fail;go_roundw
        case rel=>exact⟨i+1,by go_num,by omega,(uh HN) _⟩
        case measure=>simp[intOf];omega
      · have hF : R = false := by
          rw[(uh HR)];refine dc_f (λz=>e ?_);have:=hp;rw[z,hq]at this
          simpa using this.symm
        have g3:(p==q)=false:=bne e;subst hF;have HN:Hid (∀m,Kb 0 w (wr.drewN m)):=(λm=>kw.drewN m:∀m,_)
        clear hX kw ra rb A1 A2 hp hq E1 HR;go_wp2_with fail
        go_quiet (skip)
        go_wp2_with fail;go_ret;exact⟨rfl,(uh HN) _⟩
    · have hI:¬(i:Int)<(T.length:Int):=by omega
      have hTT:T=T2:=List.ext_getElem? (λj=>by
        rcases Nat.lt_or_ge j T.length with hj|hj
        · exact hX j (by omega)
        · rw[List.getElem?_eq_none hj,List.getElem?_eq_none (by have:=(uh HE);omega)])
      have hT:R=true:=by rw[(uh HR)];exact dc_t hTT
      subst hT;have HK:Hid (Kb 0 w wr):=kw;clear hX kw hTT HR HA;go_wp2_with fail;go_ret;exact⟨rfl,HK⟩
theorem im_eqg{T T2:List Gv}(w:World)(h1:Rg av w va T)(h2:Rg bv w vb T2)(hn:T.length<=1000/\T2.length<=1000):
    Calls Tryz.prog 78 #[va,vb] w λe w'=>e=.returned (.bool (dc (T=T2)))/\Kb 0 w w':=by
  obtain⟨pa,ca,rfl,-,a1⟩:=h1;obtain⟨pb,cb,rfl,-,a2⟩:=h2;have HA:Hid ((0<T.length->∃a:Addr,pa=some a/\av a.block/\∀j x,T[j]? =some x->CelG w (a.add (j*3)) x)/\(0<T2.length->∃a:Addr,pb=some a/\bv a.block/\∀j x,T2[j]? =some x->CelG w (a.add (j*3)) x)):=(⟨a1,a2⟩:_/\_)
  have n1:(T.length:Int)<=1000:=by omega
  have n2:(T2.length:Int)<=1000:=by omega
  obtain⟨R,hR⟩:∃R,R=dc (T=T2):=⟨_,rfl⟩
  rw[<-hR];have HR:Hid (R=dc (T=T2)):=hR;clear hR a1 a2 hn;by_cases e1:T.length=T2.length
  rotate_left
  · have hF:R=false:=by rw[(uh HR)];exact dc_f (λq=>e1 (by rw[q]))
    have g1:((T.length:Int)==(T2.length:Int))=false:=bne (by omega);subst hF;clear HA HR e1 n1 n2;go_enter Tryz.func78,Tryz.ntmps78;go_wp2_with fail;go_ret;exact⟨rfl,Kb.refl _ _⟩
  have HE:Hid (T.length=T2.length):=e1;rw[<-e1];clear e1 n2;go_enter Tryz.func78,Tryz.ntmps78;go_wp2_with fail
  go_loopw [13] (λsl wr=>∃i:Nat,sl=.int .i64 i/\i<=T.length/\Hid (Kb 0 w wr/\∀j,j<i->T[j]? =T2[j]?)) (λsl _=>T.length-(intOf sl).toNat)
  case atStart=>exact⟨0,rfl,Nat.zero_le _,(⟨Kb.refl _ _,λj h=>by omega⟩:_/\_)⟩
  case round=>
    obtain⟨i,rfl,hi,HX⟩:=hrel;obtain⟨kw,hX⟩:=(uh HX)
    clear HX;rcases Nat.lt_or_ge i T.length with h|h
    · have hI:(i:Int)<(T.length:Int):=by omega
      obtain⟨A1,A2⟩:=(uh HA)
      have E1:=(uh HE)
      obtain⟨a,rfl,-,ra⟩:=A1 (by omega);obtain⟨b,rfl,-,rb⟩:=A2 (by omega);obtain⟨p,hp⟩:∃p,T[i]? =some p:=⟨_,List.getElem?_eq_getElem h⟩
      obtain⟨q,hq⟩:∃q,T2[i]? =some q:=⟨_,List.getElem?_eq_getElem (by omega)⟩
      have s1:=kw.cell (ra i p hp).c0;have s2:=kw.cell (ra i p hp).c1;have s3:=kw.cell (ra i p hp).c2;have s4:=kw.cell (rb i q hq).c0;have s5:=kw.cell (rb i q hq).c1;have s6:=kw.cell (rb i q hq).c2;by_cases e:p=q
      · have HN : Hid (∀ m, Kb 0 w (wr.drewN m) ∧ ∀ j, j < i + 1 → T[j]? = T2[j]?) := (fun m => ⟨kw.drewN m, fun j hj => by
          by_cases ej:j=i
          · subst ej;rw[hp,hq,e]
          · exact hX j (by omega)⟩:∀m,_)
        have g3:=λw=>neq_guard p q w;rw[dc_f (λg=>g e)]at g3;clear hX kw ra rb A1 A2 hp hq E1;go_wp2_with fail
        go_quiet (skip)
        go_wp2_with fail;go_roundw
        case rel=>exact⟨i+1,by go_num,by omega,(uh HN) _⟩
        case measure=>simp[intOf];omega
      · have hF : R = false := by
          rw[(uh HR)];refine dc_f (λz=>e ?_);have:=hp;rw[z,hq]at this
          simpa using this.symm
        have g3:=λw=>neq_guard p q w;rw[dc_t e]at g3;subst hF;have HN:Hid (∀m,Kb 0 w (wr.drewN m)):=(λm=>kw.drewN m:∀m,_)
        clear hX kw ra rb A1 A2 hp hq E1 HR;go_wp2_with fail
        go_quiet (skip)
        go_wp2_with fail;go_ret;exact⟨rfl,(uh HN) _⟩
    · have hI:¬(i:Int)<(T.length:Int):=by omega
      have hTT:T=T2:=List.ext_getElem? (λj=>by
        rcases Nat.lt_or_ge j T.length with hj|hj
        · exact hX j (by omega)
        · rw[List.getElem?_eq_none hj,List.getElem?_eq_none (by have:=(uh HE);omega)])
      have hT:R=true:=by rw[(uh HR)];exact dc_t hTT
      subst hT;have HK:Hid (Kb 0 w wr):=kw;clear hX kw hTT HR HA;go_wp2_with fail;go_ret;exact⟨rfl,HK⟩
theorem im_index(x:Int)(w:World)(h1:Rz av w va T)(hn:T.length<=1000):
  Calls Tryz.prog 141 #[va,.int .i64 x] w λe w'=>∃r:Int,e=.returned (.int .i64 r)/\(0<=r↔x ∈ T)/\w'=w:=by
 obtain⟨pa,ca,rfl,-,a1⟩:=h1;have HA:Hid (0<T.length->∃a:Addr,pa=some a/\av a.block/\∀j x,T[j]? =some x->w.cell? (a.add j)=some (.int .i64 x)):=a1;have n1:(T.length:Int)<=1000:=by omega
 clear a1 hn;go_enter Tryz.func141,Tryz.ntmps141;go_wp2_with fail
 go_loopw [8] (λsl wr=>∃i:Nat,sl=.int .i64 i/\i<=T.length/\wr=w/\Hid (∀j,j<i->T[j]? ≠some x)) (λsl _=>T.length-(intOf sl).toNat)
 case atStart=>exact⟨0,rfl,Nat.zero_le _,rfl,(λj h=>by omega:∀j,_)⟩
 case round=>
  obtain⟨i,rfl,hi,rfl,HX⟩:=hrel
  rename World=>w
  have hX:=(uh HX)
  clear HX;rcases Nat.lt_or_ge i T.length with h|h
  ·have hI:(i:Int)<(T.length:Int):=by omega
   obtain⟨a,rfl,-,ra⟩:=(uh HA) (by omega)
   obtain⟨p,hp⟩:∃p,T[i]? =some p:=⟨_,List.getElem?_eq_getElem h⟩
   have s1:=ra i p hp;by_cases e:x=p
   ·have g3:(x==p)=true:=beq1 e;have HZ:Hid (0<=(i:Int)↔x ∈ T):=(⟨λ_=>by rw[e];exact List.mem_of_getElem? hp,λ_=>by omega⟩:_↔_)
    clear hX ra hp e HA;go_wp2_with fail;go_ret;exact⟨_,rfl,HZ,rfl⟩
   ·have g3:=bne e
    have HN:Hid (∀j,j<i+1->T[j]? ≠some x):=(λj hj=>by
     by_cases ej:j=i
     ·subst ej;rw[hp];intro q;exact e (by simpa using q.symm)
     ·exact hX j (by omega):∀j,_)
    clear hX ra hp e HA;go_wp2_with fail;go_roundw
    case rel=>exact⟨i+1,by go_num,by omega,by simp,HN⟩
    case measure=>simp[intOf];omega
  ·have hI:¬(i:Int)<(T.length:Int):=by omega
   have HZ:Hid (0<=(-1:Int)↔x ∈ T):=(⟨λq=>by omega,λq=>by
    obtain⟨j,hj⟩:=List.getElem?_of_mem q
    exact absurd hj (hX j (by have:=(List.getElem?_eq_some_iff.1 hj).1;omega))⟩:_↔_)
   clear hX HA;go_wp2_with fail;go_ret;exact⟨_,rfl,HZ,rfl⟩
theorem im_contains(x:Int)(w:World)(h1:Rz av w va T)(hn:T.length<=1000):
  Calls Tryz.prog 121 #[va,.int .i64 x] w λe w'=>e=.returned (.bool (dc (x ∈ T)))/\w'=w:=by
 have HI:=im_index x w h1 hn;obtain⟨pa,ca,rfl,-,-⟩:=h1;obtain⟨R,hR⟩:∃R,R=dc (x ∈ T):=⟨_,rfl⟩
 rw[<-hR];clear hn;go_enter Tryz.func121,Tryz.ntmps121;go_wp2_with fail;refine HI.mono ?_;rintro e w2 ⟨r,rfl,hr,rfl⟩;by_cases c:x ∈ T
 ·have g:=hr.2 c;rw[dc_t c]at hR;subst hR;clear hr HI c;go_wp2_with fail;go_ret;exact⟨by first|rfl|simp|simp[g],rfl⟩
 ·have g:¬0<=r:=λq=>c (hr.1 q);rw[dc_f c]at hR;subst hR;clear hr HI c;go_wp2_with fail;go_ret;exact⟨by first|rfl|(simp;omega),rfl⟩
theorem add_plus(b:Addr)(i t:Nat)(ht:0<t):b.add (i+t)=⟨(b.add i).block,(b.add i).off+t,none⟩:=by
 unfold Addr.add;rw[if_neg (show ¬(i+t=0) by omega)];by_cases e:i=0
 ·subst e;rw[if_pos rfl,Nat.zero_add]
 ·rw[if_neg e,Nat.add_assoc]
theorem im_clone(w:World)(h1:Rz av w va T)(hn:T.length<=1000):
  Calls Tryz.prog 20 #[va] w λe w'=>∃v,e=.returned v/\OwI w.heap.size w' v T/\Kb 0 w w':=by
 obtain⟨pa,ca,rfl,hca,a1⟩:=h1;have n1:(T.length:Int)<=1000:=by omega
 have qN:∀(w:World) (a:Option Addr) (n c n' c':Nat),(binOp .eql 53 (.slice a n c) (.slice none n' c')).run Tryz.prog w=.ok (.bool a.isNone) w:=λw a n c n' c'=>Lib.run_eql_slice_nil w _ _ a n c n' c' Tryz.underlying53;cases pa with
 |none=>
  have hT:T=[]:=by
   cases T with
   |nil=>rfl
   |cons x T=>obtain⟨a,e,_⟩:=a1 (by simp);cases e
  subst hT;clear a1 hn n1 hca;go_enter Tryz.func20,Tryz.ntmps20;go_wp2_with fail;go_ret;exact⟨_,rfl,World.ownsRow_nil _ _ _ _,Kb.refl _ _⟩
 |some b0=>
  by_cases hT:T=[]
  ·subst hT;have HZ:Hid (OwI w.heap.size (w.alloc (.cells #[] 3)) (.slice (some ⟨w.heap.size,0,none⟩) 0 0) []):=World.ownsRow_lit w #[] 0 (Nat.le_refl _) (by decide) rfl;clear a1 hn n1 hca;go_enter Tryz.func20,Tryz.ntmps20;go_wp2_with fail;go_ret;exact⟨_,rfl,HZ,kb_alloc _ _ _⟩
  have hpos:0<T.length:=by cases T with|nil=>exact absurd rfl hT|cons x T=>simp
  obtain⟨b',e',-,h7⟩:=a1 hpos;obtain rfl:b0=b':=by simpa using e'
  have hown:(w.alloc (.cells #[] 3)).ownsRow w.heap.size 3 1 (.slice (some ⟨w.heap.size,0,none⟩) 0 0) 0 []:=World.ownsRow_lit w #[] 0 (Nat.le_refl _) (by decide) rfl
  have hnews:∀j u,(iv T)[j]? =some u->(w.alloc (.cells #[] 3)).cell? (b0.add j)=some u:=λj u hj=>by
   unfold iv at hj;rw[List.getElem?_map]at hj;cases hx:T[j]? with
   |none=>rw[hx]at hj;cases hj
   |some x=>
    rw[hx]at hj;have:u=.int .i64 x:=by simpa using hj.symm
    rw[this];exact(kb_alloc 0 w _).cell (h7 j x hx)
  have h1c:∀u ∈ (iv T),u.oneCell'=true:=by intro u hu;unfold iv at hu;obtain⟨x,_,rfl⟩:=List.mem_map.1 hu;rfl
  have hll:(iv T).length=T.length*1:=by unfold iv;simp
  have HSTP:Hid (∀(g c':Nat) (w7:World),w7.ownsRow w.heap.size 3 1 (.slice (some ⟨g,0,none⟩) (0+T.length) c') (0+T.length) ([]++(iv T))->(w.alloc (.cells #[] 3)).grownBy w7 (Value.slice (some ⟨w.heap.size,0,none⟩) 0 0).ownBlock->OwI w.heap.size w7 (.slice (some ⟨g,0,none⟩) (0+T.length) c') T/\Kb 0 w w7):=(λg c' w7 h1 h2=>⟨by unfold OwI;rw[Nat.zero_add]at h1⊢;simpa using h1,(kb_alloc 0 w _).gr h2 (λg e=>by simp[Value.ownBlock]at e;omega)⟩:∀(g c':Nat),_)
  have HP:Hid (0<T.length/\T.length<=1000):=(⟨hpos,hn⟩:_/\_)
  obtain⟨i0,hi0,hz0,hzs,hzb⟩:=info_parts infoI;have HI0:Hid (Tryz.prog.info? 3=some i0):=hi0;clear hi0;clear a1 hn hT hpos e' h7 hca;obtain⟨nT,hnT⟩:∃nT,nT=T.length:=⟨_,rfl⟩
  rw[<-hnT]at HSTP HP hll n1⊢;go_enter Tryz.func20,Tryz.ntmps20;go_wp2_with (at_builtin;refine wpList_append_lies _ rfl (.tmp 5) (.tmp 6) 53 rfl w.heap.size 3 i0 (.int .i64 0) 1 8 Tryz.underlying53 HI0 hz0 hzs hzb rfl (by decide) _ _ _ rfl hown b0 nT ca (iv T) rfl hll hnews h1c (uh HP).1 (by have:=(uh HP).2;unfold maxLen;omega) (by have:=(uh HP).2;omega) (by simp) (w.heap.size+1) (by simp) ?_;intro g cap' w7 hown3 hgr3 hl3 _;have HZ:Hid _:=(uh HSTP) _ _ _ hown3 hgr3;clear hown3 hgr3 hl3 hown hnews h1c hll HSTP);refine bodyPost_ret (by simp[results,Tryz.results20,go_sem];rfl) rfl ?_;exact⟨_,rfl,by have:=(uh HZ).1;rw[Nat.zero_add,hnT]at this;exact this,(uh HZ).2⟩
theorem im_cloneg{T:List Gv}(w:World)(h1:Rg av w va T)(hn:T.length<=1000):
  Calls Tryz.prog 21 #[va] w λe w'=>∃v,e=.returned v/\OwG w.heap.size w' v T/\Kb 0 w w':=by
 obtain⟨pa,ca,rfl,hca,a1⟩:=h1;have n1:(T.length:Int)<=1000:=by omega
 have qN:∀(w:World) (a:Option Addr) (n c n' c':Nat),(binOp .eql 56 (.slice a n c) (.slice none n' c')).run Tryz.prog w=.ok (.bool a.isNone) w:=λw a n c n' c'=>Lib.run_eql_slice_nil w _ _ a n c n' c' Tryz.underlying56;cases pa with
 |none=>
  have hT:T=[]:=by
   cases T with
   |nil=>rfl
   |cons x T=>obtain⟨a,e,_⟩:=a1 (by simp);cases e
  subst hT;clear a1 hn n1 hca;go_enter Tryz.func21,Tryz.ntmps21;go_wp2_with fail;go_ret;exact⟨_,rfl,World.ownsRow_nil _ _ _ _,Kb.refl _ _⟩
 |some b0=>
  by_cases hT:T=[]
  ·subst hT;have HZ:Hid (OwG w.heap.size (w.alloc (.cells #[] 62)) (.slice (some ⟨w.heap.size,0,none⟩) 0 0) []):=World.ownsRow_lit w #[] 0 (Nat.le_refl _) (by decide) rfl;clear a1 hn n1 hca;go_enter Tryz.func21,Tryz.ntmps21;go_wp2_with fail;go_ret;exact⟨_,rfl,HZ,kb_alloc _ _ _⟩
  have hpos:0<T.length:=by cases T with|nil=>exact absurd rfl hT|cons x T=>simp
  obtain⟨b',e',-,h7⟩:=a1 hpos;obtain rfl:b0=b':=by simpa using e'
  have hown:(w.alloc (.cells #[] 62)).ownsRow w.heap.size 62 3 (.slice (some ⟨w.heap.size,0,none⟩) 0 0) 0 []:=World.ownsRow_lit w #[] 0 (Nat.le_refl _) (by decide) rfl
  have hnews:∀j u,(T.flatMap gcl)[j]? =some u->(w.alloc (.cells #[] 62)).cell? (b0.add j)=some u:=λj u hj=>by
   obtain⟨i,t,ht,rfl⟩:∃i t,t<3/\j=i*3+t:=⟨j / 3,j%3,by omega,by omega⟩
   have hlt:=(List.getElem?_eq_some_iff.1 hj).1;rw[gcl_len]at hlt;obtain⟨x,hx⟩:∃x,T[i]? =some x:=⟨_,List.getElem?_eq_getElem (by omega)⟩
   rw[gcl_at T i x hx t ht]at hj;have hc:=h7 i x hx;refine(kb_alloc 0 w _).cell ?_;rcases(by omega:t=0\/t=1\/t=2)with rfl|rfl|rfl
   ·have:u=.bool x.1:=by simpa [gcl]using hj.symm
    rw[this];exact hc.c0
   ·have:u=.int .i64 x.2.1:=by simpa [gcl]using hj.symm
    rw[this,add_plus b0 (i*3) 1 (by omega)];exact hc.c1
   ·have:u=.int .i64 x.2.2:=by simpa [gcl]using hj.symm
    rw[this,add_plus b0 (i*3) 2 (by omega)];exact hc.c2
  have h1c:∀u ∈ (T.flatMap gcl),u.oneCell'=true:=by intro u hu;obtain⟨x,_,hx⟩:=List.mem_flatMap.1 hu;simp[gcl]at hx;rcases hx with rfl|rfl|rfl<;>rfl
  have hll:(T.flatMap gcl).length=T.length*3:=by exact gcl_len T
  have HSTP:Hid (∀(g c':Nat) (w7:World),w7.ownsRow w.heap.size 62 3 (.slice (some ⟨g,0,none⟩) (0+T.length) c') (0+T.length) ([]++(T.flatMap gcl))->(w.alloc (.cells #[] 62)).grownBy w7 (Value.slice (some ⟨w.heap.size,0,none⟩) 0 0).ownBlock->OwG w.heap.size w7 (.slice (some ⟨g,0,none⟩) (0+T.length) c') T/\Kb 0 w w7):=(λg c' w7 h1 h2=>⟨by unfold OwG;rw[Nat.zero_add]at h1⊢;simpa using h1,(kb_alloc 0 w _).gr h2 (λg e=>by simp[Value.ownBlock]at e;omega)⟩:∀(g c':Nat),_)
  have HP:Hid (0<T.length/\T.length<=1000):=(⟨hpos,hn⟩:_/\_)
  obtain⟨i0,hi0,hz0,hzs,hzb⟩:=info_parts infoG;have HI0:Hid (Tryz.prog.info? 62=some i0):=hi0;clear hi0;clear a1 hn hT hpos e' h7 hca;obtain⟨nT,hnT⟩:∃nT,nT=T.length:=⟨_,rfl⟩
  rw[<-hnT]at HSTP HP hll n1⊢;go_enter Tryz.func21,Tryz.ntmps21;go_wp2_with (at_builtin;refine wpList_append_lies _ rfl (.tmp 5) (.tmp 6) 56 rfl w.heap.size 62 i0 (.agg #[.bool false,.int .i64 0,.int .i64 0]) 3 24 Tryz.underlying56 HI0 hz0 hzs hzb rfl (by decide) _ _ _ rfl hown b0 nT ca (T.flatMap gcl) rfl hll hnews h1c (uh HP).1 (by have:=(uh HP).2;unfold maxLen;omega) (by have:=(uh HP).2;omega) (by simp) (w.heap.size+1) (by simp) ?_;intro g cap' w7 hown3 hgr3 hl3 _;have HZ:Hid _:=(uh HSTP) _ _ _ hown3 hgr3;clear hown3 hgr3 hl3 hown hnews h1c hll HSTP);refine bodyPost_ret (by simp[results,Tryz.results21,go_sem];rfl) rfl ?_;exact⟨_,rfl,by have:=(uh HZ).1;rw[Nat.zero_add,hnT]at this;exact this,(uh HZ).2⟩
