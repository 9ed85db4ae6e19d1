import Derived.Test.YtohbcpfjjimdnaaGreatDoorMEfd
import Derived.Test.YtohbcpfjjimdnaaGreatDoorMNpf
set_option maxHeartbeats 16000000
namespace Go.Proofs.YtohbcpfjjimdnaaGreatDoor.Fo
open Go.ChangeShapes Go.WideShapes Go.ChangeAt Go.RowKit
set_option linter.unusedVariables false
set_option maxRecDepth 100000
variable {w w' W W':World}{base size n g c m cp:Nat}{e:TypeId}{v va:Value}{xs:List Value}{av bv:Nat->Prop}{T:List Int}{G:List Gv}{V:Nat->Int->Value}{k:Int}{pa:Option Addr}
theorem own_shape(h:w.ownsRow base e size v n xs):∃(ad:Option Addr) (cap:Nat),v=.slice ad n cap:=by
 rcases h.2 with⟨rfl,e⟩|⟨g,cap,cur,rfl,_⟩
 ·exact⟨none,0,by rw[show n=0 from e]⟩
 ·exact⟨_,cap,rfl⟩
theorem rowBlk'(h:w.ownsRow base e size v n xs)(hb:∀g,v.ownBlock=some g->w'.heap[g]? =w.heap[g]?):w'.ownsRow base e size v n xs:=by
 refine⟨h.1,?_⟩;rcases h.2 with h|⟨g,cap,cur,rfl,h1,h2,h3⟩
 ·exact .inl h
 ·exact .inr ⟨g,cap,cur,rfl,h1,(hb g rfl).trans h2,h3⟩
theorem ownsRow_mono2{base':Nat}(h:w.ownsRow base e size v n xs)(hb:base'<=base):w.ownsRow base' e size v n xs:=by
 refine⟨h.1,?_⟩;rcases h.2 with h|⟨g,cap,cur,rfl,h1,h2,h3⟩
 ·exact .inl h
 ·exact .inr ⟨g,cap,cur,rfl,Nat.le_trans hb h1,h2,h3⟩
theorem Kb.gr{w2 w3:World}{r:Option Nat}(h:Kb 0 W w2)(z:w2.grownBy w3 r)(hg:∀g,r=some g->W.heap.size<=g):Kb 0 W w3:=
 ⟨z.os.trans h.os,z.output.trans h.output,Nat.le_trans h.size z.size,λi _ h1=>(z.block i (Nat.lt_of_lt_of_le h1 h.size) (λe=>by have:=hg i e.symm;omega)).trans (h.block i zq h1)⟩
def Rz(av:Nat->Prop)(W:World)(v:Value)(T:List Int):Prop:=∃pa cap,v=.slice pa T.length cap/\T.length<=cap/\(0<T.length->∃a:Addr,pa=some a/\av a.block/\∀j x,T[j]? =some x->W.cell? (a.add j)=some (.int .i64 x))
theorem Rz.on(h:Rz av W v T)(k:∀b,av b->b<W.heap.size->W'.heap[b]? =W.heap[b]?):Rz av W' v T:=by
 obtain⟨pa,cap,h1,h0,h2⟩:=h;refine⟨pa,cap,h1,h0,λhn=>?_⟩;obtain⟨a,e1,e2,e3⟩:=h2 hn;refine⟨a,e1,e2,λj x hx=>?_⟩;have hc:=e3 j x hx;have hl:a.block<W.heap.size:=by have:=lt_of_cell' hc;rw[add_block]at this;exact this
 exact(World.cell?_of_block (by rw[add_block];exact k _ e2 hl)).trans hc
theorem Rz.kb(h:Rz av W v T)(k:Kb 0 W W'):Rz av W' v T:=h.on (λb _ hb=>k.block b zq hb)
theorem Rz.imp(h:Rz av W v T)(k:∀b,b<W.heap.size->av b->bv b):Rz bv W v T:=by
 obtain⟨pa,cap,h1,h0,h2⟩:=h;refine⟨pa,cap,h1,h0,λhn=>?_⟩;obtain⟨a,e1,e2,e3⟩:=h2 hn
 have hl:a.block<W.heap.size:=by
  have:=lt_of_cell' (e3 0 _ (List.getElem?_eq_getElem hn));rw[add_block]at this;exact this
 exact⟨a,e1,k _ hl e2,e3⟩
def gcl(g:Gv):List Value:=[.bool g.1,.int .i64 g.2.1,.int .i64 g.2.2]
structure CelG (W:World) (b:Addr) (g:Gv):Prop where
 c0:W.cell? b=some (.bool g.1)
 c1:W.cell? ⟨b.block,b.off+1,none⟩=some (.int .i64 g.2.1)
 c2:W.cell? ⟨b.block,b.off+2,none⟩=some (.int .i64 g.2.2)
def Rg(av:Nat->Prop)(W:World)(v:Value)(G:List Gv):Prop:=∃pa cap,v=.slice pa G.length cap/\G.length<=cap/\(0<G.length->∃a:Addr,pa=some a/\av a.block/\∀j x,G[j]? =some x->CelG W (a.add (j*3)) x)
theorem CelG.on{b:Addr}{g:Gv}(h:CelG W b g)(k:W'.heap[b.block]? =W.heap[b.block]?):CelG W' b g:=
 ⟨(World.cell?_of_block k).trans h.c0,(World.cell?_of_block (by exact k)).trans h.c1,(World.cell?_of_block (by exact k)).trans h.c2⟩
theorem Rg.on(h:Rg av W v G)(k:∀b,av b->b<W.heap.size->W'.heap[b]? =W.heap[b]?):Rg av W' v G:=by
 obtain⟨pa,cap,h1,h0,h2⟩:=h;refine⟨pa,cap,h1,h0,λhn=>?_⟩;obtain⟨a,e1,e2,e3⟩:=h2 hn;refine⟨a,e1,e2,λj x hx=>?_⟩;have hc:=e3 j x hx;have hl:a.block<W.heap.size:=by have:=lt_of_cell' hc.c0;rw[add_block]at this;exact this
 exact hc.on (by rw[add_block];exact k _ e2 hl)
theorem Rg.kb(h:Rg av W v G)(k:Kb 0 W W'):Rg av W' v G:=h.on (λb _ hb=>k.block b zq hb)
theorem Rg.imp(h:Rg av W v G)(k:∀b,b<W.heap.size->av b->bv b):Rg bv W v G:=by
 obtain⟨pa,cap,h1,h0,h2⟩:=h;refine⟨pa,cap,h1,h0,λhn=>?_⟩;obtain⟨a,e1,e2,e3⟩:=h2 hn
 have hl:a.block<W.heap.size:=by
  have:=lt_of_cell' (e3 0 _ (List.getElem?_eq_getElem hn)).c0;rw[add_block]at this;exact this
 exact⟨a,e1,k _ hl e2,e3⟩
def OwI(base:Nat)(W:World)(v:Value)(T:List Int):Prop:=W.ownsRow base 3 1 v T.length (iv T)
def OwG(base:Nat)(W:World)(v:Value)(G:List Gv):Prop:=W.ownsRow base 62 3 v G.length (G.flatMap gcl)
theorem OwI.rz(h:OwI base W v T):Rz (λk=>base<=k) W v T:=by
 rcases h.2 with⟨rfl,e⟩|⟨g,cap,cur,rfl,h1,h2,h3,h4,h5,h6⟩
 ·exact⟨none,0,by rw[e],by omega,λhn=>by omega⟩
 ·refine⟨_,cap,rfl,h3,λhn=>⟨_,rfl,h1,λj x hx=>?_⟩⟩;refine World.ownsRow.cells h rfl j _ ?_;show(iv T)[j]? =_;unfold iv;rw[List.getElem?_map,hx];rfl
theorem gcl_len(G:List Gv):(G.flatMap gcl).length=G.length*3:=by
 induction G with
 |nil=>rfl
 |cons g G ih=>rw[List.flatMap_cons,List.length_append,ih,List.length_cons];simp[gcl];omega
theorem gcl_at:∀(G:List Gv) (j:Nat) (g:Gv),G[j]? =some g->∀t,t<3->(G.flatMap gcl)[j*3+t]? =(gcl g)[t]?
 | [],j,g,h,_,_=>by simp at h
 |a::G,0,g,h,t,ht=>by
  have:a=g:=by simpa using h
  subst this;rw[List.flatMap_cons,List.getElem?_append_left (by simp[gcl];omega)]
  simp
 |a::G,j+1,g,h,t,ht=>by
  rw[List.flatMap_cons,List.getElem?_append_right (by simp[gcl];omega)];have:=gcl_at G j g (by simpa using h) t ht;rw[<-this]
  congr 1
  simp[gcl];omega
theorem OwG.rg(h:OwG base W v G):Rg (λk=>base<=k) W v G:=by
 rcases h.2 with⟨rfl,e⟩|⟨g,cap,cur,rfl,h1,h2,h3,h4,h5,h6⟩
 ·exact⟨none,0,by rw[e],by omega,λhn=>by omega⟩
 ·refine⟨_,cap,rfl,h3,λhn=>⟨_,rfl,h1,λj x hx=>?_⟩⟩
  have hc:∀t,t<3->W.cell? ⟨g,j*3+t,none⟩=(gcl x)[t]?:=λt ht=>by
   have hj:=(List.getElem?_eq_some_iff.1 hx).1;have e:=gcl_at G j x hx t ht;have:=World.ownsRow.cellAt h (j*3+t) (by omega);rw[this,e]
  rw[addr0];exact⟨hc 0 (by omega),hc 1 (by omega),hc 2 (by omega)⟩
theorem OwI.kb(h:OwI base W v T)(k:Kb 0 W W'):OwI base W' v T:=rowBlk' h (λg e=>k.block g zq (h.lt g e).2)
theorem OwG.kb(h:OwG base W v G)(k:Kb 0 W W'):OwG base W' v G:=rowBlk' h (λg e=>k.block g zq (h.lt g e).2)
theorem infoG:(Tryz.prog.info? 62).map (λi=>(i.zero,i.size,i.bytes))=some (some (.agg #[.bool false,.int .i64 0,.int .i64 0]),3,24):=by kernel_rfl
theorem iv_app(T:List Int)(x:Int):iv (T++[x])=iv T++[.int .i64 x]:=by unfold iv;simp
theorem take_app{α:Type}(T:List α)(i:Nat)(x:α)(h:T[i]? =some x):T.take (i+1)=T.take i++[x]:=by
 rw[List.take_add_one,h];rfl
def mkI(x:Int):Value:=.int .i64 x
def mkB(x:Int):Value:=.bool (x%3==0)
def vU(t:Nat)(x:Int):Value:=if t=0 then mkB x else mkI x
def CJ(V:Nat->Int->Value)(c g:Nat)(k:Int)(m:Nat)(w:World):Prop:=∀j,j<m->w.cell? ⟨g,j,none⟩=some (V (j%c) (k+(j:Int)))
theorem CJ.set(h:CJ V c g k m w){u:Value}(hu:w.cell? ⟨g,m,none⟩=some u)(e:v=V (m%c) (k+(m:Int))):CJ V c g k (m+1) (w.setCell ⟨g,m,none⟩ v):=by
 intro j hj;by_cases ej:j=m
 ·subst ej;rw[<-e];exact set_eq _ _ _ _ _ hu
 ·rw[set_ne _ _ _ _ _ (by omega)];exact h j (by omega)
theorem CJ.kb(h:CJ V c g k m w)(b:Kb 0 w w'):CJ V c g k m w':=λj hj=>b.cell (h j hj)
theorem mrk_guards(k:Int)(h1:1<=k)(h2:k<=500000000)(hn:n<=1048576)(hr:0<n->pa=some ⟨g,0,none⟩/\(∀j,j<n*3->∃u,W.cell? ⟨g,j,none⟩=some u)/\(∀j,W.frozen? ⟨g,j,none⟩=false)/\g<W.heap.size):
  Calls Tryz.prog 26 #[.slice pa n cp,.int .i64 k] W λe w'=>e=.returned (.int .i64 (k+3*(n:Int)))/\K1 g W w'/\CJ vU 3 g k (n*3) w':=by
 have HH0:Hid (0<n->pa=some ⟨g,0,none⟩/\(∀j,j<n*3->∃u,W.cell? ⟨g,j,none⟩=some u)/\(∀j,W.frozen? ⟨g,j,none⟩=false)/\g<W.heap.size):=hr;have hnI:(n:Int)<=1048576:=by omega
 clear hr hn;go_enter Tryz.func26,Tryz.ntmps26;go_wp2_with fail
 go_loopw [1,5] (λs1 s5 wr=>∃i:Nat,i<=n/\s5=.int .i64 i/\s1=.int .i64 (k+3*(i:Int))/\Hid (K1 g W wr/\CJ vU 3 g k (i*3) wr)) (λ_ s5 _=>n-(intOf s5).toNat)
 case atStart=>exact⟨0,by omega,rfl,by simp,(⟨K1.refl _ _,λj hj=>by omega⟩:_/\_)⟩
 case round=>
  obtain⟨i,hi,rfl,rfl,HK⟩:=hrel;by_cases hin:i<n
  ·obtain⟨rfl,hhh⟩:=(uh HH0) (by omega)
   have HH:Hid ((∀j,j<n*3->∃u,W.cell? ⟨g,j,none⟩=some u)/\(∀j,W.frozen? ⟨g,j,none⟩=false)/\g<W.heap.size):=hhh;clear hhh;have hI:(i:Int)<(n:Int):=by omega
   have hb:i*3+3<=n*3:=by have:=Nat.mul_le_mul_right 3 (show i+1<=n from hin);rw[Nat.succ_mul]at this;exact this
   obtain⟨K,hK⟩:∃K:Int,K=k+3*(i:Int):=⟨_,rfl⟩
   have hK1:1<=K:=by omega
   have hK2:K<=600000000:=by omega
   have HKK:Hid (K=k+3*(i:Int)/\i*3+3<=n*3):=(⟨hK,hb⟩:_/\_)
   rw[<-hK];clear hK hb;obtain⟨u0,cu0⟩:=(uh HK).1.cell (i*3+0) ((uh HH).1 _ (by have:=(uh HKK).2;omega));have cf0:wr.frozen? ⟨g,i*3+0,none⟩=false:=((uh HK).1.fz _ (uh HH).2.2).trans ((uh HH).2.1 _);rw[Nat.add_zero]at cu0 cf0;go_upto_region 5 with fail;generalize hy:World.setCell wr _ _=y0
   have HK0:Hid (K1 g W y0/\CJ vU 3 g k (i*3+1) y0):=by
    rw[<-hy];refine(⟨(uh HK).1.trans (K1.set1 _ _ _ _),(uh HK).2.set cu0 ?_⟩:_/\_);have e0:(i*3)%3=0:=by omega
    have e1:k+((i*3:Nat):Int)=K+0:=by have:=(uh HKK).1;omega
    rw[e0,e1];show _=mkB (K+0);rw[show K+(0:Int)=K by omega];rfl
   clear hy cu0 cf0 u0 HK;obtain⟨u1,cu1⟩:=(uh HK0).1.cell (i*3+1) ((uh HH).1 _ (by have:=(uh HKK).2;omega));have cf1:y0.frozen? ⟨g,i*3+1,none⟩=false:=((uh HK0).1.fz _ (uh HH).2.2).trans ((uh HH).2.1 _);go_upto_region 7 with fail;generalize hy:World.setCell y0 _ _=y1
   have HK1:Hid (K1 g W y1/\CJ vU 3 g k (i*3+1+1) y1):=by
    rw[<-hy];refine(⟨(uh HK0).1.trans (K1.set1 _ _ _ _),(uh HK0).2.set cu1 ?_⟩:_/\_);have e0:(i*3+1)%3=1:=by omega
    have e1:k+((i*3+1:Nat):Int)=K+1:=by have:=(uh HKK).1;omega
    rw[e0,e1];show _=mkI (K+1);rw[show K+(1:Int)=K+1 by omega];rfl
   clear hy cu1 cf1 u1 HK0;obtain⟨u2,cu2⟩:=(uh HK1).1.cell (i*3+2) ((uh HH).1 _ (by have:=(uh HKK).2;omega));have cf2:y1.frozen? ⟨g,i*3+2,none⟩=false:=((uh HK1).1.fz _ (uh HH).2.2).trans ((uh HH).2.1 _);go_upto_region 9 with fail;generalize hy:World.setCell y1 _ _=y2
   have HK2:Hid (K1 g W y2/\CJ vU 3 g k (i*3+2+1) y2):=by
    rw[<-hy];refine(⟨(uh HK1).1.trans (K1.set1 _ _ _ _),(uh HK1).2.set cu2 ?_⟩:_/\_);have e0:(i*3+2)%3=2:=by omega
    have e1:k+((i*3+2:Nat):Int)=K+2:=by have:=(uh HKK).1;omega
    rw[e0,e1];show _=mkI (K+2);rw[show K+(2:Int)=K+1+1 by omega];rfl
   clear hy cu2 cf2 u2 HK1;go_wp2_with fail;go_roundw
   case rel=>exact⟨i+1,by omega,by go_num,by rw[(uh HKK).1];congr 1;omega,(⟨(uh HK2).1,by have:=(uh HK2).2;rw[show(i+1)*3=i*3+2+1 by omega];exact this⟩:_/\_)⟩
   case measure=>simp[intOf];omega
  ·obtain rfl:i=n:=by omega
   have hI:¬(i:Int)<(i:Int):=by omega
   clear HH0;go_wp2_with fail;go_ret;exact⟨rfl,(uh HK).1,(uh HK).2⟩
theorem hld_guards(k:Int)(h1:1<=k)(h2:k<=500000000)(hn:n<=1048576)(hr:0<n->pa=some ⟨g,0,none⟩/\CJ vU 3 g k (n*3) W):
  Calls Tryz.prog 28 #[.slice pa n cp,.int .i64 k] W λe w'=>e=.returned (.int .i64 (k+3*(n:Int)))/\Kb 0 W w':=by
 have HH:Hid (0<n->pa=some ⟨g,0,none⟩/\CJ vU 3 g k (n*3) W):=hr;have hnI:(n:Int)<=1048576:=by omega
 clear hr hn;go_enter Tryz.func28,Tryz.ntmps28;go_wp2_with fail
 go_loopw [1,5] (λs1 s5 wr=>∃i:Nat,i<=n/\s5=.int .i64 i/\s1=.int .i64 (k+3*(i:Int))/\Hid (Kb 0 W wr)) (λ_ s5 _=>n-(intOf s5).toNat)
 case atStart=>exact⟨0,by omega,rfl,by simp,Kb.refl _ _⟩
 case round=>
  obtain⟨i,hi,rfl,rfl,HK⟩:=hrel;by_cases hin:i<n
  ·obtain⟨rfl,hcj⟩:=(uh HH) (by omega)
   have hI:(i:Int)<(n:Int):=by omega
   have hb:i*3+3<=n*3:=by have:=Nat.mul_le_mul_right 3 (show i+1<=n from hin);rw[Nat.succ_mul]at this;exact this
   obtain⟨K,hK⟩:∃K:Int,K=k+3*(i:Int):=⟨_,rfl⟩
   have hK1:1<=K:=by omega
   have hK2:K<=600000000:=by omega
   have q0:wr.cell? ⟨g,i*3,none⟩=some (mkB K):=by
    rw[(uh HK).cell (hcj (i*3) (by omega)),show(i*3)%3=0 by omega,show k+((i*3:Nat):Int)=K by omega];rfl
   have q1:wr.cell? ⟨g,i*3+1,none⟩=some (mkI (K+1)):=by
    rw[(uh HK).cell (hcj (i*3+1) (by omega)),show(i*3+1)%3=1 by omega,show k+((i*3+1:Nat):Int)=(K+1) by omega];rfl
   have q2:wr.cell? ⟨g,i*3+2,none⟩=some (mkI (K+1+1)):=by
    rw[(uh HK).cell (hcj (i*3+2) (by omega)),show(i*3+2)%3=2 by omega,show k+((i*3+2:Nat):Int)=(K+1+1) by omega];rfl
   have HKK:Hid (K=k+3*(i:Int)):=hK;rw[<-hK];clear hcj hb hK;unfold mkB at q0;unfold mkI at q1;unfold mkI at q2;go_wp2_with fail;go_roundw
   case rel=>exact⟨i+1,by omega,by go_num,by rw[(uh HKK)];congr 1;omega,HK⟩
   case measure=>simp[intOf];omega
  ·obtain rfl:i=n:=by omega
   have hI:¬(i:Int)<(i:Int):=by omega
   clear HH;go_wp2_with fail;go_ret;exact⟨rfl,HK⟩
theorem sp_copy(w:World)(ha:Rz av w va T)(hn:T.length<=1000):
  Calls Tryz.prog 33 #[va] w λe w'=>∃v,e=.returned v/\OwI w.heap.size w' v T/\Kb 0 w w':=by
 obtain⟨pa,ca,rfl,hca,ha2⟩:=ha;have HA:Hid (0<T.length->∃a:Addr,pa=some a/\av a.block/\∀j x,T[j]? =some x->w.cell? (a.add j)=some (.int .i64 x)):=ha2;have hnI:(T.length:Int)<=1000:=by omega
 clear ha2 hca;go_enter Tryz.func33,Tryz.ntmps33;go_wp2_with fail
 go_loopw [3,8] (λs3 s8 wr=>∃(i:Nat) (v:Value),v=s3/\s8=.int .i64 i/\i<=T.length/\Hid (OwI w.heap.size wr v (T.take i)/\Kb 0 w wr)) (λ_ s8 _=>T.length-(intOf s8).toNat)
 case atStart=>exact⟨0,_,rfl,rfl,Nat.zero_le _,(⟨World.ownsRow_nil _ _ _ _,Kb.refl _ _⟩:_/\_)⟩
 case round=>
  obtain⟨i,s3,rfl,rfl,hi,HX⟩:=hrel;obtain⟨hO,kw⟩:=(uh HX)
  rcases Nat.lt_or_ge i T.length with h|h
  ·have hI:(i:Int)<(T.length:Int):=by omega
   obtain⟨a,rfl,-,hrow⟩:=(uh HA) (by omega)
   obtain⟨x,hx⟩:∃x,T[i]? =some x:=⟨_,List.getElem?_eq_getElem h⟩
   have q0:=kw.cell (hrow i x hx);have htl:(T.take i).length=i:=by rw[List.length_take];omega
   have hO2:wr.ownsRow w.heap.size 3 1 s3 i (iv (T.take i)):=by have:=hO;unfold OwI at this;rw[htl]at this;exact this
   obtain⟨ad,cap,rfl⟩:=own_shape hO2;have howna:∀o,(wr.alloc o).ownsRow w.heap.size 3 1 (.slice ad i cap) i (iv (T.take i)):=λo=>hO2.alloc o;have hqc:=qr_cells wr #[.int .i64 x] 3 [.int .i64 x] rfl;have h1c:∀u ∈ ([.int .i64 x]:List Value),u.oneCell'=true:=by intro u hu;simp at hu;subst hu;rfl
   have hsz:=kw.size;have HSTP:Hid (∀(E:Obj) (g c':Nat) (w7:World),w7.ownsRow w.heap.size 3 1 (.slice (some ⟨g,0,none⟩) (i+1) c') (i+1) (iv (T.take i)++[.int .i64 x])->(wr.alloc E).grownBy w7 (Value.slice ad i cap).ownBlock->OwI w.heap.size w7 (.slice (some ⟨g,0,none⟩) (i+1) c') (T.take (i+1))/\Kb 0 w w7):=(λE g c' w7 h1 h2=>⟨by unfold OwI;rw[List.length_take,Nat.min_eq_left (by omega),take_app T i x hx,iv_app];exact h1,(kw.alloc E).gr h2 (λg e=>(hO2.lt g e).1)⟩:∀(E:Obj),_)
   have HIA:Hid (i<T.length/\T.length<=1000):=(⟨h,hn⟩:_/\_)
   obtain⟨i0,hi0,hz0,hzs,hzb⟩:=info_parts infoI;have HI0:Hid (Tryz.prog.info? 3=some i0):=hi0;clear hi0;clear hO hO2 HX kw hrow htl HA;go_wp2_with (at_builtin;refine wpList_append_lies _ rfl (.tmp 12) (.tmp 14) 53 rfl w.heap.size 3 i0 (.int .i64 0) 1 8 Tryz.underlying53 HI0 hz0 hzs hzb rfl (by decide) _ _ _ rfl (howna _) ⟨wr.heap.size,0,none⟩ 1 1 [.int .i64 x] rfl rfl hqc h1c (by decide) (by unfold maxLen;omega) (by omega) (by simp;omega) (wr.heap.size+1) (by simp) ?_;intro g cap' w7 hown3 hgr3 hl3 _;obtain⟨s1,s2⟩:=(uh HSTP) _ _ _ _ hown3 hgr3;have HN:Hid (OwI w.heap.size w7 (.slice (some ⟨g,0,none⟩) (i+1) cap') (T.take (i+1))/\Kb 0 w w7):=(⟨s1,s2⟩:_/\_);clear s1 s2 hown3 hgr3 hl3 howna hqc h1c HSTP);go_roundw
   case rel=>exact⟨i+1,_,rfl,by go_num,by omega,HN⟩
   case measure=>simp[intOf];omega
  ·have hI:¬(i:Int)<(T.length:Int):=by omega
   have ei:T.take i=T:=List.take_of_length_le h;rw[ei]at hO;obtain⟨ad,cap,rfl⟩:=own_shape hO;have HK:Hid (OwI w.heap.size wr (.slice ad T.length cap) T/\Kb 0 w wr):=(⟨hO,kw⟩:_/\_)
   clear HX hO kw ei HA;go_wp2_with fail;refine bodyPost_ret (by simp[results,Tryz.results33,go_sem];rfl) rfl ?_;exact⟨_,rfl,HK.1,HK.2⟩
theorem sp_guards{T:List Gv}(w:World)(ha:Rg av w va T)(hn:T.length<=1000):
  Calls Tryz.prog 39 #[va] w λe w'=>∃v,e=.returned v/\OwG w.heap.size w' v T/\Kb 0 w w':=by
 obtain⟨pa,ca,rfl,hca,ha2⟩:=ha;have HA:Hid (0<T.length->∃a:Addr,pa=some a/\av a.block/\∀j x,T[j]? =some x->CelG w (a.add (j*3)) x):=ha2;have hnI:(T.length:Int)<=1000:=by omega
 clear ha2 hca;go_enter Tryz.func39,Tryz.ntmps39;go_wp2_with fail
 go_loopw [3,8] (λs3 s8 wr=>∃(i:Nat) (v:Value),v=s3/\s8=.int .i64 i/\i<=T.length/\Hid (OwG w.heap.size wr v (T.take i)/\Kb 0 w wr)) (λ_ s8 _=>T.length-(intOf s8).toNat)
 case atStart=>exact⟨0,_,rfl,rfl,Nat.zero_le _,(⟨World.ownsRow_nil _ _ _ _,Kb.refl _ _⟩:_/\_)⟩
 case round=>
  obtain⟨i,s3,rfl,rfl,hi,HX⟩:=hrel;obtain⟨hO,kw⟩:=(uh HX)
  rcases Nat.lt_or_ge i T.length with h|h
  ·have hI:(i:Int)<(T.length:Int):=by omega
   obtain⟨a,rfl,-,hrow⟩:=(uh HA) (by omega)
   obtain⟨x,hx⟩:∃x,T[i]? =some x:=⟨_,List.getElem?_eq_getElem h⟩
   have hcx:=hrow i x hx;have q0:=kw.cell hcx.c0;have q1:=kw.cell hcx.c1;have q2:=kw.cell hcx.c2;clear hcx;have htl:(T.take i).length=i:=by rw[List.length_take];omega
   have hO2:wr.ownsRow w.heap.size 62 3 s3 i ((T.take i).flatMap gcl):=by have:=hO;unfold OwG at this;rw[htl]at this;exact this
   obtain⟨ad,cap,rfl⟩:=own_shape hO2;have howna:∀o p,((wr.alloc o).alloc p).ownsRow w.heap.size 62 3 (.slice ad i cap) i ((T.take i).flatMap gcl):=λo p=>(hO2.alloc o).alloc p;have hqc:=qr_cells (wr.alloc (.cells #[.bool x.1,.int .i64 x.2.1,.int .i64 x.2.2] 62)) #[.bool x.1,.int .i64 x.2.1,.int .i64 x.2.2] 62 [.bool x.1,.int .i64 x.2.1,.int .i64 x.2.2] rfl;rw[World.size_alloc]at hqc;have h1c:∀u ∈ ([.bool x.1,.int .i64 x.2.1,.int .i64 x.2.2]:List Value),u.oneCell'=true:=by intro u hu;simp at hu;rcases hu with rfl|rfl|rfl<;>rfl
   have hsz:=kw.size;have HSTP:Hid (∀(E:Obj) (E2:Obj) (g c':Nat) (w7:World),w7.ownsRow w.heap.size 62 3 (.slice (some ⟨g,0,none⟩) (i+1) c') (i+1) ((T.take i).flatMap gcl++[.bool x.1,.int .i64 x.2.1,.int .i64 x.2.2])->((wr.alloc E).alloc E2).grownBy w7 (Value.slice ad i cap).ownBlock->OwG w.heap.size w7 (.slice (some ⟨g,0,none⟩) (i+1) c') (T.take (i+1))/\Kb 0 w w7):=(λE E2 g c' w7 h1 h2=>⟨by unfold OwG;rw[List.length_take,Nat.min_eq_left (by omega),take_app T i x hx,List.flatMap_append];exact(by simpa [gcl]using h1),((kw.alloc E).alloc E2).gr h2 (λg e=>(hO2.lt g e).1)⟩:∀(E:Obj),_)
   have HIA:Hid (i<T.length/\T.length<=1000):=(⟨h,hn⟩:_/\_)
   obtain⟨i0,hi0,hz0,hzs,hzb⟩:=info_parts infoG;have HI0:Hid (Tryz.prog.info? 62=some i0):=hi0;clear hi0;clear hO hO2 HX kw hrow htl HA;go_wp2_with (at_builtin;refine wpList_append_lies _ rfl (.tmp 12) (.tmp 14) 56 rfl w.heap.size 62 i0 (.agg #[.bool false,.int .i64 0,.int .i64 0]) 3 24 Tryz.underlying56 HI0 hz0 hzs hzb rfl (by decide) _ _ _ rfl (howna _ _) ⟨wr.heap.size+1,0,none⟩ 1 1 [.bool x.1,.int .i64 x.2.1,.int .i64 x.2.2] rfl rfl hqc h1c (by decide) (by unfold maxLen;omega) (by omega) (by simp;omega) (wr.heap.size+1+1) (by simp) ?_;intro g cap' w7 hown3 hgr3 hl3 _;obtain⟨s1,s2⟩:=(uh HSTP) _ _ _ _ _ hown3 hgr3;have HN:Hid (OwG w.heap.size w7 (.slice (some ⟨g,0,none⟩) (i+1) cap') (T.take (i+1))/\Kb 0 w w7):=(⟨s1,s2⟩:_/\_);clear s1 s2 hown3 hgr3 hl3 howna hqc h1c HSTP);go_roundw
   case rel=>exact⟨i+1,_,rfl,by go_num,by omega,HN⟩
   case measure=>simp[intOf];omega
  ·have hI:¬(i:Int)<(T.length:Int):=by omega
   have ei:T.take i=T:=List.take_of_length_le h;rw[ei]at hO;obtain⟨ad,cap,rfl⟩:=own_shape hO;have HK:Hid (OwG w.heap.size wr (.slice ad T.length cap) T/\Kb 0 w wr):=(⟨hO,kw⟩:_/\_)
   clear HX hO kw ei HA;go_wp2_with fail;refine bodyPost_ret (by simp[results,Tryz.results39,go_sem];rfl) rfl ?_;exact⟨_,rfl,HK.1,HK.2⟩
theorem eq_guard(x y:Gv)(w:World):(binOp .eql 62 (.agg #[.bool x.1,.int .i64 x.2.1,.int .i64 x.2.2]) (.agg #[.bool y.1,.int .i64 y.2.1,.int .i64 y.2.2])).run Tryz.prog w=.ok (.bool (dc (x=y))) w:=by
 obtain⟨x1,x2,x3⟩:=x;obtain⟨y1,y2,y3⟩:=y
 have e:(Op.equalIn 10000 62 (.agg #[.bool x1,.int .i64 x2,.int .i64 x3]) (.agg #[.bool y1,.int .i64 y2,.int .i64 y3])).run Tryz.prog w=.ok (x1==y1 && (x2==y2 && x3==y3)) w:=by
  rw[run_equalIn_agg w 9999 62 _ _ (by kernel_rfl) (by kernel_rfl)];simp only[Program.fieldsOf,Tryz.underlying62];cases x1<;>cases y1<;>by_cases h2:x2=y2<;>by_cases h3:x3=y3<;>simp[Op.eqFields,part,go_sem,Tryz.underlying4,Tryz.underlying3,h2,h3]
 rw[run_eql_struct,e];show Result.ok (Value.bool (x1==y1 && (x2==y2 && x3==y3))) w=_;by_cases h1:x1=y1<;>by_cases h2:x2=y2<;>by_cases h3:x3=y3<;>simp[h1,h2,h3,dc]
theorem neq_guard(x y:Gv)(w:World):(binOp .neq 62 (.agg #[.bool x.1,.int .i64 x.2.1,.int .i64 x.2.2]) (.agg #[.bool y.1,.int .i64 y.2.1,.int .i64 y.2.2])).run Tryz.prog w=.ok (.bool (dc (x≠y))) w:=by
 have h:=eq_guard x y w;rw[run_eql_struct]at h;rw[run_neq_struct];generalize (Op.equalIn 10000 62 (.agg #[.bool x.1,.int .i64 x.2.1,.int .i64 x.2.2]) (.agg #[.bool y.1,.int .i64 y.2.1,.int .i64 y.2.2])).run Tryz.prog w=r at h⊢;cases r with
 |ok b w2=>
  simp only[Result.andThen_ok,Result.ok.injEq,Value.bool.injEq]at h⊢;obtain⟨rfl,rfl⟩:=h;exact⟨by simp[dc],rfl⟩
 |halt z w2=>simp[Result.andThen]at h
theorem sp_same{T2:List Int}{G2:List Gv}{x y:Bool}{vt vg ut ug:Value}(w:World)(h1:Rz av w vt T)(h2:Rg av w vg G)(h3:Rz av w ut T2)(h4:Rg av w ug G2)(hn:T.length<=1000/\T2.length<=1000/\G.length<=1000/\G2.length<=1000):
    Calls Tryz.prog 40 #[.agg #[.bool x,vt,vg],.agg #[.bool y,ut,ug]] w λe w'=>e=.returned (.bool (dc (T=T2/\G=G2)))/\Kb 0 w w':=by
  obtain⟨pa,ca,rfl,-,a1⟩:=h1;obtain⟨pb,cb,rfl,-,a2⟩:=h3;obtain⟨pg,cg,rfl,-,a3⟩:=h2;obtain⟨ph,ch,rfl,-,a4⟩:=h4;have HA:Hid ((0<T.length->∃a:Addr,pa=some a/\av a.block/\∀j x,T[j]? =some x->w.cell? (a.add j)=some (.int .i64 x))/\(0<T2.length->∃a:Addr,pb=some a/\av a.block/\∀j x,T2[j]? =some x->w.cell? (a.add j)=some (.int .i64 x))/\(0<G.length->∃a:Addr,pg=some a/\av a.block/\∀j x,G[j]? =some x->CelG w (a.add (j*3)) x)/\(0<G2.length->∃a:Addr,ph=some a/\av a.block/\∀j x,G2[j]? =some x->CelG w (a.add (j*3)) x)):=(⟨a1,a2,a3,a4⟩:_/\_)
  have n1:(T.length:Int)<=1000:=by omega
  have n2:(T2.length:Int)<=1000:=by omega
  have n3:(G.length:Int)<=1000:=by omega
  have n4:(G2.length:Int)<=1000:=by omega
  obtain⟨R,hR⟩:∃R,R=dc (T=T2/\G=G2):=⟨_,rfl⟩
  rw[<-hR];have HR:Hid (R=dc (T=T2/\G=G2)):=hR;obtain⟨w2,hw2⟩:∃w2,w2=((w.alloc (.cells #[.bool x,.slice pa T.length ca,.slice pg G.length cg] 58)).alloc (.cells #[.bool y,.slice pb T2.length cb,.slice ph G2.length ch] 58)):=⟨_,rfl⟩
  obtain⟨q0,q1,qs,k2⟩:=two_new' w _ _ _ _ w2 hw2;have c1:w2.cell? ⟨w.heap.size,1,none⟩=some (.slice pa T.length ca):=cell_of q0 rfl;have c2:w2.cell? ⟨w.heap.size,2,none⟩=some (.slice pg G.length cg):=cell_of q0 rfl;have c3:w2.cell? ⟨w.heap.size+1,1,none⟩=some (.slice pb T2.length cb):=cell_of q1 rfl;have c4:w2.cell? ⟨w.heap.size+1,2,none⟩=some (.slice ph G2.length ch):=cell_of q1 rfl;have HC:Hid (w2.cell? ⟨w.heap.size,1,none⟩=some (.slice pa T.length ca)/\w2.cell? ⟨w.heap.size,2,none⟩=some (.slice pg G.length cg)/\w2.cell? ⟨w.heap.size+1,1,none⟩=some (.slice pb T2.length cb)/\w2.cell? ⟨w.heap.size+1,2,none⟩=some (.slice ph G2.length ch)/\Kb 0 w w2):=(⟨c1,c2,c3,c4,k2⟩:_/\_)
  have HK2:Hid (Kb 0 w w2):=k2;have HW:Hid (w2=((w.alloc (.cells #[.bool x,.slice pa T.length ca,.slice pg G.length cg] 58)).alloc (.cells #[.bool y,.slice pb T2.length cb,.slice ph G2.length ch] 58))):=hw2;have HNG:=λx y w=>neq_guard x y w;clear hR hw2 q0 q1 qs k2 a1 a2 a3 a4 hn;by_cases e1:T.length=T2.length
  rotate_left
  · have hF:R=false:=by rw[(uh HR)];exact dc_f (λq=>e1 (by rw[q.1]))
    have g1:((T.length:Int)==(T2.length:Int))=false:=bne (by omega);subst hF;clear HA HR HC e1 n1 n2 n3 n4;go_enter Tryz.func40,Tryz.ntmps40;go_wp2_with fail
    first|(rw[<-(uh HW)])|skip
    go_wp2_with fail;go_ret;exact⟨rfl,HK2⟩
  have HE1:Hid (T.length=T2.length):=e1;rw[<-e1]at HW HC c3;rw[<-e1];clear e1 n2;by_cases e2:G.length=G2.length
  rotate_left
  · have hF:R=false:=by rw[(uh HR)];exact dc_f (λq=>e2 (by rw[q.2]))
    have g2:((G.length:Int)==(G2.length:Int))=false:=bne (by omega);subst hF;clear HA HR HC n1 n3 n4 e2;go_enter Tryz.func40,Tryz.ntmps40;go_wp2_with fail
    first|(rw[<-(uh HW)])|skip
    go_wp2_with fail;go_ret;exact⟨rfl,HK2⟩
  have HE:Hid (T.length=T2.length/\G.length=G2.length):=(⟨HE1,e2⟩:_/\_)
  rw[<-e2]at HW HC c4;rw[<-e2];clear e2 n4;go_enter Tryz.func40,Tryz.ntmps40;go_wp2_with fail
  first|(rw[<-(uh HW)])|skip
  clear HW;go_wp2_with fail
  go_loopw [26] (λsl wr=>∃i:Nat,sl=.int .i64 i/\i<=T.length/\Hid (Kb 0 w2 wr/\∀j,j<i->T[j]? =T2[j]?)) (λsl _=>T.length-(intOf sl).toNat)
  case atStart=>exact⟨0,rfl,Nat.zero_le _,(⟨Kb.refl _ _,λj h=>by omega⟩:_/\_)⟩
  case round=>
    obtain⟨i,rfl,hi,HX⟩:=hrel;obtain⟨kw,hX⟩:=(uh HX)
    clear HX;have d1:=kw.cell c1;have d2:=kw.cell c2;have d3:=kw.cell c3;have d4:=kw.cell c4;have kww:=(uh HK2).trans kw;rcases Nat.lt_or_ge i T.length with h|h
    · have hI:(i:Int)<(T.length:Int):=by omega
      obtain⟨A1,A2,-,-⟩:=(uh HA)
      obtain⟨E1,E2⟩:=(uh HE)
      obtain⟨a,rfl,-,ra⟩:=A1 (by omega);obtain⟨b,rfl,-,rb⟩:=A2 (by omega);obtain⟨p,hp⟩:∃p,T[i]? =some p:=⟨_,List.getElem?_eq_getElem h⟩
      obtain⟨q,hq⟩:∃q,T2[i]? =some q:=⟨_,List.getElem?_eq_getElem (by omega)⟩
      have s1:=kww.cell (ra i p hp);have s2:=kww.cell (rb i q hq);by_cases e:p=q
      · have HN : Hid (∀ m, Kb 0 w2 (wr.drewN m) ∧ ∀ j, j < i + 1 → T[j]? = T2[j]?) := (fun m => ⟨kw.drewN m, fun j hj => by
          by_cases ej:j=i
          · subst ej;rw[hp,hq,e]
          · exact hX j (by omega)⟩:∀m,_)
        have g3:(p==q)=true:=beq1 e;clear hX kw kww ra rb A1 A2 hp hq E1 E2 c1 c2 c3 c4;go_wp2_with fail
        go_quiet (skip)
        go_wp2_with fail;go_roundw
        case rel=>exact⟨i+1,by go_num,by omega,(uh HN) _⟩
        case measure=>simp[intOf];omega
      · have hF : R = false := by
          rw[(uh HR)];refine dc_f (λz=>e ?_);have:=hp;rw[z.1,hq]at this
          simpa using this.symm
        have g3:(p==q)=false:=bne e;subst hF;have HN:Hid (∀m,Kb 0 w (wr.drewN m)):=(λm=>kww.drewN m:∀m,_)
        clear hX kw kww ra rb A1 A2 hp hq E1 E2 c1 c2 c3 c4 HR;go_wp2_with fail
        go_quiet (skip)
        go_wp2_with fail;go_ret;exact⟨rfl,(uh HN) _⟩
    · have hI:¬(i:Int)<(T.length:Int):=by omega
      have hTT:T=T2:=List.ext_getElem? (λj=>by
        rcases Nat.lt_or_ge j T.length with hj|hj
        · exact hX j (by omega)
        · rw[List.getElem?_eq_none hj,List.getElem?_eq_none (by have:=(uh HE).1;omega)])
      have HTT:Hid (T=T2):=hTT;have HK3:Hid (Kb 0 w wr/\Kb 0 w2 wr):=(⟨kww,kw⟩:_/\_)
      clear hX kw kww hTT c1 c2 c3 c4 h;go_wp2_with fail
      go_loopw [44] (λsl wz=>∃i:Nat,sl=.int .i64 i/\i<=G.length/\Hid (Kb 0 wr wz/\∀j,j<i->G[j]? =G2[j]?)) (λsl _=>G.length-(intOf sl).toNat)
      case atStart=>exact⟨0,rfl,Nat.zero_le _,(⟨Kb.refl _ _,λj h=>by omega⟩:_/\_)⟩
      case round=>
        obtain⟨i2,rfl,hi2,HX⟩:=hrel
        rename World=>wz
        obtain⟨kz,hX⟩:=(uh HX)
        clear HX;replace d2:=kz.cell d2;replace d4:=kz.cell d4;have kww:=(uh HK3).1.trans kz;rcases Nat.lt_or_ge i2 G.length with h|h
        · have hI2:(i2:Int)<(G.length:Int):=by omega
          obtain⟨-,-,A1,A2⟩:=(uh HA)
          obtain⟨E1,E2⟩:=(uh HE)
          obtain⟨a,rfl,-,ra⟩:=A1 (by omega);obtain⟨b,rfl,-,rb⟩:=A2 (by omega);obtain⟨p,hp⟩:∃p,G[i2]? =some p:=⟨_,List.getElem?_eq_getElem h⟩
          obtain⟨q,hq⟩:∃q,G2[i2]? =some q:=⟨_,List.getElem?_eq_getElem (by omega)⟩
          have s1:=kww.cell (ra i2 p hp).c0;have s2:=kww.cell (ra i2 p hp).c1;have s3:=kww.cell (ra i2 p hp).c2;have s4:=kww.cell (rb i2 q hq).c0;have s5:=kww.cell (rb i2 q hq).c1;have s6:=kww.cell (rb i2 q hq).c2;by_cases e:p=q
          · have HN : Hid (∀ m, Kb 0 wr (wz.drewN m) ∧ ∀ j, j < i2 + 1 → G[j]? = G2[j]?) := (fun m => ⟨kz.drewN m, fun j hj => by
              by_cases ej:j=i2
              · subst ej;rw[hp,hq,e]
              · exact hX j (by omega)⟩:∀m,_)
            have g3:=λw=>HNG p q w;rw[dc_f (λg=>g e)]at g3;clear hX kz kww ra rb A1 A2 hp hq E1 E2 HNG d1 d3 hI;go_wp2_with fail
            go_quiet (skip)
            go_wp2_with fail;go_roundw
            case rel=>exact⟨i2+1,by go_num,by omega,(uh HN) _⟩
            case measure=>simp[intOf];omega
          · have hF : R = false := by
              rw[(uh HR)];refine dc_f (λz=>e ?_);have:=hp;rw[z.2,hq]at this
              simpa using this.symm
            have g3:=λw=>HNG p q w;rw[dc_t e]at g3;subst hF;have HN:Hid (∀m,Kb 0 w (wz.drewN m)):=(λm=>kww.drewN m:∀m,_)
            clear hX kz kww ra rb A1 A2 hp hq E1 E2 HR HNG d1 d3 hI;go_wp2_with fail
            go_quiet (skip)
            go_wp2_with fail;go_ret;exact⟨rfl,(uh HN) _⟩
        · have hI2:¬(i2:Int)<(G.length:Int):=by omega
          have hGG:G=G2:=List.ext_getElem? (λj=>by
            rcases Nat.lt_or_ge j G.length with hj|hj
            · exact hX j (by omega)
            · rw[List.getElem?_eq_none hj,List.getElem?_eq_none (by have:=(uh HE).2;omega)])
          have hT:R=true:=by rw[(uh HR)];exact dc_t ⟨HTT,hGG⟩
          subst hT;have HK:Hid (Kb 0 w wz):=kww;clear hX kz kww hGG HR HNG d1 d2 d3 d4 hI;go_wp2_with fail;go_ret;exact⟨rfl,HK⟩
def wm(m:Nat):Int×Bool:=if m=2 then(1,true)else if m=3 then(3,true)else if m=4\/m=18\/m=19\/m=20 then(1,false)else if m=5 then(2,false)else if m=6 then(3,false)else(0,false)
theorem sp_wants(m:Nat)(hm:m<22)(w:World):Calls Tryz.prog 64 #[.int .i64 m] w λe w'=>e=.returned (.tuple #[.int .i64 (wm m).1,.bool (wm m).2])/\w'=w:=by
 rcases(by omega:m=0\/m=1\/m=2\/m=3\/m=4\/m=5\/m=6\/m=7\/m=8\/m=9\/m=10\/m=11\/m=12\/m=13\/m=14\/m=15\/m=16\/m=17\/m=18\/m=19\/m=20\/m=21)with rfl|rfl|rfl|rfl|rfl|rfl|rfl|rfl|rfl|rfl|rfl|rfl|rfl|rfl|rfl|rfl|rfl|rfl|rfl|rfl|rfl|rfl
 all_goals
  clear hm;go_enter Tryz.func64,Tryz.ntmps64;go_wp2_with fail;refine bodyPost_ret (by simp[results,Tryz.results64,go_sem];rfl) rfl ?_;exact⟨rfl,rfl⟩
def AbP(G:List Gv)(k:Int):Prop:=∀g,g ∈ G->g.1=true->g.2.1<=k
theorem sp_above(kp:Int)(w:World)(ha:Rg av w va G)(hn:G.length<=1000):
  Calls Tryz.prog 65 #[va,.int .i64 kp] w λe w'=>e=.returned (.bool (dc (AbP G kp)))/\Kb 0 w w':=by
 obtain⟨pa,ca,rfl,hca,ha2⟩:=ha;have HA:Hid (0<G.length->∃a:Addr,pa=some a/\av a.block/\∀j x,G[j]? =some x->CelG w (a.add (j*3)) x):=ha2;have hnI:(G.length:Int)<=1000:=by omega
 obtain⟨R,hR⟩:∃R,R=dc (AbP G kp):=⟨_,rfl⟩
 rw[<-hR];have HR:Hid (R=dc (AbP G kp)):=hR;clear ha2 hca hR hn;go_enter Tryz.func65,Tryz.ntmps65;go_wp2_with fail
 go_loopw [9] (λsl wr=>∃i:Nat,sl=.int .i64 i/\i<=G.length/\Hid (Kb 0 w wr/\∀j g,j<i->G[j]? =some g->g.1=true->g.2.1<=kp)) (λsl _=>G.length-(intOf sl).toNat)
 case atStart=>exact⟨0,rfl,Nat.zero_le _,(⟨Kb.refl _ _,λj g h=>by omega⟩:_/\_)⟩
 case round=>
  obtain⟨i,rfl,hi,HX⟩:=hrel;obtain⟨kw,hX⟩:=(uh HX)
  clear HX;rcases Nat.lt_or_ge i G.length with h|h
  ·have hI:(i:Int)<(G.length:Int):=by omega
   obtain⟨a,rfl,-,hrow⟩:=(uh HA) (by omega)
   obtain⟨x,hx⟩:∃x,G[i]? =some x:=⟨_,List.getElem?_eq_getElem h⟩
   have q0:=kw.cell (hrow i x hx).c0;have q1:=kw.cell (hrow i x hx).c1;have q2:=kw.cell (hrow i x hx).c2
   have hgood:(x.1=true->x.2.1<=kp)->∀o,Kb 0 w (wr.alloc o)/\∀j g,j<i+1->G[j]? =some g->g.1=true->g.2.1<=kp:=λc o=>⟨kw.alloc o,λj g hj hg=>by
    by_cases e:j=i
    ·subst e;rw[hx]at hg;cases hg;exact c
    ·exact hX j g (by omega) hg⟩
   have hbad:x.1=true->¬x.2.1<=kp->R=false/\∀o,Kb 0 w (wr.alloc o):=λc1 c2=>⟨by rw[(uh HR)];exact dc_f (λq=>c2 (q x (List.mem_of_getElem? hx) c1)),λo=>kw.alloc o⟩
   clear hX kw hrow HA hx h;obtain⟨x1,x2,x3⟩:=x;dsimp only at q0 q1 q2 hgood hbad;cases x1 with
   |false=>
    have HN:Hid (∀o,Kb 0 w (wr.alloc o)/\∀j g,j<i+1->G[j]? =some g->g.1=true->g.2.1<=kp):=hgood (λe=>by cases e);clear hgood hbad;go_wp2_with fail;go_roundw
    case rel=>exact⟨i+1,by go_num,by omega,(uh HN) _⟩
    case measure=>simp[intOf];omega
   |true=>
    by_cases c:x2<=kp
    ·have HN:Hid (∀o,Kb 0 w (wr.alloc o)/\∀j g,j<i+1->G[j]? =some g->g.1=true->g.2.1<=kp):=hgood (λ_=>c);have g1:¬kp<x2:=by omega
     clear hgood hbad c;go_wp2_with fail;go_roundw
     case rel=>exact⟨i+1,by go_num,by omega,(uh HN) _⟩
     case measure=>simp[intOf];omega
    ·obtain⟨hF,hk⟩:=hbad rfl c;have HN:Hid (∀o,Kb 0 w (wr.alloc o)):=hk;have g1:kp<x2:=by omega
     subst hF;clear hgood hbad c hk HR;go_wp2_with fail;go_ret;exact⟨rfl,(uh HN) _⟩
  ·have hI:¬(i:Int)<(G.length:Int):=by omega
   have hT:R=true:=by
    rw[(uh HR)];refine dc_t (λg hg=>?_);obtain⟨j,hj⟩:=List.getElem?_of_mem hg;exact hX j g (by have:=(List.getElem?_eq_some_iff.1 hj).1;omega) hj
   subst hT;have HK:Hid (Kb 0 w wr):=kw;clear hX kw HA HR;go_wp2_with fail;go_ret;exact⟨rfl,HK⟩
theorem foldl_kp:∀(G:List Gv) (m k:Int),(m<=k/\∀g,g ∈ G->g.1=true->g.2.1<=k)↔G.foldl kp1 m<=k
 | [],m,k=>by simp
 |g::G,m,k=>by
  rw[List.foldl_cons,<-foldl_kp G];unfold kp1;constructor
  ·rintro⟨h1,h2⟩;refine⟨?_,λx hx=>h2 x (List.mem_cons_of_mem _ hx)⟩;split
   ·exact Int.max_le.2 ⟨h1,h2 g (List.mem_cons_self ..) (by assumption)⟩
   ·exact h1
  ·rintro⟨h1,h2⟩
   have hm:m<=k:=by
    split at h1
    ·exact(Int.max_le.1 h1).1
    ·exact h1
   refine⟨hm,λx hx=>?_⟩;rcases List.mem_cons.1 hx with rfl|hx
   ·intro q;rw[if_pos q]at h1;exact(Int.max_le.1 h1).2
   ·exact h2 x hx
theorem above_iff(hk:0<=k):AbP G k↔kpt G<=k:=by
 unfold kpt AbP;rw[<-foldl_kp];exact⟨λh=>⟨hk,h⟩,λh=>h.2⟩
theorem kpt_nn(G:List Gv):0<=kpt G:=((foldl_kp G 0 (kpt G)).2 (Int.le_refl _)).1
theorem kpt_le(hk:0<=k)(h:∀g,g ∈ G->g.2.1<=k):kpt G<=k:=(above_iff hk).1 (λg hg _=>h g hg)
