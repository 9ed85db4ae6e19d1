import Derived.Test.YtohbcpfjjimdnaaGreatDoorMNpf
import Derived.Test.YtohbcpfjjimdnaaGreatDoorMCgc
set_option maxHeartbeats 32000000
namespace Go.Proofs.YtohbcpfjjimdnaaGreatDoor.Fo
open Go.ChangeShapes Go.WideShapes Go.ChangeAt Go.RowKit
set_option linter.unusedVariables false
set_option maxRecDepth 100000
variable {S o np ca B:Nat}{v m v' m':Value}{L:List Int}{W w0 W':World}{A:Addr}
theorem Ks.of_kb{w w':World}(k:Kb 0 w w')(hS:S<w.heap.size):Ks S o v m v m w w':=
 ⟨k.os,k.output,k.size,λi hi _ _ _=>k.block i zq hi,λj _ _=>World.cell?_of_block (k.block S zq hS),λ_ h=>.inl h,λ_ h=>.inl h⟩
def Ob(b:Nat)(v m:Value):Prop:=(∀k,v.ownBlock=some k->b<=k)/\∀k,m=.map (some k)->b<=k
theorem Zt.lv(h:Zt S o L v m W):∀k,v.ownBlock=some k->k<W.heap.size:=λk e=>(h.row.lt k e).2
theorem Zt.lm(h:Zt S o L v m W):∀k,m=.map (some k)->k<W.heap.size:=λk e=>by
 rcases h.mp with⟨_,q⟩|⟨M,e1,hM⟩
 ·rw[q]at e;cases e
 ·obtain⟨es,clock,hb',_⟩:=hM;rw[e1]at e;have:M=k:=by simpa using e
  subst this;exact lt_of_obj hb'
structure Cs0 (w0:World) (A:Addr) (np ca B:Nat) (L:List Int) (v m:Value) (W:World):Prop where
 kb:Kb 0 w0 W
 cb:W.cell? ⟨B,0,none⟩=some (.slice (some A) np ca)
 hB:w0.heap.size<=B
 zt:Zt B 1 L v m W
 ob:Ob w0.heap.size v m
theorem Cs0.on(h:Cs0 w0 A np ca B L v m W)(k:Kb 0 W W'):Cs0 w0 A np ca B L v m W':=
 ⟨h.kb.trans k,k.cell h.cb,h.hB,h.zt.on k,h.ob⟩
theorem Cs0.lt(h:Cs0 w0 A np ca B L v m W):B<W.heap.size:=lt_of_cell' h.cb
theorem Cs0.add{L':List Int}(h:Cs0 w0 A np ca B L v m W)(hz:Zt B 1 L' v' m' W')(hk:Ks B 1 v m v' m' W W'):Cs0 w0 A np ca B L' v' m' W':=by
 have hs:=h.kb.size;refine⟨⟨hk.os.trans h.kb.os,hk.output.trans h.kb.output,Nat.le_trans hs hk.size,λk _ hlt=>?_⟩,(hk.cells 0 (by omega) (by omega)).trans h.cb,h.hB,hz,λk e=>?_,λk e=>?_⟩
 ·refine(hk.block k (by omega) (by have:=h.hB;omega) (λe=>?_) (λe=>?_)).trans (h.kb.block k zq hlt)
  ·have:=h.ob.1 k e;omega
  ·have:=h.ob.2 k e;omega
 ·rcases hk.hv k e with q|q
  ·exact h.ob.1 k q
  ·omega
 ·rcases hk.hm k e with q|q
  ·exact h.ob.2 k q
  ·omega
theorem Ks.stay(hk:Ks B 1 v m v' m' W W'){g:Nat}(hg:g<W.heap.size)(hB:g≠B)(hv:v.ownBlock≠some g)(hm:m≠ .map (some g)):W'.heap[g]? =W.heap[g]? /\v'.ownBlock≠some g/\m'≠ .map (some g):=
 ⟨hk.block g hg hB hv hm,λe=>(hk.hv g e).elim hv (by omega),λe=>(hk.hm g e).elim hm (by omega)⟩
def Pfn(w0 w:World)(v m:Value)(A:Addr)(np ca B:Nat)(F:Nat->Pd)(p:Nat)(L:List Int)(r:Int)(W:World):Prop:=Fb (P6 F p) (F p).n r/\∃v' m',Ks B 1 v m v' m' w W/\(r=-1->∃L',Cs0 w0 A np ca B L' v' m' W/\(∀x,x ∈ L'↔MB F (p+1) 0 x)/\L'.length<=L.length+(F p).n)
theorem im_wfn{p:Nat}{F:Nat->Pd}(w0 w:World)(hfn:∀i,i<np->ProC 0 w0 (A.add (i*9)) (F i))(hp:p<np)(hnp:np<=1048576)(hn:(F p).n<=1048576)(hu:∀i,i<np->(F i).u<=1048576)
  (hrn:∀i,i<(F p).n->((F p).N i).o=11->0<=((F p).N i).b/\((F p).N i).b<=(np:Int)-1) (hst:Cs0 w0 A np ca B L v m w) (hL:∀x,x ∈ L↔MB F p 0 x) (hlen:L.length<=9000000000):
  Calls Tryz.prog 75 #[.pointer (some ⟨B,0,none⟩),.int .i64 p] w λe w'=>∃r:Int,e=.returned (.int .i64 r)/\Pfn w0 w v m A np ca B F p L r w':=by
 obtain⟨vu,vc,vn,vd,hcel,hvu,hvc,hvn,hvd⟩:=(hfn p hp).keep zq hst.kb;obtain⟨pu,cu,rfl,-⟩:=hvu;obtain⟨pc,cc,rfl,-⟩:=hvc;obtain⟨pm,cm,rfl,-⟩:=hvd;obtain⟨pn,cn,rfl,hrow⟩:=hvn;obtain⟨d0,d1,d2,d3,d4,d5,d6,d7,d8⟩:=hcel;have hpI:(p:Int)<(np:Int):=by omega
 have hnpI:(np:Int)<=1048576:=by omega
 have hnI:((F p).n:Int)<=1048576:=by omega
 have hb:=hst.cb;rcases Nat.eq_zero_or_pos (F p).n with hz|hz
 ·have HX:Hid (∀o,Pfn w0 w v m A np ca B F p L (-1) (w.alloc o)):=(λo=>⟨.inl ⟨rfl,λj hj=>by omega⟩,v,m,Ks.of_kb (kb_alloc _ _ _) hst.lt,λ_=>⟨L,hst.on (kb_alloc _ _ _),λx=>by rw[mb_end,hz];exact hL x,by omega⟩⟩:∀o,_)
  have hz0:((F p).n:Int)=0:=by omega
  rw[hz]at d7;clear hst hL hlen hrn hu hrow hfn hz hz0;go_enter Tryz.func75,Tryz.ntmps75;go_wp2_with fail;clear d0 d1 d2 d3 d4 d5 d6 d7 d8 hb
  go_loopw [20] (λsl wr=>sl=.int .i64 0/\Hid (Pfn w0 w v m A np ca B F p L (-1) wr)) (λ_ _=>0)
  case atStart=>exact⟨rfl,HX _⟩
  case round=>
   obtain⟨rfl,HY⟩:=hrel;clear HX;go_wp2_with fail;go_ret;exact⟨_,rfl,HY⟩
 obtain⟨b,rfl,hcb,-,hra⟩:=hrow hz;obtain⟨w1,hw1⟩:∃w1,w1=w.alloc (.cells #[.string (F p).x,.int .i64 (F p).l,.int .i64 (F p).m,.bool (F p).r,.int .i64 (F p).g,.slice pu (F p).u cu,.slice pc (F p).c cc,.slice (some b) (F p).n cn,.slice pm (F p).d cm] 52):=⟨_,rfl⟩
 have k1:Kb 0 w w1:=by rw[hw1];exact kb_alloc _ _ _
 obtain⟨g,hg⟩:∃g,g=w.heap.size:=⟨_,rfl⟩
 have HI0:Hid (∃L2 v2 m2,Cs0 w0 A np ca B L2 v2 m2 w1/\Ks B 1 v m v2 m2 w w1/\(∀x,x ∈ L2↔MB F p 0 x)/\L2.length<=L.length+0/\w1.heap[g]? =some (.cells #[.string (F p).x,.int .i64 (F p).l,.int .i64 (F p).m,.bool (F p).r,.int .i64 (F p).g,.slice pu (F p).u cu,.slice pc (F p).c cc,.slice (some b) (F p).n cn,.slice pm (F p).d cm] 52 (0,0))/\(g≠B/\v2.ownBlock≠some g/\m2≠ .map (some g))/\∀y,y<0->P6 F p y):=by
  have hbx:w1.heap[g]? =some (.cells #[.string (F p).x,.int .i64 (F p).l,.int .i64 (F p).m,.bool (F p).r,.int .i64 (F p).g,.slice pu (F p).u cu,.slice pc (F p).c cc,.slice (some b) (F p).n cn,.slice pm (F p).d cm] 52 (0,0)):=by rw[hw1,hg];exact alloc_new _ _ _
  have:=hst.lt;show ∃L2 v2 m2,_;exact⟨L,v,m,hst.on k1,Ks.of_kb k1 hst.lt,hL,by omega,hbx,⟨by omega,λe=>by have:=hst.zt.lv _ e;omega,λe=>by have:=hst.zt.lm _ e;omega⟩,λy hy=>by omega⟩
 have HR:Hid ((∀W,Kb 0 w0 W->∀i,i<np->ProC 0 W (A.add (i*9)) (F i))/\(∀W,Kb 0 w0 W->∀i,i<(F p).n->InsC 0 W (b.add (i*5)) ((F p).N i))/\(∀i,i<(F p).n->((F p).N i).o=11->0<=((F p).N i).b/\((F p).N i).b<=(np:Int)-1)/\(∀i,i<np->(F i).u<=1048576)/\L.length<=9000000000/\p<np):=by
  refine(show _/\_/\_/\_/\_/\_ from⟨λW k i hi=>(hfn i hi).keep zq k,λW k=>?_,hrn,hu,hlen,hp⟩);obtain⟨vu2,vc2,vn2,vd2,q2,-,-,hv2,-⟩:=hfn p hp;obtain⟨pn2,cn2,rfl,hrow2⟩:=hv2;have e3:Value.slice pn2 (F p).n cn2=.slice (some b) (F p).n cn:=Option.some.inj ((q2.keep zq hst.kb).c7.symm.trans d7);obtain⟨rfl,rfl⟩:pn2=some b/\cn2=cn:=by simpa using e3
  obtain⟨b2,eb,-,-,hr2⟩:=hrow2 hz;obtain rfl:b=b2:=Option.some.inj eb;exact λi hi=>(hr2 i hi).keep zq k
 have HW:Hid (w1=w.alloc (.cells #[.string (F p).x,.int .i64 (F p).l,.int .i64 (F p).m,.bool (F p).r,.int .i64 (F p).g,.slice pu (F p).u cu,.slice pc (F p).c cc,.slice (some b) (F p).n cn,.slice pm (F p).d cm] 52)):=hw1;have HG:Hid (g=w.heap.size):=hg;clear hst hL hlen hrn hu hfn hw1 k1 hg hra hrow hz hp hnp;go_enter Tryz.func75,Tryz.ntmps75;go_wp2_with fail;rw[<-(uh HW),<-(uh HG)];clear HW HG d0 d1 d2 d3 d4 d5 d6 d7 d8 hb
 go_loopw [20] (λsl wr=>∃j:Nat,sl=.int .i64 j/\j<=(F p).n/\Hid (∃L2 v2 m2,Cs0 w0 A np ca B L2 v2 m2 wr/\Ks B 1 v m v2 m2 w wr/\(∀x,x ∈ L2↔MB F p j x)/\L2.length<=L.length+j/\wr.heap[g]? =some (.cells #[.string (F p).x,.int .i64 (F p).l,.int .i64 (F p).m,.bool (F p).r,.int .i64 (F p).g,.slice pu (F p).u cu,.slice pc (F p).c cc,.slice (some b) (F p).n cn,.slice pm (F p).d cm] 52 (0,0))/\(g≠B/\v2.ownBlock≠some g/\m2≠ .map (some g))/\∀y,y<j->P6 F p y)) (λsl _=>(F p).n-(intOf sl).toNat)
 case atStart=>exact⟨0,rfl,Nat.zero_le _,HI0⟩
 case round=>
  clear HI0;obtain⟨j,rfl,hj,HI⟩:=hrel;obtain⟨L2,v2,m2,hst,hks,hL2,hln,hbx,⟨ng1,ng2,ng3⟩,hall⟩:=(uh HI)
  obtain⟨hfn,hri,hrn,hu,hlen,hp⟩:=(uh HR)
  rcases Nat.lt_or_ge j (F p).n with h|h
  case inr=>
   obtain rfl:j=(F p).n:=by omega
   have hI:¬((F p).n:Int)<((F p).n:Int):=by omega
   have HX:Hid (Pfn w0 w v m A np ca B F p L (-1) wr):=⟨.inl ⟨rfl,hall⟩,v2,m2,hks,λ_=>⟨L2,hst,λx=>(hL2 x).trans (mb_end x).symm,hln⟩⟩
   clear HI hst hks hL2 hln hbx ng1 ng2 ng3 hall hfn hri hrn hu hlen HR;go_wp2_with fail;go_ret;exact⟨_,rfl,HX⟩
  have hI:(j:Int)<((F p).n:Int):=by omega
  obtain⟨q0,q1,q2,q3,q4⟩:=hri wr hst.kb j h;have hm:=hrn j h;have h6:P6 F p j↔(((F p).N j).o=11->(p:Int)<((F p).N j).b/\¬MB F p j ((F p).N j).b/\Uok (F p) (F ((F p).N j).b.toNat)):=Iff.rfl;have hnx:=λk=>mb_next (F:=F) (p:=p) (i:=j) h k;have hbad:¬P6 F p j->∀W v' m',Ks B 1 v m v' m' w W->Pfn w0 w v m A np ca B F p L (j:Int) W:=λc W v' m' k=>⟨.inr ⟨j,rfl,h,c,hall⟩,v',m',k,λe=>by omega⟩
  have hgood:P6 F p j->∀y,y<j+1->P6 F p y:=λc y hy=>by
   by_cases e:y=j
   ·subst e;exact c
   ·exact hall y (by omega)
  generalize (F p).N j=vi at*;obtain⟨vo,va,vb,vc3,vd3⟩:=vi;dsimp only at q0 q1 q2 q3 q4 hm h6 hnx;obtain⟨w7,hw7⟩:∃w7,w7=wr.alloc (.cells #[.int .i64 vo,.int .i64 va,.int .i64 vb,.int .i64 vc3,.int .i64 vd3] 79):=⟨_,rfl⟩
  have k7:Kb 0 wr w7:=by rw[hw7];exact kb_alloc _ _ _
  have z7:w7.heap.size=wr.heap.size+1:=by rw[hw7];simp
  have i7:w7.heap[wr.heap.size]? =some (.cells #[.int .i64 vo,.int .i64 va,.int .i64 vb,.int .i64 vc3,.int .i64 vd3] 79 (0,0)):=by rw[hw7];exact alloc_new _ _ _
  have hgl:g<wr.heap.size:=lt_of_obj hbx;have bx7:=(k7.block g zq hgl).trans hbx;by_cases ho:vo=11
  rotate_left
  ·have g1:(vo==11)=false:=bne ho;have g2:(vo !=11)=true:=by simp[ho]
   have HX3:Hid (∃L2 v2 m2,Cs0 w0 A np ca B L2 v2 m2 w7/\Ks B 1 v m v2 m2 w w7/\(∀x,x ∈ L2↔MB F p (j+1) x)/\L2.length<=L.length+(j+1)/\w7.heap[g]? =some (.cells #[.string (F p).x,.int .i64 (F p).l,.int .i64 (F p).m,.bool (F p).r,.int .i64 (F p).g,.slice pu (F p).u cu,.slice pc (F p).c cc,.slice (some b) (F p).n cn,.slice pm (F p).d cm] 52 (0,0))/\(g≠B/\v2.ownBlock≠some g/\m2≠ .map (some g))/\∀y,y<(j+1)->P6 F p y):=(⟨L2,v2,m2,hst.on k7,hks.trans (Ks.of_kb k7 hst.lt),λx=>(hL2 x).trans ⟨λq=>(hnx x).2 (.inl q),λq=>((hnx x).1 q).elim id (λq=>absurd q.1 ho)⟩,by omega,bx7,⟨ng1,ng2,ng3⟩,hgood (h6.2 (λq=>absurd q ho))⟩:∃L2 v2 m2,_)
   clear HI hst hks hL2 hln hbx ng1 ng2 ng3 hall hfn hri hrn hu hlen HR hm h6 hnx hbad hgood k7 z7 i7 hgl bx7 ho;subst hw7;go_wp2_with fail;go_roundw
   case rel=>exact⟨j+1,by go_num,by omega,HX3⟩
   case measure=>simp[intOf];omega
  subst ho;obtain⟨m1,m2'⟩:=hm rfl;obtain⟨kb,rfl⟩:∃kb:Nat,vb=(kb:Int):=⟨vb.toNat,by omega⟩
  have hkb:kb<np:=by omega
  have hkI:(kb:Int)<(np:Int):=by omega
  rw[Int.toNat_natCast]at h6;have hst7:=hst.on k7
  have HA:Hid (∀W,Kb 0 w7 W->Calls Tryz.prog 110 #[.pointer (some ⟨B,1,none⟩),.int .i64 kb] W λe w'=>∃q:Int,e=.returned (.tuple #[.int .i64 q,.bool (dc ((kb:Int)∉ L2))])/\∃v' m',Zt B 1 (addL L2 (kb:Int)) v' m' w'/\Ks B 1 v2 m2 v' m' w7 w'):=(λW k=>by
   refine(im_add (kb:Int) W (hst7.on k).zt (by omega)).mono ?_;rintro e w' ⟨q,rfl,v',m',hz',hk'⟩
   exact⟨q,rfl,v',m',hz',(Ks.of_kb k hst7.lt).trans hk'⟩:∀W,_)
  have HAF:Hid (∀v3 m3 w8,Zt B 1 (addL L2 (kb:Int)) v3 m3 w8->Ks B 1 v2 m2 v3 m3 w7 w8->Cs0 w0 A np ca B (addL L2 (kb:Int)) v3 m3 w8/\Ks B 1 v m v3 m3 w w8/\w8.heap[wr.heap.size]? =some (.cells #[.int .i64 11,.int .i64 va,.int .i64 kb,.int .i64 vc3,.int .i64 vd3] 79 (0,0))/\w8.heap[g]? =some (.cells #[.string (F p).x,.int .i64 (F p).l,.int .i64 (F p).m,.bool (F p).r,.int .i64 (F p).g,.slice pu (F p).u cu,.slice pc (F p).c cc,.slice (some b) (F p).n cn,.slice pm (F p).d cm] 52 (0,0))/\v3.ownBlock≠some g/\m3≠ .map (some g)/\g<w8.heap.size):=(λv3 m3 w8 hz3 hk3=>by
   have hB:=hst.lt;obtain⟨s1,s2,s3⟩:=hk3.stay (g:=g) (by omega) ng1 ng2 ng3;obtain⟨t1,-,-⟩:=hk3.stay (g:=wr.heap.size) (by omega) (by omega) (λe=>by have:=hst.zt.lv _ e;omega) (λe=>by have:=hst.zt.lm _ e;omega)
   exact⟨hst7.add hz3 hk3,(hks.trans (Ks.of_kb k7 hst.lt)).trans hk3,t1.trans i7,s1.trans bx7,s2,s3,by have:=hk3.size;omega⟩:∀v3 m3 w8,_)
  obtain⟨yu,yc,yn,yd,ycel,hyu,hyc,hyn,hyd⟩:=hfn wr hst.kb kb hkb;obtain⟨ku,ke,rfl,-⟩:=hyu;obtain⟨e1,f1,rfl,-⟩:=hyc;obtain⟨e2,f2,rfl,-⟩:=hyn;obtain⟨e3,f3,rfl,-⟩:=hyd
  have HCK:Hid (∀W,Kb 0 w0 W->CelP W (A.add (kb*9)) (F kb) (.slice ku (F kb).u ke) (.slice e1 (F kb).c f1) (.slice e2 (F kb).n f2) (.slice e3 (F kb).d f3)/\RowU 0 W (.slice ku (F kb).u ke) (F kb).u (F kb).U):=(λW k=>by
   obtain⟨zu,zc,zn,zd,zcel,hzu,-,-,-⟩:=hfn w0 (Kb.refl _ _) kb hkb;have z1:=zcel.keep zq hst.kb;have r1:zu=.slice ku (F kb).u ke:=Option.some.inj (z1.c5.symm.trans ycel.c5);have r2:zc=.slice e1 (F kb).c f1:=Option.some.inj (z1.c6.symm.trans ycel.c6);have r3:zn=.slice e2 (F kb).n f2:=Option.some.inj (z1.c7.symm.trans ycel.c7);have r4:zd=.slice e3 (F kb).d f3:=Option.some.inj (z1.c8.symm.trans ycel.c8);subst r1 r2 r3 r4
   exact⟨zcel.keep zq k,hzu.keep k⟩:∀W,_)
  have HUP:Hid (∀W,Kb 0 w0 W->Calls Tryz.prog 111 #[.agg #[.string (F p).x,.int .i64 (F p).l,.int .i64 (F p).m,.bool (F p).r,.int .i64 (F p).g,.slice pu (F p).u cu,.slice pc (F p).c cc,.slice (some b) (F p).n cn,.slice pm (F p).d cm],.agg #[.string (F kb).x,.int .i64 (F kb).l,.int .i64 (F kb).m,.bool (F kb).r,.int .i64 (F kb).g,.slice ku (F kb).u ke,.slice e1 (F kb).c f1,.slice e2 (F kb).n f2,.slice e3 (F kb).d f3]] W λe w'=>e=.returned (.bool (dc (Uok (F p) (F kb))))/\Kb 0 W w'):=(λW k=>im_hasups W ((uh HCK) W k).2 (hu p hp) (hu kb hkb) ⟨⟨_,_,_,rfl⟩,⟨_,_,_,rfl⟩,⟨_,_,_,rfl⟩,⟨_,_,_,rfl⟩,⟨_,_,_,rfl⟩,⟨_,_,_,rfl⟩⟩:∀W,_)
  have HQ:Hid ((P6 F p j↔((p:Int)<(kb:Int)/\¬MB F p j (kb:Int)/\Uok (F p) (F kb)))/\(¬P6 F p j->∀W v' m',Ks B 1 v m v' m' w W->Pfn w0 w v m A np ca B F p L (j:Int) W)/\(P6 F p j->∀y,y<j+1->P6 F p y)/\(∀x,x ∈ L2↔MB F p j x)/\(∀k,MB F p (j+1) k↔MB F p j k\/(kb:Int)=k)/\L2.length<=L.length+j/\g≠B):=(⟨h6.trans ⟨λq=>q rfl,λq _=>q⟩,hbad,hgood,hL2,λk=>(hnx k).trans ⟨λq=>q.elim .inl (λq=>.inr q.2),λq=>q.elim .inl (λq=>.inr ⟨rfl,q⟩)⟩,hln,ng1⟩:_/\_)
  clear HI hst hks hL2 hln hbx ng1 ng2 ng3 hall hfn hri hrn hu hlen HR hm h6 hnx hbad hgood k7 z7 i7 hgl bx7 hst7 ycel m1 m2';have HW7:Hid (w7=_):=hw7;clear hw7;obtain⟨gi,hgi⟩:∃gi,gi=wr.heap.size:=⟨_,rfl⟩
  have i2:w7.cell? ⟨gi,2,none⟩=some (.int .i64 kb):=by
   rw[hgi,show w7=_ from HW7];exact cell_of (alloc_new _ _ _) rfl
  have HGI:Hid (gi=wr.heap.size):=hgi;rw[<-hgi]at HAF;clear hgi;obtain⟨bn,hbn⟩:∃bn,bn=dc ((kb:Int)∉ L2):=⟨_,rfl⟩
  have HBN:Hid (bn=dc ((kb:Int)∉ L2)):=hbn;rw[<-hbn]at HA;clear hbn;go_wp2_with fail;rw[<-(uh HW7),<-(uh HGI)];clear HW7 HGI q0 q1 q2 q3 q4
  go_region_held_law (λW'=>W'.cell? ⟨gi,2,none⟩=some (.int .i64 kb)) (first|exact i2|exact cell_of ((uh HAF) _ _ _ hz3 hk3).2.2.1 rfl)
   ((go_at_call 110;refine((uh HA) _ (by exact Kb.drewN (Kb.refl _ _) _)).mono ?_;rintro e w8 ⟨q,rfl,v3,m3,hz3,hk3⟩))
  obtain⟨hst8,ks8,i8,b8,nv8,nm8,gl8⟩:=(uh HAF) _ _ _ hz3 hk3;obtain⟨h6,hbad,hgood,hL2,hnx,hln,ng1⟩:=(uh HQ)
  have hbn:=(uh HBN)
  have c2:w8.cell? ⟨gi,2,none⟩=some (.int .i64 kb):=cell_of i8 rfl;clear i2 HA HAF HQ HBN hz3 hk3;by_cases hb1:(kb:Int)<=(p:Int)
  ·have HX:Hid (∀W,Kb 0 w8 W->Pfn w0 w v m A np ca B F p L (j:Int) W):=(λW k=>hbad (λc=>by have:=(h6.1 c).1;omega) W v3 m3 (ks8.trans (Ks.of_kb k hst8.lt)):∀W,_)
   have gb1:decide ((kb:Int)<=(p:Int))=true:=decide_eq_true hb1;have gb2:decide (kb<=p)=true:=decide_eq_true (by omega);clear hst8 ks8 i8 b8 nv8 nm8 gl8 h6 hbad hgood hL2 hnx hln ng1 hbn HCK HUP;go_wp2_with fail
   go_quiet (skip)
   go_wp2_with fail
   all_goals (go_ret;exact⟨_,rfl,(uh HX) _ (Kb.drewN (Kb.refl _ _) _)⟩)
  have gb1:decide ((kb:Int)<=(p:Int))=false:=decide_eq_false hb1;have gb2:decide (kb<=p)=false:=decide_eq_false (by omega);have gb3:¬kb<=p:=by omega
  by_cases hm:(kb:Int)∈ L2
  ·have hF:bn=false:=by rw[hbn];exact dc_f (λq=>q hm)
   subst hF;have HX:Hid (∀W,Kb 0 w8 W->Pfn w0 w v m A np ca B F p L (j:Int) W):=(λW k=>hbad (λc=>(h6.1 c).2.1 ((hL2 _).1 hm)) W v3 m3 (ks8.trans (Ks.of_kb k hst8.lt)):∀W,_)
   clear hst8 ks8 i8 b8 nv8 nm8 gl8 h6 hbad hgood hL2 hnx hln ng1 hbn HCK HUP hm;go_wp2_with fail
   go_quiet (skip)
   go_wp2_with fail
   all_goals (go_ret;exact⟨_,rfl,(uh HX) _ (Kb.drewN (Kb.refl _ _) _)⟩)
  have hT:bn=true:=by rw[hbn];exact dc_t hm
  subst hT;have hck:=(uh HCK)
  have hup:=(uh HUP)
  have x0:∀q:KW w8,q.w.cell? ⟨g,0,none⟩=some (.string (F p).x):=λq=>q.k.cell (cell_of b8 rfl);have x1:∀q:KW w8,q.w.cell? ⟨g,1,none⟩=some (.int .i64 (F p).l):=λq=>q.k.cell (cell_of b8 rfl);have x2:∀q:KW w8,q.w.cell? ⟨g,2,none⟩=some (.int .i64 (F p).m):=λq=>q.k.cell (cell_of b8 rfl);have x3:∀q:KW w8,q.w.cell? ⟨g,3,none⟩=some (.bool (F p).r):=λq=>q.k.cell (cell_of b8 rfl);have x4:∀q:KW w8,q.w.cell? ⟨g,4,none⟩=some (.int .i64 (F p).g):=λq=>q.k.cell (cell_of b8 rfl);have x5:∀q:KW w8,q.w.cell? ⟨g,5,none⟩=some (.slice pu (F p).u cu):=λq=>q.k.cell (cell_of b8 rfl);have x6:∀q:KW w8,q.w.cell? ⟨g,6,none⟩=some (.slice pc (F p).c cc):=λq=>q.k.cell (cell_of b8 rfl);have x7:∀q:KW w8,q.w.cell? ⟨g,7,none⟩=some (.slice (some b) (F p).n cn):=λq=>q.k.cell (cell_of b8 rfl);have x8:∀q:KW w8,q.w.cell? ⟨g,8,none⟩=some (.slice pm (F p).d cm):=λq=>q.k.cell (cell_of b8 rfl);have xi:∀q:KW w8,q.w.cell? ⟨gi,2,none⟩=some (.int .i64 kb):=λq=>q.k.cell c2;have xb:∀q:KW w8,q.w.cell? ⟨B,0,none⟩=some (.slice (some A) np ca):=λq=>q.k.cell hst8.cb;have y0:∀q:KW w8,q.w.cell? (A.add (kb*9))=some (.string (F kb).x):=λq=>(hck q.w (hst8.kb.trans q.k)).1.c0;have y1:∀q:KW w8,q.w.cell? ⟨(A.add (kb*9)).block,(A.add (kb*9)).off+1,none⟩=some (.int .i64 (F kb).l):=λq=>(hck q.w (hst8.kb.trans q.k)).1.c1;have y2:∀q:KW w8,q.w.cell? ⟨(A.add (kb*9)).block,(A.add (kb*9)).off+2,none⟩=some (.int .i64 (F kb).m):=λq=>(hck q.w (hst8.kb.trans q.k)).1.c2;have y3:∀q:KW w8,q.w.cell? ⟨(A.add (kb*9)).block,(A.add (kb*9)).off+3,none⟩=some (.bool (F kb).r):=λq=>(hck q.w (hst8.kb.trans q.k)).1.c3;have y4:∀q:KW w8,q.w.cell? ⟨(A.add (kb*9)).block,(A.add (kb*9)).off+4,none⟩=some (.int .i64 (F kb).g):=λq=>(hck q.w (hst8.kb.trans q.k)).1.c4;have y5:∀q:KW w8,q.w.cell? ⟨(A.add (kb*9)).block,(A.add (kb*9)).off+5,none⟩=some (.slice ku (F kb).u ke):=λq=>(hck q.w (hst8.kb.trans q.k)).1.c5;have y6:∀q:KW w8,q.w.cell? ⟨(A.add (kb*9)).block,(A.add (kb*9)).off+6,none⟩=some (.slice e1 (F kb).c f1):=λq=>(hck q.w (hst8.kb.trans q.k)).1.c6;have y7:∀q:KW w8,q.w.cell? ⟨(A.add (kb*9)).block,(A.add (kb*9)).off+7,none⟩=some (.slice e2 (F kb).n f2):=λq=>(hck q.w (hst8.kb.trans q.k)).1.c7;have y8:∀q:KW w8,q.w.cell? ⟨(A.add (kb*9)).block,(A.add (kb*9)).off+8,none⟩=some (.slice e3 (F kb).d f3):=λq=>(hck q.w (hst8.kb.trans q.k)).1.c8
  have C1:∀q:KW w8,Calls Tryz.prog 111 #[.agg #[.string (F p).x,.int .i64 (F p).l,.int .i64 (F p).m,.bool (F p).r,.int .i64 (F p).g,.slice pu (F p).u cu,.slice pc (F p).c cc,.slice (some b) (F p).n cn,.slice pm (F p).d cm],.agg #[.string (F kb).x,.int .i64 (F kb).l,.int .i64 (F kb).m,.bool (F kb).r,.int .i64 (F kb).g,.slice ku (F kb).u ke,.slice e1 (F kb).c f1,.slice e2 (F kb).n f2,.slice e3 (F kb).d f3]] q.w λe w'=>e=.returned (.bool (dc (Uok (F p) (F kb))))/\∃r:KW w8,w'=r.w:=λq=>by
   refine(hup q.w (hst8.kb.trans q.k)).mono ?_;rintro e w' ⟨rfl,k⟩;exact⟨rfl,⟨w',q.k.trans k⟩,rfl⟩
  have hne:Nonempty (KW w8):=⟨⟨w8,Kb.refl _ _⟩⟩
  have HGO:Hid (Uok (F p) (F kb)->∀W,Kb 0 w8 W->∃L2 v2 m2,Cs0 w0 A np ca B L2 v2 m2 W/\Ks B 1 v m v2 m2 w W/\(∀x,x ∈ L2↔MB F p (j+1) x)/\L2.length<=L.length+(j+1)/\W.heap[g]? =some (.cells #[.string (F p).x,.int .i64 (F p).l,.int .i64 (F p).m,.bool (F p).r,.int .i64 (F p).g,.slice pu (F p).u cu,.slice pc (F p).c cc,.slice (some b) (F p).n cn,.slice pm (F p).d cm] 52 (0,0))/\(g≠B/\v2.ownBlock≠some g/\m2≠ .map (some g))/\∀y,y<(j+1)->P6 F p y):=(λc W k=>⟨addL L2 (kb:Int),v3,m3,hst8.on k,ks8.trans (Ks.of_kb k hst8.lt),λx=>by
   rw[mem_addL,hL2 x,hnx x]
   exact⟨λq=>q.elim .inl (λq=>.inr q.symm),λq=>q.elim .inl (λq=>.inr q.symm)⟩,by rw[addL_f hm,List.length_append];simp;omega,(k.block g zq gl8).trans b8,⟨ng1,nv8,nm8⟩,hgood (h6.2 ⟨by omega,λq=>hm ((hL2 _).2 q),c⟩)⟩:_->_)
  have HBO:Hid (¬Uok (F p) (F kb)->∀W,Kb 0 w8 W->Pfn w0 w v m A np ca B F p L (j:Int) W):=(λc W k=>hbad (λq=>c (h6.1 q).2.2) W v3 m3 (ks8.trans (Ks.of_kb k hst8.lt)):_->_)
  clear hst8 ks8 i8 b8 nv8 nm8 gl8 h6 hbad hgood hL2 hnx hln ng1 hbn HCK HUP hm hck hup c2;by_cases hU:Uok (F p) (F kb)
  ·rw[dc_t hU]at C1;have HX:=(uh HGO) hU;have HXX:Hid (∀W,Kb 0 w8 W->∃L2 v2 m2,Cs0 w0 A np ca B L2 v2 m2 W/\Ks B 1 v m v2 m2 w W/\(∀x,x ∈ L2↔MB F p (j+1) x)/\L2.length<=L.length+(j+1)/\W.heap[g]? =some (.cells #[.string (F p).x,.int .i64 (F p).l,.int .i64 (F p).m,.bool (F p).r,.int .i64 (F p).g,.slice pu (F p).u cu,.slice pc (F p).c cc,.slice (some b) (F p).n cn,.slice pm (F p).d cm] 52 (0,0))/\(g≠B/\v2.ownBlock≠some g/\m2≠ .map (some g))/\∀y,y<(j+1)->P6 F p y):=HX;clear HGO HBO HX hU;go_wp2_with fail;refine wp_region_kb (by kernel_rfl) (by kernel_rfl) ?_
   repeat go_big_quiet_step ((fail))
   go_big_quiet_step (((go_at_call 111;exact C1 _)))
   repeat go_big_quiet_step ((fail))
   refine wpQuiet_nil ?_;intro w9 hw'
   have HX3:Hid (∃L2 v2 m2,Cs0 w0 A np ca B L2 v2 m2 w9/\Ks B 1 v m v2 m2 w w9/\(∀x,x ∈ L2↔MB F p (j+1) x)/\L2.length<=L.length+(j+1)/\w9.heap[g]? =some (.cells #[.string (F p).x,.int .i64 (F p).l,.int .i64 (F p).m,.bool (F p).r,.int .i64 (F p).g,.slice pu (F p).u cu,.slice pc (F p).c cc,.slice (some b) (F p).n cn,.slice pm (F p).d cm] 52 (0,0))/\(g≠B/\v2.ownBlock≠some g/\m2≠ .map (some g))/\∀y,y<(j+1)->P6 F p y):=by
    obtain⟨q,hq⟩:=hw';rw[hq];exact(uh HXX) q.w q.k
   clear hw' HXX C1 x0 x1 x2 x3 x4 x5 x6 x7 x8 xi xb y0 y1 y2 y3 y4 y5 y6 y7 y8 hne;go_wp2_with fail;go_roundw
   case rel=>exact⟨j+1,by go_num,by omega,HX3⟩
   case measure=>simp[intOf];omega
  ·rw[dc_f hU]at C1;have HX:=(uh HBO) hU;have HXX:Hid (∀W,Kb 0 w8 W->Pfn w0 w v m A np ca B F p L (j:Int) W):=HX;clear HGO HBO HX hU;go_wp2_with fail;refine wp_region_kb (by kernel_rfl) (by kernel_rfl) ?_
   repeat go_big_quiet_step ((fail))
   go_big_quiet_step (((go_at_call 111;exact C1 _)))
   repeat go_big_quiet_step ((fail))
   refine wpQuiet_nil ?_;intro w9 hw'
   have HX3:Hid (Pfn w0 w v m A np ca B F p L (j:Int) w9):=by
    obtain⟨q,hq⟩:=hw';rw[hq];exact(uh HXX) q.w q.k
   clear hw' HXX C1 x0 x1 x2 x3 x4 x5 x6 x7 x8 xi xb y0 y1 y2 y3 y4 y5 y6 y7 y8 hne;go_wp2_with fail;go_ret;exact⟨_,rfl,HX3⟩
