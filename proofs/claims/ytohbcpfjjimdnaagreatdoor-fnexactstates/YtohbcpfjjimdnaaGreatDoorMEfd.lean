import Derived.Test.YtohbcpfjjimdnaaGreatDoorMEfa
set_option maxHeartbeats 8000000
namespace Go.Proofs.YtohbcpfjjimdnaaGreatDoor.Fo
open Go.ChangeShapes Go.WideShapes Go.ChangeAt Go.RowKit
set_option linter.unusedVariables false
set_option maxRecDepth 100000
variable {F:Nat->Pd}{g x:Nat}{d:Pd}{D:List Nat}
theorem to_prosF{va:Value}{n:Nat}(w:World)(ha:RowP 0 w va n F)(hn:n<=1048576)(hF:∀i,i<n->(F i).u<=1048576/\(F i).c<=1048576/\(F i).n<=1048576/\(F i).d<=1048576):
  Calls Tryz.prog 16 #[va] w λe w'=>∃v,e=.returned v/\RowPF w.heap.size w' v n F/\Kb 0 w w':=by
 obtain⟨pa,ca,rfl,ha2⟩:=ha;have hnI:(n:Int)<=1048576:=by omega
 have hmk:=run_make (P:=Tryz.prog) w 28 52 Tryz.t52 (.agg #[.string ⟨#[]⟩,.int .i64 0,.int .i64 0,.bool false,.int .i64 0,.slice none 0 0,.slice none 0 0,.slice none 0 0,.slice none 0 0]) Tryz.underlying28 (by kernel_rfl) (by kernel_rfl) .i64 .i64 (n:Int) (n:Int) (by omega) (Int.le_refl _) (by show(144:Int)*(n:Int)<=_;omega) (by omega);rw[Int.toNat_natCast]at hmk;obtain⟨w1,hw1⟩:∃w1,w1=w.alloc (.cells (madeCells (.agg #[.string ⟨#[]⟩,.int .i64 0,.int .i64 0,.bool false,.int .i64 0,.slice none 0 0,.slice none 0 0,.slice none 0 0,.slice none 0 0]:Value).cells (n*9)) 52):=⟨_,rfl⟩
 have hmk2:=hmk;rw[show n*Tryz.t52.size=n*9 from rfl,<-hw1]at hmk2;clear hmk;have hk1:Kb 0 w w1:=by rw[hw1];exact kb_alloc _ _ _
 obtain⟨G,hG⟩:∃G,G=w.heap.size:=⟨_,rfl⟩
 have HI0:Hid (∃E:Nat->List Value,Mk 9 w1 G n E 0 w1/\∀j,j<0->∃vu vc vn vd,E j=[.string (F j).x,.int .i64 (F j).l,.int .i64 (F j).m,.bool (F j).r,.int .i64 (F j).g,vu,vc,vn,vd]/\RowUF (G+1) w1 vu (F j).u (F j).U/\RowWF (G+1) w1 vc (F j).c (F j).C/\RowIF (G+1) w1 vn (F j).n (F j).N/\RowMF (G+1) w1 vd (F j).d (F j).D):=by
  refine⟨λ_=>[],?_,λj hj=>by omega⟩;rw[hG,hw1];exact mk_zero w _ 9 _ n _ rfl
 have HA:Hid ((0<n->∃a:Addr,pa=some a/\n<=ca/\0<=a.block/\∀i,i<n->ProC 0 w (a.add (i*9)) (F i))/\Kb 0 w w1/\G=w.heap.size/\(∀i,i<n->(F i).u<=1048576/\(F i).c<=1048576/\(F i).n<=1048576/\(F i).d<=1048576)):=(⟨ha2,hk1,hG,hF⟩:_/\_)
 rw[<-hG]at hmk2;clear ha2 hk1 hw1 hn hG hF;go_enter Tryz.func16,Tryz.ntmps16;go_wp2_with fail
 go_loopw [4] (λs4 wr=>∃i:Nat,s4=.int .i64 i/\i<=n/\Hid (∃E:Nat->List Value,Mk 9 w1 G n E i wr/\∀j,j<i->∃vu vc vn vd,E j=[.string (F j).x,.int .i64 (F j).l,.int .i64 (F j).m,.bool (F j).r,.int .i64 (F j).g,vu,vc,vn,vd]/\RowUF (G+1) wr vu (F j).u (F j).U/\RowWF (G+1) wr vc (F j).c (F j).C/\RowIF (G+1) wr vn (F j).n (F j).N/\RowMF (G+1) wr vd (F j).d (F j).D)) (λs4 _=>n-(intOf s4).toNat)
 case atStart=>exact⟨0,rfl,Nat.zero_le _,HI0⟩
 case round=>
  clear HI0 hmk2;obtain⟨i,rfl,hin,HI⟩:=hrel;obtain⟨E,hM,hR⟩:=(uh HI)
  have hA:=(uh HA)
  have hBW:Kb 0 w wr:=by
   have hG:=hA.2.2.1;have hA2:=hA.2.1;exact⟨hM.os.trans hA2.os,hM.output.trans hA2.output,Nat.le_trans hA2.size hM.size,λb _ hb=>(hM.block b (Nat.lt_of_lt_of_le hb hA2.size) (by omega)).trans (hA2.block b zq hb)⟩
  rcases Nat.lt_or_ge i n with hi|hi
  ·have hiI:(i:Int)<(n:Int):=by omega
   obtain⟨a,rfl,hca,_,hra⟩:=hA.1 (by omega);obtain⟨vu,vc,vn,vd,hcel,hvu,hvc,hvn,hvd⟩:=(hra i hi).keep zq hBW;obtain⟨y1,y2,y3,y4⟩:=hA.2.2.2 i hi;obtain⟨d0,d1,d2,d3,d4,d5,d6,d7,d8⟩:=hcel;have HT:Hid (Calls Tryz.prog 41 #[prov (F i) vu vc vn vd] wr λe w'=>∃v0 v1 v2 v3,e=.returned (prov (F i) v0 v1 v2 v3)/\RowUF wr.heap.size w' v0 (F i).u (F i).U/\RowWF wr.heap.size w' v1 (F i).c (F i).C/\RowIF wr.heap.size w' v2 (F i).n (F i).N/\RowMF wr.heap.size w' v3 (F i).d (F i).D/\Kb 0 wr w'):=to_proF wr (λW k=>to_upsF W (hvu.keep k) y1) (λW k=>to_valsF W (hvc.keep k) y2) (λW k=>to_inssF W (hvn.keep k) y3) (λW k=>to_namsF W (hvd.keep k) y4)
   have HS:Hid (∀w6 (v0 v1 v2 v3:Value),Kb 0 wr w6->RowUF wr.heap.size w6 v0 (F i).u (F i).U->RowWF wr.heap.size w6 v1 (F i).c (F i).C->RowIF wr.heap.size w6 v2 (F i).n (F i).N->RowMF wr.heap.size w6 v3 (F i).d (F i).D->(∀t,t<9->∃u,w6.cell? ⟨G,i*9+t,none⟩=some u)/\(∀j,w6.frozen? ⟨G,j,none⟩=false)/\∃E:Nat->List Value,Mk 9 w1 G n E (i+1) (setL w6 G (i*9) [.string (F i).x,.int .i64 (F i).l,.int .i64 (F i).m,.bool (F i).r,.int .i64 (F i).g,v0,v1,v2,v3])/\∀j,j<i+1->∃vu vc vn vd,E j=[.string (F j).x,.int .i64 (F j).l,.int .i64 (F j).m,.bool (F j).r,.int .i64 (F j).g,vu,vc,vn,vd]/\RowUF (G+1) (setL w6 G (i*9) [.string (F i).x,.int .i64 (F i).l,.int .i64 (F i).m,.bool (F i).r,.int .i64 (F i).g,v0,v1,v2,v3]) vu (F j).u (F j).U/\RowWF (G+1) (setL w6 G (i*9) [.string (F i).x,.int .i64 (F i).l,.int .i64 (F i).m,.bool (F i).r,.int .i64 (F i).g,v0,v1,v2,v3]) vc (F j).c (F j).C/\RowIF (G+1) (setL w6 G (i*9) [.string (F i).x,.int .i64 (F i).l,.int .i64 (F i).m,.bool (F i).r,.int .i64 (F i).g,v0,v1,v2,v3]) vn (F j).n (F j).N/\RowMF (G+1) (setL w6 G (i*9) [.string (F i).x,.int .i64 (F i).l,.int .i64 (F i).m,.bool (F i).r,.int .i64 (F i).g,v0,v1,v2,v3]) vd (F j).d (F j).D):=by
    show ∀w6 (v0 v1 v2 v3:Value),_;intro w6 v0 v1 v2 v3 k6 r0 r1 r2 r3;have h6:=hM.kb k6;have hgl:=Nat.lt_of_lt_of_le hM.gl hM.size;have kl:Kb (G+1) w6 (setL w6 G (i*9) [.string (F i).x,.int .i64 (F i).l,.int .i64 (F i).m,.bool (F i).r,.int .i64 (F i).g,v0,v1,v2,v3]):=⟨(setL_os _ _ _ _).1,(setL_os _ _ _ _).2,by rw[setL_size];exact Nat.le_refl _,λk h1 _=>setL_block _ _ (by omega) _ _ _⟩
    refine⟨h6.rest i (Nat.le_refl _) hi,h6.fz,_,h6.step hi rfl,λj hj=>?_⟩;by_cases e:j=i
    ·subst e;rw[if_pos rfl];exact⟨v0,v1,v2,v3,rfl,(r0.mono (by omega)).keep kl,(r1.mono (by omega)).keep kl,(r2.mono (by omega)).keep kl,(r3.mono (by omega)).keep kl⟩
    ·rw[if_neg e];obtain⟨uv,uu,un,ud,q1,q2,q3,q4,q5⟩:=hR j (by omega);exact⟨uv,uu,un,ud,q1,(q2.keep (k6.mono zq)).keep kl,(q3.keep (k6.mono zq)).keep kl,(q4.keep (k6.mono zq)).keep kl,(q5.keep (k6.mono zq)).keep kl⟩
   clear hA HA hM hR HI hra hin hBW hvu hvc hvn hvd y1 y2 y3 y4;go_wp2_with fail;refine(uh HT).mono ?_;rintro e w6 ⟨v0,v1,v2,v3,rfl,r0,r1,r2,r3,k6⟩;obtain⟨hc,hf,hT⟩:=(uh HS) w6 v0 v1 v2 v3 k6 r0 r1 r2 r3;have HTT:Hid (∃E:Nat->List Value,Mk 9 w1 G n E (i+1) (setL w6 G (i*9) [.string (F i).x,.int .i64 (F i).l,.int .i64 (F i).m,.bool (F i).r,.int .i64 (F i).g,v0,v1,v2,v3])/\∀j,j<i+1->∃vu vc vn vd,E j=[.string (F j).x,.int .i64 (F j).l,.int .i64 (F j).m,.bool (F j).r,.int .i64 (F j).g,vu,vc,vn,vd]/\RowUF (G+1) (setL w6 G (i*9) [.string (F i).x,.int .i64 (F i).l,.int .i64 (F i).m,.bool (F i).r,.int .i64 (F i).g,v0,v1,v2,v3]) vu (F j).u (F j).U/\RowWF (G+1) (setL w6 G (i*9) [.string (F i).x,.int .i64 (F i).l,.int .i64 (F i).m,.bool (F i).r,.int .i64 (F i).g,v0,v1,v2,v3]) vc (F j).c (F j).C/\RowIF (G+1) (setL w6 G (i*9) [.string (F i).x,.int .i64 (F i).l,.int .i64 (F i).m,.bool (F i).r,.int .i64 (F i).g,v0,v1,v2,v3]) vn (F j).n (F j).N/\RowMF (G+1) (setL w6 G (i*9) [.string (F i).x,.int .i64 (F i).l,.int .i64 (F i).m,.bool (F i).r,.int .i64 (F i).g,v0,v1,v2,v3]) vd (F j).d (F j).D):=hT;obtain⟨u0,h0⟩:=hc 0 (by omega);obtain⟨u1,h1⟩:=hc 1 (by omega);obtain⟨u2,h2⟩:=hc 2 (by omega);obtain⟨u3,h3⟩:=hc 3 (by omega);obtain⟨u4,h4⟩:=hc 4 (by omega);obtain⟨u5,h5⟩:=hc 5 (by omega);obtain⟨u6,h6⟩:=hc 6 (by omega);obtain⟨u7,h7⟩:=hc 7 (by omega);obtain⟨u8,h8⟩:=hc 8 (by omega);rw[Nat.add_zero]at h0;have e0:=hf (i*9);have e1:=hf (i*9+1);have e2:=hf (i*9+2);have e3:=hf (i*9+3);have e4:=hf (i*9+4);have e5:=hf (i*9+5);have e6:=hf (i*9+6);have e7:=hf (i*9+7);have e8:=hf (i*9+8);clear hc hf hT HS HT;obtain⟨p0,l0,rfl,_⟩:=id r0;obtain⟨p1,l1,rfl,_⟩:=id r1;obtain⟨p2,l2,rfl,_⟩:=id r2;obtain⟨p3,l3,rfl,_⟩:=id r3;clear k6 r0 r1 r2 r3 d0 d1 d2 d3 d4 d5 d6 d7 d8;unfold prov;go_wp2_with fail;go_roundw
   case rel=>exact⟨i+1,by go_num,by omega,HTT⟩
   case measure=>simp[intOf];omega
  ·obtain rfl:i=n:=by omega
   have HE:Hid (Mk 9 w1 G i E i wr/\(∀j,j<i->∃vu vc vn vd,E j=[.string (F j).x,.int .i64 (F j).l,.int .i64 (F j).m,.bool (F j).r,.int .i64 (F j).g,vu,vc,vn,vd]/\RowUF (G+1) wr vu (F j).u (F j).U/\RowWF (G+1) wr vc (F j).c (F j).C/\RowIF (G+1) wr vn (F j).n (F j).N/\RowMF (G+1) wr vd (F j).d (F j).D)/\Kb 0 w wr/\G=w.heap.size):=(⟨hM,hR,hBW,hA.2.2.1⟩:_/\_/\_/\_)
   clear HI hM hR hA HA hBW;go_wp2_with fail;go_ret;obtain⟨hM,hR,hB,hG⟩:=(uh HE)
   refine⟨_,rfl,⟨G,rfl,(by omega),Nat.lt_of_lt_of_le hM.gl hM.size,hM.fz,λj hj=>?_⟩,hB⟩;have hce:=hM.ce j hj;obtain⟨uv,uu,un,ud,q1,q2,q3,q4,q5⟩:=hR j hj;rw[q1]at hce;exact⟨uv,uu,un,ud,CelP.of hce,q2,q3,q4,q5⟩
structure K1 (g:Nat) (W w':World):Prop where
 os:w'.os=W.os
 output:w'.output=W.output
 size:W.heap.size<=w'.heap.size
 block:∀b,b<W.heap.size->b≠g->w'.heap[b]? =W.heap[b]?
 cell:∀j,(∃u,W.cell? ⟨g,j,none⟩=some u)->∃u,w'.cell? ⟨g,j,none⟩=some u
 fz:∀j,g<W.heap.size->w'.frozen? ⟨g,j,none⟩=W.frozen? ⟨g,j,none⟩
theorem K1.refl(g:Nat)(W:World):K1 g W W:=⟨rfl,rfl,Nat.le_refl _,λ_ _ _=>rfl,λ_ h=>h,λ_ _=>rfl⟩
theorem K1.trans{a b c:World}(h:K1 g a b)(k:K1 g b c):K1 g a c:=
 ⟨k.os.trans h.os,k.output.trans h.output,Nat.le_trans h.size k.size,λi hi hg=>(k.block i (Nat.lt_of_lt_of_le hi h.size) hg).trans (h.block i hi hg),λj hj=>k.cell j (h.cell j hj),λj hg=>(k.fz j (Nat.lt_of_lt_of_le hg h.size)).trans (h.fz j hg)⟩
theorem K1.of_kb{W w':World}(k:Kb 0 W w'):K1 g W w':=
 ⟨k.os,k.output,k.size,λb hb _=>k.block b zq hb,λj ⟨u,hu⟩=>⟨u,k.cell hu⟩,λj hg=>k.frozen zq hg⟩
theorem K1.set1(g:Nat)(W:World)(j:Nat)(v:Value):K1 g W (W.setCell ⟨g,j,none⟩ v):=by
 refine⟨rfl,rfl,by simp[World.setCell],λb _ hb=>Below.heap_setCell _ _ _ _ hb,λi ⟨u,hu⟩=>?_,λi _=>?_⟩
 ·by_cases e:i=j
  ·subst e;exact⟨v,set_eq _ _ _ _ _ hu⟩
  ·exact⟨u,by rw[set_ne _ _ _ _ _ (by omega)];exact hu⟩
 ·exact set_fz _ _ _ _ _
abbrev Gv:=Bool×Int×Int
abbrev Sv:=List Int×List Gv
def wts(r:Nat):List Int:=([[],[],[],[],[],[],[],[],[],[],[],[],[],[],[],[],[1],[2],[3],[1,1,1],[1,1],[1,0],[1],[3]]:List (List Int)).getD r []
def opd(r:Nat):Bool:=r==22||r==23
def rgt(x:Int):Int:=if x<0 then-1-x else x
structure Rs where
 T:List Int
 S:List Int
 K:List Int
def rd1(r:Nat)(x:Int)(s:Rs):Option Rs:=
 if wts r=[]then some s
 else if(s.T.drop (rgt x).toNat).take (wts r).length=wts r/\¬(x<0/\rgt x ∈ s.S)then
  some (if x<0 then⟨s.T.set (rgt x).toNat 0,s.S,s.K++[rgt x]⟩else if opd r=true then s else⟨s.T,s.S++[rgt x],s.K⟩)
 else none
def rdn (v:Iv) (T:List Int):Nat->Option Rs
 |0=>some ⟨T,[],[]⟩
 |j+1=>(rdn v T j).bind (rd1 (pr v.o.toNat j) (fld v j))
def rd(v:Iv)(T:List Int):Option Rs:=rdn v T 4
def put1(r:Nat)(x:Int)(T:List Int):List Int:=
 if r=12 then T.set x.toNat 1 else if r=13 then T.set x.toNat 2 else if r=14 then T.set x.toNat 3 else if r=15 then T.set x.toNat 0 else if r=21 then T.set (x+1).toNat 1 else T
def putn (v:Iv) (T:List Int):Nat->List Int
 |0=>T
 |j+1=>put1 (pr v.o.toNat j) (fld v j) (putn v T j)
def put(v:Iv)(T:List Int):List Int:=putn v T 4
def bx(F:Nat->Pd)(v:Iv)(T:List Int):Prop:=v.o=11->∀j,j<(F v.b.toNat).u->((F v.b.toNat).U j).1=true->T.getD ((F v.b.toNat).U j).2.toNat 0=2
def kp1(m:Int)(g:Gv):Int:=if g.1=true then max m g.2.1 else m
def kpt(G:List Gv):Int:=G.foldl kp1 0
def ctc(G:List Gv):Bool:=match G.getLast? with|some g=>g.1|none=>false
def dfr(G:List Gv):Bool:=match G.getLast? with|some g=>!g.1|none=>false
def gfit(v:Iv)(G:List Gv):Prop:=
 if v.o=32 then ctc G=true else if v.o=35\/v.o=36 then dfr G=true else if v.o=34 then dfr G=true/\kpt G<=v.a
 else if v.o=33 then G.length<50/\kpt G<=v.a else if v.o=31 then G.length<50/\kpt G<=v.b else True
def gbh(v:Iv)(G:List Gv):List Gv:=
 if v.o=31 then G++[(true,v.b,v.a)]else if v.o=33 then G++[(false,v.a,0)]
 else if v.o=34 then G.dropLast++(G.getLast?.toList.map λg=>(g.1,v.a,g.2.2))else if v.o=32\/v.o=36 then G.dropLast else G
def spr(v:Iv)(G:List Gv)(A B K:List Int):Prop:=¬(v.o=40/\v.a<kpt G)/\B.take (kpt G).toNat=A.take (kpt G).toNat/\∀k,k ∈ K->kpt G<=k
def tgt(v:Iv):Option Int:=if v.o=19\/v.o=31 then some v.a else if v.o=20\/v.o=21\/v.o=38\/v.o=39\/v.o=41 then some v.b else none
def tcl(T:List Int)(b:Int):List Int:=T.take b.toNat++1::1::List.replicate (T.length-b.toNat-2) 0
def att(v:Iv)(s:Sv)(T:List Int)(G:List Gv):Sv:=if v.o=41 then s else if v.o=31 then(tcl s.1 v.b,s.2)else(T,G)
open Classical in
noncomputable def fol(v:Iv)(i:Nat)(s:Sv)(T:List Int)(G:List Gv):List (Nat×Sv):=
 (if Ends v.o then []else [(i+1,(T,G))])++((tgt v).toList.map λt=>(t.toNat,att v s T G))
open Classical in
noncomputable def stp(F:Nat->Pd)(v:Iv)(i:Nat)(s:Sv):Nat×List (Nat×Sv):=
 if ¬bx F v s.1 then(10,[])else
 match rd v s.1 with
 |none=>(10,[])
 |some r=>
  if ¬gfit v s.2 then(11,[])else
  if ¬spr v s.2 s.1 (put v r.T) r.K then(12,[])else(0,fol v i s (put v r.T) (gbh v s.2))
inductive St
 |ok (M:Nat->Option Sv) (D:List Nat)
 |bad (c n:Nat)
def insD(D:List Nat)(x:Nat):List Nat:=D.take (D.countP (· <x))++x::D.drop (D.countP (· <x))
def upd(M:Nat->Option Sv)(x:Nat)(s:Sv):Nat->Option Sv:=λy=>if y=x then some s else M y
def adv(st:St)(x:Nat×Sv):St:=
 match st with
 |.bad c n=>.bad c n
 |.ok M D=>match M x.1 with
  |none=>.ok (upd M x.1 x.2) (insD D x.1)
  |some s=>if s=x.2 then .ok M D else .bad 13 x.1
noncomputable def nxt(F:Nat->Pd)(d:Pd)(M:Nat->Option Sv)(D:List Nat)(i:Nat)(s:Sv):St:=
 if(stp F (d.N i) i s).1=0 then(stp F (d.N i) i s).2.foldl adv (.ok M D)else .bad (stp F (d.N i) i s).1 i
noncomputable def wst(F:Nat->Pd)(d:Pd)(st:St):St:=
 match st with
 |.bad c n=>.bad c n
 |.ok M []=>.ok M []
 |.ok M (i::D)=>match M i with
  |none=>.ok M (i::D)
  |some s=>nxt F d M D i s
def t0(d:Pd):List Int:=if d.r=true then List.replicate d.m.toNat 1++3::List.replicate (d.g.toNat-d.m.toNat-1) 0 else List.replicate d.m.toNat 1++List.replicate (d.g.toNat-d.m.toNat) 0
noncomputable def wit (F:Nat->Pd) (d:Pd):Nat->St
 |0=>.ok (upd (λ_=>none) 0 (t0 d,[])) [0]
 |k+1=>wst F d (wit F d k)
def Tm(s:St):Prop:=(∃M,s=.ok M [])\/∃c n,s=.bad c n
theorem tm_fix{s:St}(h:Tm s):wst F d s=s:=by
 rcases h with⟨M,rfl⟩|⟨c,n,rfl⟩<;>rfl
theorem tm_le {F:Nat->Pd} {d:Pd} {a:Nat} (h:Tm (wit F d a)):∀k,wit F d (a+k)=wit F d a
 |0=>rfl
 |k+1=>by
  show wst F d (wit F d (a+k))=_;rw[tm_le h k,tm_fix h]
theorem tm_uniq{a b:Nat}(h:Tm (wit F d a))(k:Tm (wit F d b)):wit F d a=wit F d b:=by
 rcases Nat.le_total a b with q|q
 ·have:=tm_le h (b-a);rw[show a+(b-a)=b by omega]at this;exact this.symm
 ·have:=tm_le k (a-b);rw[show b+(a-b)=a by omega]at this;exact this
def Gok(d:Pd)(G:List Gv):Prop:=G.length<=50/\∀g,g ∈ G->0<=g.2.1/\g.2.1<=d.g
def Sok'(d:Pd)(s:Sv):Prop:=(s.1.length:Int)=d.g/\Gok d s.2
structure Inv (d:Pd) (M:Nat->Option Sv) (D:List Nat):Prop where
 so:D.Pairwise (· < ·)
 du:∀i,i ∈ D->i<d.n/\M i≠none
 st:∀i s,M i=some s->i<d.n/\Sok' d s
theorem insD_mem{y:Nat}:y ∈ insD D x↔y=x\/y ∈ D:=by
 unfold insD;rw[List.mem_append,List.mem_cons]
 conv=>rhs;rw[<-List.take_append_drop (D.countP (· <x)) D,List.mem_append]
 constructor
 ·rintro(h|rfl|h)
  ·exact .inr (.inl h)
  ·exact .inl rfl
  ·exact .inr (.inr h)
 ·rintro(rfl|h|h)
  ·exact .inr (.inl rfl)
  ·exact .inl h
  ·exact .inr (.inr h)
theorem insD_len(D:List Nat)(x:Nat):(insD D x).length=D.length+1:=by
 unfold insD;have:=congrArg List.length (List.take_append_drop (D.countP (· <x)) D);rw[List.length_append]at this;rw[List.length_append,List.length_cons];omega
theorem take_lt:∀(D:List Nat) (x:Nat),D.Pairwise (· < ·)->(∀y,y ∈ D.take (D.countP (· <x))->y<x)/\∀y,y ∈ D.drop (D.countP (· <x))->x<=y
  | [],x,_=>by simp
  |a::D,x,h=>by
    rw[List.pairwise_cons]at h;obtain⟨i1,i2⟩:=take_lt D x h.2;by_cases q:a<x
    · rw[List.countP_cons_of_pos (by simpa using q)];refine⟨λy hy=>?_,λy hy=>i2 y (by simpa using hy)⟩;simp only[List.take_succ_cons,List.mem_cons]at hy;rcases hy with rfl|hy
      · exact q
      · exact i1 y hy
    · have e : D.countP (· < x) = 0 := by
        rw[List.countP_eq_zero];intro y hy;have:=h.1 y hy
        simp;omega
      rw[List.countP_cons_of_neg (by simpa using q),e];refine⟨λy hy=>by simp at hy,λy hy=>?_⟩;simp only[List.drop_zero,List.mem_cons]at hy;rcases hy with rfl|hy
      · omega
      · have:=h.1 y hy;omega
theorem insD_so(h:D.Pairwise (· < ·))(hx:x ∉ D):(insD D x).Pairwise (· < ·):=by
 obtain⟨i1,i2⟩:=take_lt D x h;unfold insD;rw[List.pairwise_append,List.pairwise_cons]
 have hd:∀y,y ∈ D.drop (D.countP (· <x))->x<y:=λy hy=>by
  have h1:=i2 y hy;have h2:y≠x:=λe=>hx (by rw[<-e];exact List.mem_of_mem_drop hy);omega
 refine⟨h.sublist (List.take_sublist _ _),⟨hd,h.sublist (List.drop_sublist _ _)⟩,λa ha b hb=>?_⟩;have h1:=i1 a ha;rw[List.mem_cons]at hb;rcases hb with rfl|hb
 ·exact h1
 ·have:=hd b hb;omega
def SOk(d:Pd)(st:St):Prop:=match st with|.ok M D=>Inv d M D|.bad _ _=>True
theorem adv_ok{st:St}{x:Nat×Sv}(h:SOk d st)(hx:x.1<d.n/\Sok' d x.2):SOk d (adv st x):=by
 cases st with
 |bad c n=>trivial
 |ok M D=>
  have h:Inv d M D:=h;unfold adv;dsimp only;cases hm:M x.1 with
  |some s=>
   dsimp only;by_cases e:s=x.2
   ·rw[if_pos e];exact h
   ·rw[if_neg e];trivial
  |none=>
   dsimp only;have hn:x.1 ∉ D:=λq=>(h.du _ q).2 hm;refine⟨insD_so h.so hn,λi hi=>?_,λi s hs=>?_⟩
   ·rw[insD_mem]at hi;unfold upd;by_cases e:i=x.1
    ·rw[if_pos e];exact⟨by rw[e];exact hx.1,by simp⟩
    ·rw[if_neg e];exact h.du i (hi.resolve_left e)
   ·unfold upd at hs;by_cases e:i=x.1
    ·rw[if_pos e]at hs;cases hs;exact⟨by rw[e];exact hx.1,hx.2⟩
    ·rw[if_neg e]at hs;exact h.st i s hs
theorem fold_ok {d:Pd}:∀(l:List (Nat×Sv)) (st:St),SOk d st->(∀x,x ∈ l->x.1<d.n/\Sok' d x.2)->SOk d (l.foldl adv st)
 | [],st,h,_=>h
 |x::l,st,h,hl=>fold_ok l (adv st x) (adv_ok h (hl x (List.mem_cons_self ..))) (λy hy=>hl y (List.mem_cons_of_mem _ hy))
