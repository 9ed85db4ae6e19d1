import Derived.Test.YtkhdehngobkkfaaGreatDoorAPud
set_option maxRecDepth 100000
set_option maxHeartbeats 16000000
namespace Go.Proofs.YtkhdehngobkkfaaGreatDoor.Fo
open Go.ChangeShapes Go.WideShapes Go.ChangeAt Go.RowKit
set_option linter.unusedVariables false
variable {w W w2 a b:World}{c:Addr}{n cf q i:Nat}{x:Int}{F:Nat->Gv}{v nv v':Value}{K:Nat->Int}{A:Nat->Value}{S:Nat->Prop}{f:FuncId}
def lenOf:Value->Nat
 |.slice _ n _=>n
 |_=>0
structure Pq (w:World) (c:Addr) (n cf:Nat) (x:Int) (F:Nat->Gv) (pre:List Nat) (v:Value) (nv:Value) (q:Nat) (K:Nat->Int) (W:World):Prop where
 kz:Kz w W
 ct:W.cell? ⟨w.heap.size,0,none⟩=some (.slice (some c) n cf)
 ca:W.cell? ⟨w.heap.size+1,0,none⟩=some (.int .i64 x)
 row:W.ownsRow (w.heap.size+2) 3 1 v pre.length (pv pre)
 nx:∀W':World,(∀k,k<W.heap.size->some k≠v.ownBlock->W'.heap[k]? =W.heap[k]?)->RowV W' nv q (λi=>.int .i64 (K i))
theorem Pq.shape{pre:List Nat}(h:Pq w c n cf x F pre v nv q K W):∃(ad:Option Addr) (cap:Nat),v=.slice ad pre.length cap:=by
 rcases h.row.2 with⟨rfl,e⟩|⟨g,cap,cur,rfl,_⟩
 ·exact⟨none,0,by rw[show pre.length=0 from e]⟩
 ·exact⟨_,cap,rfl⟩
theorem Pq.drew{pre:List Nat}(h:Pq w c n cf x F pre v nv q K W)(d:Nat):Pq w c n cf x F pre v nv q K (W.drewN d):=⟨h.kz.drewN d,h.ct,h.ca,h.row,h.nx⟩
theorem Pq.step{pre:List Nat}{o:Obj}(h:Pq w c n cf x F pre v nv q K W)(ho:w2.ownsRow (w.heap.size+2) 3 1 v' (pre.length+1) (pv pre++[.int .i64 (i:Int)]))(hg:(W.alloc o).grownBy w2 v.ownBlock):
  Kz w w2/\w2.cell? ⟨w.heap.size,0,none⟩=some (.slice (some c) n cf)/\w2.cell? ⟨w.heap.size+1,0,none⟩=some (.int .i64 x)/\RowV w2 nv q (λi=>.int .i64 (K i))/\w2.ownsRow (w.heap.size+2) 3 1 v' (pre++[i]).length (pv (pre++[i])):=by
 have hl:=lt_of_cell h.ca;have hsz:=h.kz.size;have hs2:=hg.size;simp at hs2;have hk:∀k,k<W.heap.size->some k≠v.ownBlock->w2.heap[k]? =W.heap[k]?:=λk h1 h2=>(hg.block k (by simp;omega) h2).trans (Below.heap_alloc _ _ _ h1);have hlow:∀k,k<w.heap.size+2->w2.heap[k]? =W.heap[k]?:=λk h1=>hk k (by omega) (λe=>by have:=(h.row.lt k e.symm).1;omega);refine⟨⟨hg.os.trans h.kz.os,hg.output.trans h.kz.output,by omega,λk h1=>(hlow k (by omega)).trans (h.kz.block k h1)⟩,(World.cell?_of_block (hlow w.heap.size (by omega))).trans h.ct,(World.cell?_of_block (hlow (w.heap.size+1) (by omega))).trans h.ca,h.nx w2 hk,?_⟩;have e:pv (pre++[i])=pv pre++[.int .i64 i]:=by simp[pv]
 rw[e,List.length_append];exact ho
theorem rowv_blk{W':World}(h:RowV w v n A)(hb:∀k,k<w.heap.size->W'.heap[k]? =w.heap[k]?):RowV W' v n A:=by
 obtain⟨pa,cap,h1,h2⟩:=h;refine⟨pa,cap,h1,λhn=>?_⟩;obtain⟨a,ha,hc,hr⟩:=h2 hn;exact⟨a,ha,hc,λi hi=>(World.cell?_of_block (hb _ (lt_of_cell' (hr i hi)))).trans (hr i hi)⟩
theorem Pq.next{pre:List Nat}(kz:Kz w w2)(ct:w2.cell? ⟨w.heap.size,0,none⟩=some (.slice (some c) n cf))(ca:w2.cell? ⟨w.heap.size+1,0,none⟩=some (.int .i64 x))(row:w2.ownsRow (w.heap.size+2) 3 1 v' pre.length (pv pre))(hr:RowV w nv q (λi=>.int .i64 (K i)))(d:Nat):Pq w c n cf x F pre v' nv q K (w2.drewN d):=
 ⟨kz.drewN d,ct,ca,row,λW' hW'=>rowv_blk hr (λk hk=>(hW' k (Nat.lt_of_lt_of_le hk kz.size) (λe=>by have:=(row.lt k e.symm).1;omega)).trans (kz.block k hk))⟩
theorem first_or(Q:Nat->Prop):∀n,(∃i,i<n/\(∀j,j<i->Q j)/\¬Q i)\/∀j,j<n->Q j:=by
 intro n
 induction n with
 |zero=>exact .inr (λj hj=>by omega)
 |succ n ih=>
  rcases ih with⟨i,h1,h2⟩|h
  ·exact .inl ⟨i,by omega,h2⟩
  ·rcases Classical.em (Q n)with g|g
   ·refine .inr (λj hj=>?_);by_cases e:j=n
    ·rw[e];exact g
    ·exact h j (by omega)
   ·exact .inl ⟨n,by omega,h,g⟩
theorem fl_ex2(F:Nat->Gv)(n:Nat):∃c f,Fl nmp flp F n c f:=by
 by_cases h0:n=0\/3000<n\/(0<n/\(F (n-1)).a.k≠1)
 ·exact⟨_,_,.none0 h0⟩
 ·have a1:0<n:=by omega
  have a2:n<=3000:=by omega
  have a3:(F (n-1)).a.k=1:=by
   rcases Classical.em ((F (n-1)).a.k=1)with e|e
   ·exact e
   ·exact absurd (Or.inr (Or.inr ⟨a1,e⟩)) h0
  rcases first_or (ndk nmp flp F) n with⟨i,b1,b2,b3⟩|b
  ·exact⟨_,_,.shape i a1 a2 a3 b1 b2 b3⟩
  ·rcases first_or (λk=>szl F n k≠0) n with⟨i,c1,c2,c3⟩|c
   ·exact⟨_,_,.order i a1 a2 a3 b c1 c2 (Classical.not_not.1 c3)⟩
   ·by_cases d:szl F n (n-1)=(n:Int)
    ·rcases first_or (λk=>dpr F n n k<=100) n with⟨i,e1,e2,e3⟩|e
     ·exact⟨_,_,.depth i a1 a2 a3 b c d e1 e2 (by omega)⟩
     ·exact⟨_,_,.sound a1 a2 a3 b c d e⟩
    ·exact⟨_,_,.whole a1 a2 a3 b c d⟩
structure Ky (S:Nat->Prop) (a w:World):Prop where
 os:w.os=a.os
 output:w.output=a.output
 size:a.heap.size<=w.heap.size
 block:∀k,k<a.heap.size->¬S k->w.heap[k]? =a.heap[k]?
theorem Ky.trans{c:World}(h:Ky S a b)(k:Ky S b c):Ky S a c:=⟨k.os.trans h.os,k.output.trans h.output,Nat.le_trans h.size k.size,λi hi hn=>(k.block i (Nat.lt_of_lt_of_le hi h.size) hn).trans (h.block i hi hn)⟩
theorem Ky.kz(h:Kz w a)(k:Ky S a b)(hs:∀i,S i->w.heap.size<=i):Kz w b:=⟨k.os.trans h.os,k.output.trans h.output,Nat.le_trans h.size k.size,λi hi=>(k.block i (Nat.lt_of_lt_of_le hi h.size) (λf=>by have:=hs i f;omega)).trans (h.block i hi)⟩
theorem Ky.cell(h:Ky S a w){b o:Nat}(hc:a.cell? ⟨b,o,none⟩=some v)(hs:¬S b):w.cell? ⟨b,o,none⟩=some v:=(World.cell?_of_block (h.block b (lt_of_cell hc) hs)).trans hc
theorem Ky.own(h:Ky S a w){g:Nat}(ho:OwnR a v g n A)(hs:0<n->¬S g):OwnR w v g n A:=
 ho.block (λhn=>h.block g (lt_of_cell (ho.cell 0 hn)) (hs hn))
structure En where
 x:ByteArray
 l:Int
 d:Int
 i:Nat
def ec(e:En):List Value:=[.string e.x,.int .i64 e.l,.int .i64 e.d,.int .i64 e.i]
def hnm(f:Gv):ByteArray:=if f.a.k=4 then f.A 0 else ByteArray.empty
def hdp(f:Gv)(d:Int):Int:=if f.a.k=36 then d+1 else d
def hd(f:Gv)(i:Nat)(x:ByteArray)(d:Int):List En:=if f.a.k=36 then [⟨x,f.a.l,d,i⟩]else []
def olk (g:Nat->List En) (K:Nat->Int):Nat->List En
 |0=>[]
 |j+1=>olk g K j++g (K j).toNat
def ol (F:Nat->Gv):Nat->Nat->ByteArray->Int->List En
 |0,_,_,_=>[]
 |b+1,i,x,d=>hd (F i) i x d++olk (λk=>ol F b k (hnm (F i)) (hdp (F i) d)) (F i).K (F i).q
def Of(F:Nat->Gv)(n:Nat)(P:List En):Prop:=(∃c f,Fl nmp flp F n c f/\c≠0/\P=[])\/(∃f,Fl nmp flp F n 0 f/\P=ol F n (n-1) ByteArray.empty 0)
theorem Of.uniq{P Q:List En}(h:Of F n P)(h':Of F n Q):P=Q:=by
 rcases h with⟨c,f,a,b,rfl⟩|⟨f,a,rfl⟩
 ·rcases h' with⟨_,_,_,_,rfl⟩|⟨f',a',b'⟩
  ·rfl
  ·exact absurd (Fl.uniq a a').1 b
 ·rcases h' with⟨c',f',a',b',rfl⟩|⟨f',a',rfl⟩
  ·exact absurd (Fl.uniq a' a).1 b'
  ·rfl
theorem two_ends{P:Program}{args:Array Value}{R R':Value->World->Prop}
  (h:Calls P f args w fun|.returned v,w'=>R v w'|_,_=>False) (h':Calls P f args w fun|.returned v,w'=>R' v w'|_,_=>False) (hi:P.inits.idxOf? f=none):
  ∃v w',R v w'/\R' v w':=by
 obtain⟨n,v,w1,e1,r1⟩:=h.done hi;obtain⟨m,v',w2,e2,r2⟩:=h'.done hi;have a:=runN_ended e1 m;have b:=runN_ended e2 n;rw[Nat.add_comm,a]at b
 injection b with ho hw
 injection ho with hv
 subst hv hw;exact⟨_,_,r1,r2⟩
theorem one_bool{x:ByteArray}{z:Bool}(w:World)(h1:Calls Tryz.prog f #[.string x] w λe w'=>e=.returned (.bool z)/\Below w.heap.size w w')(h2:Calls Tryz.prog f #[.string x] w λe w'=>e=.returned (.bool false)/\Below w.heap.size w w')(hi:Tryz.prog.inits.idxOf? f=none):z=false:=by
 obtain⟨v,w',r1,r2⟩:=two_ends (R:=λv _=>v=.bool z) (R':=λv _=>v=.bool false) (h1.mono λe w' ⟨he,_⟩=>by subst he;rfl) (h2.mono λe w' ⟨he,_⟩=>by subst he;rfl) hi;rw[r1]at r2;exact Value.bool.inj r2
theorem nm_40(w:World)(x:ByteArray)(h:nmp x):x.size<=40:=by
 rcases Nat.lt_or_ge 40 x.size with h1|h1
 ·have:=one_bool w (nm_s x w) (name_ok_big x (by omega) w) (by kernel_rfl);rw[dc_t h]at this;cases this
 ·exact h1
theorem fl_40(w:World)(x:ByteArray)(h:flp x):x.size<=40:=by
 rcases Nat.lt_or_ge 40 x.size with h1|h1
 ·have:=one_bool w (fl_s x w) (flt_ok_big x (by omega) w) (by kernel_rfl);rw[dc_t h]at this;cases this
 ·exact h1
theorem rwk_200(k:Int)(q:Nat):(rwk k q).kh<=200/\(rwk k q).nh<=200:=by
 unfold rwk;split<;>simp
def Rg(a:Fv):Prop:=∀n ∈ its a,-9223372036854775808<=n/\n<=9223372036854775807
theorem lk_of(w:World)(hr:Rg (F i).a)(h:ndk nmp flp F i)(hi:i<=3000):Lk (F i).a (F i).p (F i).A (F i).q (F i).K:=by
 have hm:=hr (F i).a.m (by simp[its]);obtain⟨_,ha,hk⟩:=(ndk_iff hm).1 h;obtain⟨_,hq,_,_,hx,hp,hA⟩:=ha;obtain⟨h1,h2⟩:=rwk_200 (F i).a.k (F i).q;refine⟨hr,?_,by omega,λj hj=>Nat.le_trans (nm_40 w _ (hA j hj)) (by omega),by omega,λj hj=>by have:=hk j hj;omega⟩;unfold txo at hx;split at hx
 ·rw[hx];decide
 ·split at hx
  ·exact Nat.le_trans (nm_40 w _ hx) (by omega)
  ·split at hx
   ·exact Nat.le_trans (fl_40 w _ hx) (by omega)
   ·exact hx
def dmp(F:Nat->Gv)(i:Nat):List UInt8:=((List.range i).map λj=>dln (F j).a (F j).p (F j).A (F j).q (F j).K).flatten
def Dmp(F:Nat->Gv)(n:Nat)(T:ByteArray):Prop:=(∃c f,Fl nmp flp F n c f/\c≠0/\T=⟨#[]⟩)\/(∃f,Fl nmp flp F n 0 f/\T=⟨(dmp F n).toArray⟩)
end Go.Proofs.YtkhdehngobkkfaaGreatDoor.Fo
namespace Go.Proofs.YtkhdehngobkkfaaGreatDoor.Fo
open Go.ChangeShapes Go.WideShapes Go.ChangeAt Go.RowKit
set_option linter.unusedVariables false
set_option maxRecDepth 100000
variable {w W w1:World}{b t cn ck g j p n cf i:Nat}{pn pk:Option Addr}{fs v:Value}{l T U X:List UInt8}{G:Gv}{ts us:Nat->List UInt8}{A:Nat->ByteArray}{cd:Addr}{F:Nat->Gv}{K:Nat->Int}
structure Fq (w:World) (b:Nat) (fs:Value) (t:Nat) (l:List UInt8) (W:World) (g:Nat) (G:Gv) (pn:Option Addr) (cn:Nat) (pk:Option Addr) (ck:Nat) (T:List UInt8) (wr:World):Prop where
 q:Wq w b fs t (l++T) wr
 o:Lib.OthersKept 5 (some b) W wr
 c:wr.heap[g]? =some (.cells #[.int .i64 G.a.k,.int .i64 G.a.f,.int .i64 G.a.t,.int .i64 G.a.l,.int .i64 G.a.o,.int .i64 G.a.m,.string G.a.x,.slice pn G.p cn,.slice pk G.q ck] 44 (0,0))
 gb:g≠b
 rn:RowV w (.slice pn G.p cn) G.p (λj=>.string (G.A j))
 rk:RowV w (.slice pk G.q ck) G.q (λj=>.int .i64 (G.K j))
theorem Fq.start(h:Wq w b fs t l W)(rn:RowV w (.slice pn G.p cn) G.p (λj=>.string (G.A j)))(rk:RowV w (.slice pk G.q ck) G.q (λj=>.int .i64 (G.K j))):∃V g,W.alloc (.cells #[.int .i64 G.a.k,.int .i64 G.a.f,.int .i64 G.a.t,.int .i64 G.a.l,.int .i64 G.a.o,.int .i64 G.a.m,.string G.a.x,.slice pn G.p cn,.slice pk G.q ck] 44)=V/\W.heap.size=g/\Hid (Fq w b fs t l W g G pn cn pk ck [] V):=
 ⟨_,_,rfl,rfl,⟨by rw[List.append_nil];exact h.call (bel1 W _),(Lib.OthersKept.refl _ _ _).alloc _,alloc_at W _ _,Nat.ne_of_gt h.lt,rn,rk⟩⟩
theorem Fq.keep{wr:World}{w':World}(h:Fq w b fs t l W g G pn cn pk ck T wr)(h2:Wq w b fs t (l++T++U) w')(o2:Lib.OthersKept 5 (some b) wr w'):Fq w b fs t l W g G pn cn pk ck (T++U) w':=
 ⟨by rw[<-List.append_assoc];exact h2,h.o.trans o2,o2 g _ h.c (by simpa using h.gb) (λc fz e=>by injection e with _ e2;revert e2;decide),h.gb,h.rn,h.rk⟩
theorem Fq.callz{wr:World}(h:Hid (Fq w b fs t l W g G pn cn pk ck T wr))(hb:Kz wr w1):Hid (Fq w b fs t l W g G pn cn pk ck T w1):=by
 have h:=un h;have:=h.keep (U:=[]) (by rw[List.append_nil];exact h.q.callz hb) (λk o hk _ _=>(hb.block k (Array.getElem?_eq_some_iff.1 hk).1).trans hk);rw[List.append_nil]at this;exact this
theorem Fq.call{wr:World}(h:Hid (Fq w b fs t l W g G pn cn pk ck T wr))(hb:Below wr.heap.size wr w1):Hid (Fq w b fs t l W g G pn cn pk ck T w1):=Fq.callz h (.of_below hb)
theorem Fq.step{wr:World}{f:Nat}{args:Array Value}(h:Hid (Fq w b fs t l W g G pn cn pk ck T wr))(H:Cq w b fs t f args U):Calls Tryz.prog f args wr λe w'=>e=.returned (.tuple #[])/\Hid (Fq w b fs t l W g G pn cn pk ck (T++U) w'):=by
 refine(H _ wr (un h).q).mono ?_;rintro e w' ⟨rfl,h2,o2⟩;exact⟨rfl,(un h).keep h2 o2⟩
theorem Fq.cs{wr:World}(h:Hid (Fq w b fs t l W g G pn cn pk ck T wr)):wr.cell? ⟨g,0,none⟩=some (.int .i64 G.a.k)/\wr.cell? ⟨g,1,none⟩=some (.int .i64 G.a.f)/\wr.cell? ⟨g,2,none⟩=some (.int .i64 G.a.t)/\wr.cell? ⟨g,3,none⟩=some (.int .i64 G.a.l)/\wr.cell? ⟨g,4,none⟩=some (.int .i64 G.a.o)/\wr.cell? ⟨g,5,none⟩=some (.int .i64 G.a.m)/\wr.cell? ⟨g,6,none⟩=some (.string G.a.x)/\wr.cell? ⟨g,7,none⟩=some (.slice pn G.p cn)/\wr.cell? ⟨g,8,none⟩=some (.slice pk G.q ck):=by
 have hc:=(un h).c;exact⟨cell_of hc rfl,cell_of hc rfl,cell_of hc rfl,cell_of hc rfl,cell_of hc rfl,cell_of hc rfl,cell_of hc rfl,cell_of hc rfl,cell_of hc rfl⟩
theorem Fq.done{wr:World}(h:Hid (Fq w b fs t l W g G pn cn pk ck T wr))(e:T=U):Wq w b fs t (l++U) wr/\Lib.OthersKept 5 (some b) W wr:=⟨by rw[<-e];exact(un h).q,(un h).o⟩
theorem Fq.kid{wr:World}(h:Hid (Fq w b fs t l W g G pn cn pk ck T wr))(hj:j<G.q):∃ad,pk=some ad/\G.q<=ck/\wr.cell? (ad.add j)=some (.int .i64 (G.K j)):=by
 obtain⟨_,_,e,h2⟩:=(un h).rk;obtain⟨rfl,-,rfl⟩:=(Value.slice.injEq _ _ _ _ _ _).mp e;obtain⟨ad,e2,hc,hx⟩:=h2 (by omega);exact⟨ad,e2,hc,((un h).q.bel.cell (lt_of_cell' (hx j hj))).trans (hx j hj)⟩
theorem Fq.nam{wr:World}(h:Hid (Fq w b fs t l W g G pn cn pk ck T wr))(hj:j<G.p):∃ad,pn=some ad/\G.p<=cn/\wr.cell? (ad.add j)=some (.string (G.A j)):=by
 obtain⟨_,_,e,h2⟩:=(un h).rn;obtain⟨rfl,-,rfl⟩:=(Value.slice.injEq _ _ _ _ _ _).mp e;obtain⟨ad,e2,hc,hx⟩:=h2 (by omega);exact⟨ad,e2,hc,((un h).q.bel.cell (lt_of_cell' (hx j hj))).trans (hx j hj)⟩
theorem Fq.say1{wr:World}(h:Hid (Fq w b fs t l W g G pn cn pk ck T wr))(x:ByteArray)(hx:x.size<=1000000000)(ty:Nat)(hT:ty≠5):Calls Tryz.prog 30 #[.pointer (some ⟨b,0,none⟩),.slice (some ⟨wr.heap.size,0,none⟩) 1 1] (wr.alloc (.cells #[.string x] ty)) λe w'=>e=.returned (.tuple #[])/\Hid (Fq w b fs t l W g G pn cn pk ck (T++byt x) w'):=by
 have:Calls Tryz.prog 30 #[.pointer (some ⟨b,0,none⟩),.slice (some ⟨wr.heap.size,0,none⟩) 1 1] (wr.alloc (.cells #[.string x] ty)) λe w'=>e=.returned (.tuple #[])/\Hid (Fq w b fs t l W g G pn cn pk ck (T++fl [x]) w'):=by
  refine(pt_say w b fs t [x] (by simp[hx]) (by simp) (un h).q 1 ty hT).mono ?_;rintro e w' ⟨rfl,h2,o2⟩;exact⟨rfl,(un h).keep h2 o2⟩
 rw[fl_1]at this;exact this
theorem Fq.say2{wr:World}(h:Hid (Fq w b fs t l W g G pn cn pk ck T wr))(x y:ByteArray)(hx:x.size<=1000000000)(hy:y.size<=1000000000)(ty:Nat)(hT:ty≠5):Calls Tryz.prog 30 #[.pointer (some ⟨b,0,none⟩),.slice (some ⟨wr.heap.size,0,none⟩) 2 2] (wr.alloc (.cells #[.string x,.string y] ty)) λe w'=>e=.returned (.tuple #[])/\Hid (Fq w b fs t l W g G pn cn pk ck (T++byt x++byt y) w'):=by
 have:Calls Tryz.prog 30 #[.pointer (some ⟨b,0,none⟩),.slice (some ⟨wr.heap.size,0,none⟩) 2 2] (wr.alloc (.cells #[.string x,.string y] ty)) λe w'=>e=.returned (.tuple #[])/\Hid (Fq w b fs t l W g G pn cn pk ck (T++fl [x,y]) w'):=by
  refine(pt_say w b fs t [x,y] (by simp[hx,hy]) (by simp) (un h).q 2 ty hT).mono ?_;rintro e w' ⟨rfl,h2,o2⟩;exact⟨rfl,(un h).keep h2 o2⟩
 rw[show fl [x,y]=byt x++byt y by unfold fl;simp,<-List.append_assoc]at this;exact this
theorem Fq.say3{wr:World}(h:Hid (Fq w b fs t l W g G pn cn pk ck T wr))(x y z:ByteArray)(hx:x.size<=1000000000)(hy:y.size<=1000000000)(hz:z.size<=1000000000)(ty:Nat)(hT:ty≠5):Calls Tryz.prog 30 #[.pointer (some ⟨b,0,none⟩),.slice (some ⟨wr.heap.size,0,none⟩) 3 3] (wr.alloc (.cells #[.string x,.string y,.string z] ty)) λe w'=>e=.returned (.tuple #[])/\Hid (Fq w b fs t l W g G pn cn pk ck (T++byt x++byt y++byt z) w'):=by
 have:Calls Tryz.prog 30 #[.pointer (some ⟨b,0,none⟩),.slice (some ⟨wr.heap.size,0,none⟩) 3 3] (wr.alloc (.cells #[.string x,.string y,.string z] ty)) λe w'=>e=.returned (.tuple #[])/\Hid (Fq w b fs t l W g G pn cn pk ck (T++fl [x,y,z]) w'):=by
  refine(pt_say w b fs t [x,y,z] (by simp[hx,hy,hz]) (by simp) (un h).q 3 ty hT).mono ?_;rintro e w' ⟨rfl,h2,o2⟩;exact⟨rfl,(un h).keep h2 o2⟩
 rw[show fl [x,y,z]=byt x++byt y++byt z by unfold fl;simp,<-List.append_assoc,<-List.append_assoc]at this;exact this
theorem jn_cmj(A:Nat->ByteArray)(p:Nat):Lib.join ((lsb A p).map (·.data.toList)) [44,32]=cmj (λj=>byt (A j)) p:=by
 have hj:∀p,Lib.joinTail [44,32] ((lsb (λj=>A (j+1)) p).map (·.data.toList))=(List.range p).flatMap (λj=>44::32::byt (A (j+1))):=λp=>by
  unfold Lib.joinTail lsb;simp[List.flatMap,byt];rfl
 have hc:∀p,cmj (λj=>byt (A j)) (p+1)=byt (A 0)++(List.range p).flatMap (λj=>44::32::byt (A (j+1))):=λp=>by
  induction p with
  |zero=>simp[cmj]
  |succ p ih=>
   show cmj (λj=>byt (A j)) (p+1)++(if p+1=0 then []else [44,32])++byt (A (p+1))=_;rw[ih,if_neg (by omega),List.range_succ]
   simp
 cases p with
 |zero=>rfl
 |succ p=>
  rw[hc,<-hj p]
  have e:lsb A (p+1)=A 0::lsb (λj=>A (j+1)) p:=by
   unfold lsb;rw[List.range_succ_eq_map]
   simp
  rw[e,List.map_cons,Lib.join_cons];rfl
theorem cmj_lq{B:Nat}(p:Nat)(h:∀j,j<p->(ts j).length<=B):(cmj ts p).length<=p*(B+2):=by
 induction p with
 |zero=>simp[cmj]
 |succ p ih=>
  have h1:=h p (by omega);have h2:=ih (λj hj=>h j (by omega));have h3:(if p=0 then([]:List UInt8)else [44,32]).length<=2:=by split<;>simp
  show(cmj ts p++(if p=0 then []else [44,32])++ts p).length<=_;rw[List.length_append,List.length_append,Nat.add_mul];omega
theorem im_jn(hr:RowV w (.slice pn p cn) p (λj=>.string (A j)))(hp:p<=1000)(hA:∀j,j<p->(A j).size<=4000):
  Calls Tryz.prog 59 #[.slice pn p cn,.string ⟨#[44,32]⟩] w λe w'=>∃s,e=.returned (.string s)/\byt s=cmj (λj=>byt (A j)) p/\s.size<=1000000000/\Below w.heap.size w w':=by
 by_cases h0:p=0
 ·subst h0;refine(Any.strings_Join_none laysJ extraJ pn cn ⟨#[44,32]⟩ w).mono ?_;rintro e w' ⟨rfl,rfl⟩;exact⟨_,rfl,rfl,by decide,Below.refl _ _⟩
 ·obtain⟨_,_,e,h2⟩:=hr;obtain⟨rfl,-,rfl⟩:=(Value.slice.injEq _ _ _ _ _ _).mp e;obtain⟨⟨bk,o,sp⟩,rfl,hc,hx⟩:=h2 (by omega);have hx0:=hx 0 (by omega);rw[add_z]at hx0
  have hsp:sp=none:=by
   cases sp with
   |none=>rfl
   |some k=>unfold World.cell? at hx0;split at hx0<;>simp at hx0
  subst hsp
  have hl:(cmj (λj=>byt (A j)) p).length<=1000000000:=by
   have h1:=cmj_lq (ts:=λj=>byt (A j)) (B:=4000) p (λj hj=>by show(byt (A j)).length<=_;rw[byt_len];exact hA j hj);have h2:=Nat.mul_le_mul_right (4000+2) hp;omega
  have h:=Any.strings_Join laysJ extraJ bk o cn (lsb A p) ⟨#[44,32]⟩ w (λj x hj=>by
   obtain⟨hj1,hj2⟩:=List.getElem?_eq_some_iff.1 hj;rw[lsb_len]at hj1;have e:x=A j:=by rw[<-hj2];simp[lsb]
   have:=hx j hj1;rw[e];refine Eq.trans ?_ this;unfold Addr.add;split
   ·next e=>rw[e];rfl
   ·rfl) (lt_of_cell hx0) (by rw[lsb_len];omega) (by rw[lsb_len];exact hc) (by rw[show(⟨#[44,32]⟩:ByteArray).data.toList=[44,32]from rfl,jn_cmj];omega)
  rw[lsb_len]at h;refine Calls.mono h ?_;rintro e w' ⟨rfl,hb⟩;rw[show(⟨#[44,32]⟩:ByteArray).data.toList=[44,32]from rfl,jn_cmj];exact⟨_,rfl,byt_mk _,by show(cmj (λj=>byt (A j)) p).toArray.size<=_;simpa using hl,hb⟩
def Q1(w:World)(b:Nat)(cd:Addr)(n cf t f:Nat)(a:Value)(T:List UInt8):Prop:=Cq w b (.slice (some cd) n cf) t f #[.pointer (some ⟨b,0,none⟩),a] T
def QL(w:World)(b:Nat)(cd:Addr)(n cf:Nat)(F:Nat->Gv)(t:Nat)(K:Nat->Int)(p:Nat)(ts:Nat->List UInt8):Prop:=n<=cf/\n<=3000/\p<=1048576/\∀j,j<p->∃ki:Nat,K j=(ki:Int)/\Qe w b cd n cf F t ki (ts j)
def Qv(w:World)(b:Nat)(cd:Addr)(n cf:Nat)(F:Nat->Gv)(t f i:Nat)(T:List UInt8):Prop:=∀pn cn pk ck,RowV w (.slice pn (F i).p cn) (F i).p (λj=>.string ((F i).A j))->RowV w (.slice pk (F i).q ck) (F i).q (λj=>.int .i64 ((F i).K j))->Q1 w b cd n cf t f (fmv (F i).a (.slice pn (F i).p cn) (.slice pk (F i).q ck)) T
theorem Fq.open(h:Wq w b (.slice (some cd) n cf) t l W)(A:Am w n cf cd F i):∃pn cn pk ck V g,W.alloc (.cells #[.int .i64 (F i).a.k,.int .i64 (F i).a.f,.int .i64 (F i).a.t,.int .i64 (F i).a.l,.int .i64 (F i).a.o,.int .i64 (F i).a.m,.string (F i).a.x,.slice pn (F i).p cn,.slice pk (F i).q ck] 44)=V/\W.heap.size=g/\Hid (Fq w b (.slice (some cd) n cf) t l W g (F i) pn cn pk ck [] V)/\W.cell? ⟨b,0,none⟩=some (.slice (some cd) n cf)/\Cel9 W (cd.add (i*9)) (F i).a (.slice pn (F i).p cn) (.slice pk (F i).q ck)/\(i:Int)<(n:Int)/\(n:Int)<=3000:=by
 obtain⟨pn,cn,pk,ck,h9,rn,rk,-⟩:=A.get;obtain⟨V,g,h1,h2,h3⟩:=Fq.start h rn rk;have:=A.hi;have:=A.hn;exact⟨pn,cn,pk,ck,V,g,h1,h2,h3,h.frm,h9.kz h.bel,by omega,by omega⟩
theorem QL.go(h:QL w b cd n cf F t K p ts)(hr:RowV w v p (λi=>.int .i64 (K i))):Cq w b (.slice (some cd) n cf) t 62 #[.pointer (some ⟨b,0,none⟩),v] (cmj ts p):=qx_list w b cd n cf F t h.1 h.2.1 hr h.2.2.1 h.2.2.2
theorem Fq.list{wr:World}(h:Hid (Fq w b (.slice (some cd) n cf) t l W g G pn cn pk ck T wr))(H:Hid (QL w b cd n cf F t G.K G.q ts)):Calls Tryz.prog 62 #[.pointer (some ⟨b,0,none⟩),.slice pk G.q ck] wr λe w'=>e=.returned (.tuple #[])/\Hid (Fq w b (.slice (some cd) n cf) t l W g G pn cn pk ck (T++cmj ts G.q) w'):=Fq.step h ((un H).go (un h).rk)
def bhx(o:ByteArray)(ts:Nat->List UInt8)(q:Nat):List UInt8:=if q=0 then []else byt o++cmj ts q
theorem qx_beh(hr:RowV w (.slice pk p ck) p (λj=>.int .i64 (K j)))(H:QL w b cd n cf F t K p ts)(o:ByteArray)(ho:o.size<=1000000000):Cq w b (.slice (some cd) n cf) t 60 #[.pointer (some ⟨b,0,none⟩),.string o,.slice pk p ck] (bhx o ts p):=by
 unfold bhx;by_cases h0:p=0
 ·subst h0;exact qx_beh0 w b _ t o
 ·rw[if_neg h0];exact qx_beh1 w b _ t o ho (by omega) (H.go hr)
theorem Fq.beh{wr:World}(h:Hid (Fq w b (.slice (some cd) n cf) t l W g G pn cn pk ck T wr))(H:Hid (QL w b cd n cf F t G.K G.q ts))(o:ByteArray)(ho:o.size<=1000000000):Calls Tryz.prog 60 #[.pointer (some ⟨b,0,none⟩),.string o,.slice pk G.q ck] wr λe w'=>e=.returned (.tuple #[])/\Hid (Fq w b (.slice (some cd) n cf) t l W g G pn cn pk ck (T++bhx o ts G.q) w'):=Fq.step h (qx_beh (un h).rk (un H) o ho)
theorem Fq.encl{wr:World}(h:Hid (Fq w b (.slice (some cd) n cf) t l W g G pn cn pk ck T wr))(H:Hid (QL w b cd n cf F t G.K G.q ts))(o c:ByteArray)(ho:o.size<=1000000000)(hc:c.size<=1000000000):Calls Tryz.prog 112 #[.pointer (some ⟨b,0,none⟩),.string o,.slice pk G.q ck,.string c] wr λe w'=>e=.returned (.tuple #[])/\Hid (Fq w b (.slice (some cd) n cf) t l W g G pn cn pk ck (T++(byt o++cmj ts G.q++byt c)) w'):=Fq.step h (qx_encl w b _ t o c ho hc ((un H).go (un h).rk))
theorem Fq.join{wr:World}(h:Hid (Fq w b (.slice (some cd) n cf) t l W g G pn cn pk ck T wr))(H:Hid (G.p<=200/\∀j,j<G.p->(G.A j).size<=4000)):Calls Tryz.prog 59 #[.slice pn G.p cn,.string ⟨#[44,32]⟩] wr λe w'=>∃s,e=.returned (.string s)/\Hid (byt s=nms G)/\s.size<=1000000000/\Hid (Fq w b (.slice (some cd) n cf) t l W g G pn cn pk ck T w'):=by
 obtain⟨h1,h2⟩:=un H;refine(im_jn ((un h).rn.kz (un h).q.bel) (by omega) h2).mono ?_;rintro e w' ⟨s,rfl,hs,hz,hb⟩;exact⟨s,rfl,hs,hz,Fq.call h hb⟩
theorem qs_1(A:Am w n cf cd F i)(hk:Hid ((F i).a.k=1))(H:Hid (Q1 w b cd n cf t 58 (.int .i64 i) (X))):Q1 w b cd n cf t 32 (.int .i64 i) (X):=by
 intro l W h;obtain⟨pn,cn,pk,ck,V,g,hV,hg,HF1,c0,⟨d0,d1,d2,d3,d4,d5,d6,d7,d8⟩,hi,hn⟩:=Fq.open h A;clear h A;go_enter Tryz.func32,Tryz.ntmps32;go_upto_region 1 with fail
 try rw[hV]
 try rw[hg]
 clear hV hg c0 d0 d1 d2 d3 d4 d5 d6 d7 d8 hi hn;obtain⟨c0,c1,c2,c3,c4,c5,c6,c7,c8⟩:=Fq.cs HF1;rw[un hk]at c0;have HC:=Fq.step HF1 (un H);go_wp2_with fail;refine(HC).mono ?_;rintro e y1 ⟨rfl,HF2⟩;clear HC HF1 c0 c1 c2 c3 c4 c5 c6 c7 c8;go_wp2_with fail;exact⟨rfl,.tuple #[],by simp[results,Tryz.results32],rfl,Fq.done HF2 rfl⟩
theorem qs_2(A:Am w n cf cd F i)(hk:Hid ((F i).a.k=2))(hp:Hid ((F i).p<=200/\∀j,j<(F i).p->((F i).A j).size<=4000))(H:Hid (QL w b cd n cf F t (F i).K ((F i).q) ts)):Q1 w b cd n cf t 32 (.int .i64 i) ([108,101,116,32]++nms (F i)++bhx ⟨#[32,61,32]⟩ ts (F i).q):=by
 intro l W h;obtain⟨pn,cn,pk,ck,V,g,hV,hg,HF1,c0,⟨d0,d1,d2,d3,d4,d5,d6,d7,d8⟩,hi,hn⟩:=Fq.open h A;clear h A;go_enter Tryz.func32,Tryz.ntmps32;go_upto_region 1 with fail
 try rw[hV]
 try rw[hg]
 clear hV hg c0 d0 d1 d2 d3 d4 d5 d6 d7 d8 hi hn;obtain⟨c0,c1,c2,c3,c4,c5,c6,c7,c8⟩:=Fq.cs HF1;rw[un hk]at c0;have HC:=Fq.join HF1 hp;go_wp2_with fail;refine HC.mono ?_;rintro e y1 ⟨s,rfl,HS,hz,HF2⟩;clear HC HF1 c0 c1 c2 c3 c4 c5 c6 c7 c8;obtain⟨c0,c1,c2,c3,c4,c5,c6,c7,c8⟩:=Fq.cs HF2;have HC:=λty hT=>Fq.say2 HF2 ⟨#[108,101,116,32]⟩ s (by decide) hz ty hT;go_wp2_with fail;refine(HC _ (by decide)).mono ?_;rintro e y2 ⟨rfl,HF3⟩;clear HC HF2 c0 c1 c2 c3 c4 c5 c6 c7 c8 hz;obtain⟨c0,c1,c2,c3,c4,c5,c6,c7,c8⟩:=Fq.cs HF3;have HC:=Fq.beh HF3 H ⟨#[32,61,32]⟩ (by decide);go_wp2_with fail;refine(HC).mono ?_;rintro e y3 ⟨rfl,HF4⟩;clear HC HF3 c0 c1 c2 c3 c4 c5 c6 c7 c8;go_wp2_with fail;exact⟨rfl,.tuple #[],by simp[results,Tryz.results32],rfl,Fq.done HF4 (by rw[show byt s=_ from HS];rfl)⟩
theorem qs_3(A:Am w n cf cd F i)(hk:Hid ((F i).a.k=3))(hp:Hid ((F i).p=1/\((F i).A 0).size<=4000))(H:Hid (QL w b cd n cf F t (F i).K ((F i).q) ts)):Q1 w b cd n cf t 32 (.int .i64 i) ([99,111,110,115,116,32]++byt ((F i).A 0)++bhx ⟨#[32,61,32]⟩ ts (F i).q):=by
 intro l W h;obtain⟨pn,cn,pk,ck,V,g,hV,hg,HF1,c0,⟨d0,d1,d2,d3,d4,d5,d6,d7,d8⟩,hi,hn⟩:=Fq.open h A;clear h A;go_enter Tryz.func32,Tryz.ntmps32;go_upto_region 1 with fail
 try rw[hV]
 try rw[hg]
 clear hV hg c0 d0 d1 d2 d3 d4 d5 d6 d7 d8 hi hn;obtain⟨c0,c1,c2,c3,c4,c5,c6,c7,c8⟩:=Fq.cs HF1;rw[un hk]at c0;obtain⟨an,rfl,hcn,n0⟩:=Fq.nam HF1 (j:=0) (by have:=(un hp).1;omega);rw[add_z]at n0;have m0:(0:Int)<((F i).p:Int):=by have:=(un hp).1;omega
 have HC:=λty hT=>Fq.say2 HF1 ⟨#[99,111,110,115,116,32]⟩ ((F i).A 0) (by decide) (by have:=(un hp).2;omega) ty hT;go_wp2_with fail;refine(HC _ (by decide)).mono ?_;rintro e y1 ⟨rfl,HF2⟩;clear HC HF1 c0 c1 c2 c3 c4 c5 c6 c7 c8 n0 m0;obtain⟨c0,c1,c2,c3,c4,c5,c6,c7,c8⟩:=Fq.cs HF2;have HC:=Fq.beh HF2 H ⟨#[32,61,32]⟩ (by decide);go_wp2_with fail;refine(HC).mono ?_;rintro e y2 ⟨rfl,HF3⟩;clear HC HF2 c0 c1 c2 c3 c4 c5 c6 c7 c8;go_wp2_with fail;exact⟨rfl,.tuple #[],by simp[results,Tryz.results32],rfl,Fq.done HF3 rfl⟩
theorem qs_6(A:Am w n cf cd F i)(hk:Hid ((F i).a.k=6))(H:Hid (QL w b cd n cf F t (F i).K ((F i).q) ts)):Q1 w b cd n cf t 32 (.int .i64 i) (cmj ts (F i).q):=by
 intro l W h;obtain⟨pn,cn,pk,ck,V,g,hV,hg,HF1,c0,⟨d0,d1,d2,d3,d4,d5,d6,d7,d8⟩,hi,hn⟩:=Fq.open h A;clear h A;go_enter Tryz.func32,Tryz.ntmps32;go_upto_region 1 with fail
 try rw[hV]
 try rw[hg]
 clear hV hg c0 d0 d1 d2 d3 d4 d5 d6 d7 d8 hi hn;obtain⟨c0,c1,c2,c3,c4,c5,c6,c7,c8⟩:=Fq.cs HF1;rw[un hk]at c0;have HC:=Fq.list HF1 H;go_wp2_with fail;refine(HC).mono ?_;rintro e y1 ⟨rfl,HF2⟩;clear HC HF1 c0 c1 c2 c3 c4 c5 c6 c7 c8;go_wp2_with fail;exact⟨rfl,.tuple #[],by simp[results,Tryz.results32],rfl,Fq.done HF2 rfl⟩
theorem qs_11(A:Am w n cf cd F i)(hk:Hid ((F i).a.k=11)):Q1 w b cd n cf t 32 (.int .i64 i) ([98,114,101,97,107]):=by
 intro l W h;obtain⟨pn,cn,pk,ck,V,g,hV,hg,HF1,c0,⟨d0,d1,d2,d3,d4,d5,d6,d7,d8⟩,hi,hn⟩:=Fq.open h A;clear h A;go_enter Tryz.func32,Tryz.ntmps32;go_upto_region 1 with fail
 try rw[hV]
 try rw[hg]
 clear hV hg c0 d0 d1 d2 d3 d4 d5 d6 d7 d8 hi hn;obtain⟨c0,c1,c2,c3,c4,c5,c6,c7,c8⟩:=Fq.cs HF1;rw[un hk]at c0;have HC:=λty hT=>Fq.say1 HF1 ⟨#[98,114,101,97,107]⟩ (by decide) ty hT;go_wp2_with fail;refine(HC _ (by decide)).mono ?_;rintro e y1 ⟨rfl,HF2⟩;clear HC HF1 c0 c1 c2 c3 c4 c5 c6 c7 c8;go_wp2_with fail;exact⟨rfl,.tuple #[],by simp[results,Tryz.results32],rfl,Fq.done HF2 rfl⟩
theorem qs_12(A:Am w n cf cd F i)(hk:Hid ((F i).a.k=12)):Q1 w b cd n cf t 32 (.int .i64 i) ([110,101,120,116]):=by
 intro l W h;obtain⟨pn,cn,pk,ck,V,g,hV,hg,HF1,c0,⟨d0,d1,d2,d3,d4,d5,d6,d7,d8⟩,hi,hn⟩:=Fq.open h A;clear h A;go_enter Tryz.func32,Tryz.ntmps32;go_upto_region 1 with fail
 try rw[hV]
 try rw[hg]
 clear hV hg c0 d0 d1 d2 d3 d4 d5 d6 d7 d8 hi hn;obtain⟨c0,c1,c2,c3,c4,c5,c6,c7,c8⟩:=Fq.cs HF1;rw[un hk]at c0;have HC:=λty hT=>Fq.say1 HF1 ⟨#[110,101,120,116]⟩ (by decide) ty hT;go_wp2_with fail;refine(HC _ (by decide)).mono ?_;rintro e y1 ⟨rfl,HF2⟩;clear HC HF1 c0 c1 c2 c3 c4 c5 c6 c7 c8;go_wp2_with fail;exact⟨rfl,.tuple #[],by simp[results,Tryz.results32],rfl,Fq.done HF2 rfl⟩
theorem qs_13(A:Am w n cf cd F i)(hk:Hid ((F i).a.k=13))(H:Hid (QL w b cd n cf F t (F i).K ((F i).q) ts)):Q1 w b cd n cf t 32 (.int .i64 i) ([114,101,116,117,114,110]++bhx ⟨#[32]⟩ ts (F i).q):=by
 intro l W h;obtain⟨pn,cn,pk,ck,V,g,hV,hg,HF1,c0,⟨d0,d1,d2,d3,d4,d5,d6,d7,d8⟩,hi,hn⟩:=Fq.open h A;clear h A;go_enter Tryz.func32,Tryz.ntmps32;go_upto_region 1 with fail
 try rw[hV]
 try rw[hg]
 clear hV hg c0 d0 d1 d2 d3 d4 d5 d6 d7 d8 hi hn;obtain⟨c0,c1,c2,c3,c4,c5,c6,c7,c8⟩:=Fq.cs HF1;rw[un hk]at c0;have HC:=λty hT=>Fq.say1 HF1 ⟨#[114,101,116,117,114,110]⟩ (by decide) ty hT;go_wp2_with fail;refine(HC _ (by decide)).mono ?_;rintro e y1 ⟨rfl,HF2⟩;clear HC HF1 c0 c1 c2 c3 c4 c5 c6 c7 c8;obtain⟨c0,c1,c2,c3,c4,c5,c6,c7,c8⟩:=Fq.cs HF2;have HC:=Fq.beh HF2 H ⟨#[32]⟩ (by decide);go_wp2_with fail;refine(HC).mono ?_;rintro e y2 ⟨rfl,HF3⟩;clear HC HF2 c0 c1 c2 c3 c4 c5 c6 c7 c8;go_wp2_with fail;exact⟨rfl,.tuple #[],by simp[results,Tryz.results32],rfl,Fq.done HF3 rfl⟩
theorem qs_15(A:Am w n cf cd F i)(hk:Hid ((F i).a.k=15))(H:Hid (QL w b cd n cf F t (F i).K ((F i).q) ts)):Q1 w b cd n cf t 32 (.int .i64 i) ([116,104,114,111,119]++bhx ⟨#[32]⟩ ts (F i).q):=by
 intro l W h;obtain⟨pn,cn,pk,ck,V,g,hV,hg,HF1,c0,⟨d0,d1,d2,d3,d4,d5,d6,d7,d8⟩,hi,hn⟩:=Fq.open h A;clear h A;go_enter Tryz.func32,Tryz.ntmps32;go_upto_region 1 with fail
 try rw[hV]
 try rw[hg]
 clear hV hg c0 d0 d1 d2 d3 d4 d5 d6 d7 d8 hi hn;obtain⟨c0,c1,c2,c3,c4,c5,c6,c7,c8⟩:=Fq.cs HF1;rw[un hk]at c0;have HC:=λty hT=>Fq.say1 HF1 ⟨#[116,104,114,111,119]⟩ (by decide) ty hT;go_wp2_with fail;refine(HC _ (by decide)).mono ?_;rintro e y1 ⟨rfl,HF2⟩;clear HC HF1 c0 c1 c2 c3 c4 c5 c6 c7 c8;obtain⟨c0,c1,c2,c3,c4,c5,c6,c7,c8⟩:=Fq.cs HF2;have HC:=Fq.beh HF2 H ⟨#[32]⟩ (by decide);go_wp2_with fail;refine(HC).mono ?_;rintro e y2 ⟨rfl,HF3⟩;clear HC HF2 c0 c1 c2 c3 c4 c5 c6 c7 c8;go_wp2_with fail;exact⟨rfl,.tuple #[],by simp[results,Tryz.results32],rfl,Fq.done HF3 rfl⟩
theorem qs_16(A:Am w n cf cd F i)(hk:Hid ((F i).a.k=16))(H:Hid (QL w b cd n cf F t (F i).K ((F i).q) ts)):Q1 w b cd n cf t 32 (.int .i64 i) ([100,101,102,101,114]++bhx ⟨#[32]⟩ ts (F i).q):=by
 intro l W h;obtain⟨pn,cn,pk,ck,V,g,hV,hg,HF1,c0,⟨d0,d1,d2,d3,d4,d5,d6,d7,d8⟩,hi,hn⟩:=Fq.open h A;clear h A;go_enter Tryz.func32,Tryz.ntmps32;go_upto_region 1 with fail
 try rw[hV]
 try rw[hg]
 clear hV hg c0 d0 d1 d2 d3 d4 d5 d6 d7 d8 hi hn;obtain⟨c0,c1,c2,c3,c4,c5,c6,c7,c8⟩:=Fq.cs HF1;rw[un hk]at c0;have HC:=λty hT=>Fq.say1 HF1 ⟨#[100,101,102,101,114]⟩ (by decide) ty hT;go_wp2_with fail;refine(HC _ (by decide)).mono ?_;rintro e y1 ⟨rfl,HF2⟩;clear HC HF1 c0 c1 c2 c3 c4 c5 c6 c7 c8;obtain⟨c0,c1,c2,c3,c4,c5,c6,c7,c8⟩:=Fq.cs HF2;have HC:=Fq.beh HF2 H ⟨#[32]⟩ (by decide);go_wp2_with fail;refine(HC).mono ?_;rintro e y2 ⟨rfl,HF3⟩;clear HC HF2 c0 c1 c2 c3 c4 c5 c6 c7 c8;go_wp2_with fail;exact⟨rfl,.tuple #[],by simp[results,Tryz.results32],rfl,Fq.done HF3 rfl⟩
theorem qs_14(A:Am w n cf cd F i)(hk:Hid ((F i).a.k=14)){Y:List UInt8}(hp:Hid ((F i).p<=200/\∀j,j<(F i).p->((F i).A j).size<=4000))(hq:Hid ((F i).q=2))(HX:Hid (Q1 w b cd n cf t 58 (.int .i64 ((F i).K 0)) (X)))(HY:Hid (Q1 w b cd n cf t 58 (.int .i64 ((F i).K 1)) (Y))):Q1 w b cd n cf t 32 (.int .i64 i) ([116,114,121,32]++X++[32,99,97,116,99,104,32]++nms (F i)++[32]++Y):=by
 intro l W h;obtain⟨pn,cn,pk,ck,V,g,hV,hg,HF1,c0,⟨d0,d1,d2,d3,d4,d5,d6,d7,d8⟩,hi,hn⟩:=Fq.open h A;clear h A;go_enter Tryz.func32,Tryz.ntmps32;go_upto_region 1 with fail
 try rw[hV]
 try rw[hg]
 clear hV hg c0 d0 d1 d2 d3 d4 d5 d6 d7 d8 hi hn;obtain⟨c0,c1,c2,c3,c4,c5,c6,c7,c8⟩:=Fq.cs HF1;rw[un hk]at c0;have HC:=λty hT=>Fq.say1 HF1 ⟨#[116,114,121,32]⟩ (by decide) ty hT;go_wp2_with fail;refine(HC _ (by decide)).mono ?_;rintro e y1 ⟨rfl,HF2⟩;clear HC HF1 c0 c1 c2 c3 c4 c5 c6 c7 c8;obtain⟨ad,rfl,hck,k0⟩:=Fq.kid HF2 (j:=0) (by have:=un hq;omega);rw[add_z]at k0;have j0:(0:Int)<((F i).q:Int):=by have:=un hq;omega
 obtain⟨c0,c1,c2,c3,c4,c5,c6,c7,c8⟩:=Fq.cs HF2;have HC:=Fq.step HF2 (un HX);go_wp2_with fail;refine(HC).mono ?_;rintro e y2 ⟨rfl,HF3⟩;clear HC HF2 c0 c1 c2 c3 c4 c5 c6 c7 c8 k0 j0;obtain⟨c0,c1,c2,c3,c4,c5,c6,c7,c8⟩:=Fq.cs HF3;have HC:=Fq.join HF3 hp;go_wp2_with fail;refine HC.mono ?_;rintro e y3 ⟨s,rfl,HS,hz,HF4⟩;clear HC HF3 c0 c1 c2 c3 c4 c5 c6 c7 c8;obtain⟨c0,c1,c2,c3,c4,c5,c6,c7,c8⟩:=Fq.cs HF4;have HC:=λty hT=>Fq.say3 HF4 ⟨#[32,99,97,116,99,104,32]⟩ s ⟨#[32]⟩ (by decide) hz (by decide) ty hT;go_wp2_with fail;refine(HC _ (by decide)).mono ?_;rintro e y4 ⟨rfl,HF5⟩;clear HC HF4 c0 c1 c2 c3 c4 c5 c6 c7 c8 hz;have k1:=Fq.kid HF5 (j:=1) (by have:=un hq;omega);obtain⟨_,e1,-,k1⟩:=k1;obtain rfl:=Option.some.inj e1;have j1:(1:Int)<((F i).q:Int):=by have:=un hq;omega
 replace k1:World.cell? _ ⟨ad.block,ad.off+1,none⟩=_:=k1;obtain⟨c0,c1,c2,c3,c4,c5,c6,c7,c8⟩:=Fq.cs HF5;have HC:=Fq.step HF5 (un HY);go_wp2_with fail;refine(HC).mono ?_;rintro e y5 ⟨rfl,HF6⟩;clear HC HF5 c0 c1 c2 c3 c4 c5 c6 c7 c8 k1 j1;go_wp2_with fail;exact⟨rfl,.tuple #[],by simp[results,Tryz.results32],rfl,Fq.done HF6 (by rw[show byt s=_ from HS];rfl)⟩
theorem qs_7(A:Am w n cf cd F i)(hk:Hid ((F i).a.k=7))(H:Hid (Qv w b cd n cf F t 63 i (X))):Q1 w b cd n cf t 32 (.int .i64 i) ([105,102,32]++X):=by
 intro l W h;obtain⟨pn,cn,pk,ck,V,g,hV,hg,HF1,c0,⟨d0,d1,d2,d3,d4,d5,d6,d7,d8⟩,hi,hn⟩:=Fq.open h A;clear h A;go_enter Tryz.func32,Tryz.ntmps32;go_upto_region 1 with fail
 try rw[hV]
 try rw[hg]
 clear hV hg c0 d0 d1 d2 d3 d4 d5 d6 d7 d8 hi hn;obtain⟨c0,c1,c2,c3,c4,c5,c6,c7,c8⟩:=Fq.cs HF1;rw[un hk]at c0;have HC:=λty hT=>Fq.say1 HF1 ⟨#[105,102,32]⟩ (by decide) ty hT;go_wp2_with fail;refine(HC _ (by decide)).mono ?_;rintro e y1 ⟨rfl,HF2⟩;clear HC HF1 c0 c1 c2 c3 c4 c5 c6 c7 c8;obtain⟨c0,c1,c2,c3,c4,c5,c6,c7,c8⟩:=Fq.cs HF2;have HC:=Fq.step HF2 ((un H) _ _ _ _ (un HF2).rn (un HF2).rk);unfold fmv at HC;go_wp2_with fail;refine(HC).mono ?_;rintro e y2 ⟨rfl,HF3⟩;clear HC HF2 c0 c1 c2 c3 c4 c5 c6 c7 c8;go_wp2_with fail;exact⟨rfl,.tuple #[],by simp[results,Tryz.results32],rfl,Fq.done HF3 rfl⟩
theorem qs_8(A:Am w n cf cd F i)(hk:Hid ((F i).a.k=8))(H:Hid (Qv w b cd n cf F t 64 i (X))):Q1 w b cd n cf t 32 (.int .i64 i) (X):=by
 intro l W h;obtain⟨pn,cn,pk,ck,V,g,hV,hg,HF1,c0,⟨d0,d1,d2,d3,d4,d5,d6,d7,d8⟩,hi,hn⟩:=Fq.open h A;clear h A;go_enter Tryz.func32,Tryz.ntmps32;go_upto_region 1 with fail
 try rw[hV]
 try rw[hg]
 clear hV hg c0 d0 d1 d2 d3 d4 d5 d6 d7 d8 hi hn;obtain⟨c0,c1,c2,c3,c4,c5,c6,c7,c8⟩:=Fq.cs HF1;rw[un hk]at c0;have HC:=Fq.step HF1 ((un H) _ _ _ _ (un HF1).rn (un HF1).rk);unfold fmv at HC;rw[un hk]at HC;go_wp2_with fail;refine(HC).mono ?_;rintro e y1 ⟨rfl,HF2⟩;clear HC HF1 c0 c1 c2 c3 c4 c5 c6 c7 c8;go_wp2_with fail;exact⟨rfl,.tuple #[],by simp[results,Tryz.results32],rfl,Fq.done HF2 rfl⟩
theorem qs_9(A:Am w n cf cd F i)(hk:Hid ((F i).a.k=9))(H:Hid (Qv w b cd n cf F t 64 i (X))):Q1 w b cd n cf t 32 (.int .i64 i) (X):=by
 intro l W h;obtain⟨pn,cn,pk,ck,V,g,hV,hg,HF1,c0,⟨d0,d1,d2,d3,d4,d5,d6,d7,d8⟩,hi,hn⟩:=Fq.open h A;clear h A;go_enter Tryz.func32,Tryz.ntmps32;go_upto_region 1 with fail
 try rw[hV]
 try rw[hg]
 clear hV hg c0 d0 d1 d2 d3 d4 d5 d6 d7 d8 hi hn;obtain⟨c0,c1,c2,c3,c4,c5,c6,c7,c8⟩:=Fq.cs HF1;rw[un hk]at c0;have HC:=Fq.step HF1 ((un H) _ _ _ _ (un HF1).rn (un HF1).rk);unfold fmv at HC;rw[un hk]at HC;go_wp2_with fail;refine(HC).mono ?_;rintro e y1 ⟨rfl,HF2⟩;clear HC HF1 c0 c1 c2 c3 c4 c5 c6 c7 c8;go_wp2_with fail;exact⟨rfl,.tuple #[],by simp[results,Tryz.results32],rfl,Fq.done HF2 rfl⟩
theorem qs_10(A:Am w n cf cd F i)(hk:Hid ((F i).a.k=10))(H:Hid (Qv w b cd n cf F t 64 i (X))):Q1 w b cd n cf t 32 (.int .i64 i) (X):=by
 intro l W h;obtain⟨pn,cn,pk,ck,V,g,hV,hg,HF1,c0,⟨d0,d1,d2,d3,d4,d5,d6,d7,d8⟩,hi,hn⟩:=Fq.open h A;clear h A;go_enter Tryz.func32,Tryz.ntmps32;go_upto_region 1 with fail
 try rw[hV]
 try rw[hg]
 clear hV hg c0 d0 d1 d2 d3 d4 d5 d6 d7 d8 hi hn;obtain⟨c0,c1,c2,c3,c4,c5,c6,c7,c8⟩:=Fq.cs HF1;rw[un hk]at c0;have HC:=Fq.step HF1 ((un H) _ _ _ _ (un HF1).rn (un HF1).rk);unfold fmv at HC;rw[un hk]at HC;go_wp2_with fail;refine(HC).mono ?_;rintro e y1 ⟨rfl,HF2⟩;clear HC HF1 c0 c1 c2 c3 c4 c5 c6 c7 c8;go_wp2_with fail;exact⟨rfl,.tuple #[],by simp[results,Tryz.results32],rfl,Fq.done HF2 rfl⟩
theorem qs_5(A:Am w n cf cd F i)(hk:Hid ((F i).a.k=5)){m:Nat}(hm:Hid ((F i).a.m=(m:Int)/\1<=m/\m<(F i).q/\(F i).q<=200))(H:Hid (QL w b cd n cf F t (F i).K (m) ts))(H2:Hid (QL w b cd n cf F t (λj=>(F i).K (m+j)) ((F i).q-m) us)):Q1 w b cd n cf t 32 (.int .i64 i) (cmj ts m++bhx ⟨#[32,61,32]⟩ us ((F i).q-m)):=by
 intro l W h;obtain⟨pn,cn,pk,ck,V,g,hV,hg,HF1,c0,⟨d0,d1,d2,d3,d4,d5,d6,d7,d8⟩,hi,hn⟩:=Fq.open h A;clear h A;go_enter Tryz.func32,Tryz.ntmps32;go_upto_region 1 with fail
 try rw[hV]
 try rw[hg]
 clear hV hg c0 d0 d1 d2 d3 d4 d5 d6 d7 d8 hi hn;obtain⟨c0,c1,c2,c3,c4,c5,c6,c7,c8⟩:=Fq.cs HF1;rw[un hk]at c0;obtain⟨pa,ca,hs,HR⟩:=sl_to (un HF1).rk (m:=m) (by have:=un hm;omega) (by have:=un hm;omega) (un hm).1;replace HR:Hid _:=HR;have HC:=Fq.step HF1 ((un H).go (un HR));go_wp2_with fail;refine(HC).mono ?_;rintro e y1 ⟨rfl,HF2⟩;clear HC HF1 c0 c1 c2 c3 c4 c5 c6 c7 c8 hs HR;obtain⟨c0,c1,c2,c3,c4,c5,c6,c7,c8⟩:=Fq.cs HF2;obtain⟨pa2,ca2,hs,HR⟩:=sl_from (un HF2).rk (m:=m) (by have:=un hm;omega) (un hm).1;replace HR:Hid _:=HR;have HC:=Fq.step HF2 (qx_beh (un HR) (un H2) ⟨#[32,61,32]⟩ (by decide));go_wp2_with fail;refine(HC).mono ?_;rintro e y2 ⟨rfl,HF3⟩;clear HC HF2 c0 c1 c2 c3 c4 c5 c6 c7 c8 hs HR;go_wp2_with fail;exact⟨rfl,.tuple #[],by simp[results,Tryz.results32],rfl,Fq.done HF3 rfl⟩
theorem clone_own{va:Value}(w:World)(ha:RowV w va n (λi=>.string (A i)))(hn:n<=1048576):
  Calls Tryz.prog 92 #[va] w λe w'=>∃v,e=.returned v/\w'.ownsRow w.heap.size 9 1 v n (lst (λi=>.string (A i)) n)/\Below w.heap.size w w':=by
 obtain⟨pa,ca,rfl,ha2⟩:=ha;obtain⟨i0,hi0,hz0,hz1,hz2⟩:=info_parts info9;have HI0:Hid (Tryz.prog.info? 9=some i0):=hi0;clear hi0;cases pa with
 |none=>
  obtain rfl:n=0:=by
   rcases Nat.eq_zero_or_pos n with h|h
   ·exact h
   ·obtain⟨a,h1,_⟩:=ha2 h;cases h1
  clear ha2;have hq:=Lib.run_eql_slice_nil (P:=Tryz.prog) w 41 9 none 0 ca 0 0 Tryz.underlying41;rw[show(none:Option Addr).isNone=true from rfl]at hq;go_enter Tryz.func92,Tryz.ntmps92;go_wp2_with fail;go_ret;exact⟨_,rfl,World.ownsRow_nil _ _ _ _,Below.refl _ _⟩
 |some a=>
  have hcell:∀j u,(lst (λi=>.string (A i)) n)[j]? =some u->w.cell? (a.add j)=some u:=by
   intro j u hu;obtain⟨h1,rfl⟩:=lst_get _ _ _ _ hu;obtain⟨a',h2,_,h3⟩:=ha2 (by omega);cases h2;exact h3 j h1
  have hone:∀u ∈ lst (λi=>.string (A i)) n,u.oneCell'=true:=by
   intro u hu;simp[lst]at hu;obtain⟨j,_,rfl⟩:=hu;rfl
  have HC:Hid (∀(o:Obj) j u,(lst (λi=>.string (A i)) n)[j]? =some u->(w.alloc o).cell? (a.add j)=some u):=(λo j u hu=>(bel1 w o).cell (lt_of_cell' (hcell j u hu)) |>.trans (hcell j u hu):∀(o:Obj) j u,_)
  have HO:Hid ((w.alloc (.cells #[] 9)).ownsRow w.heap.size 9 1 (.slice (some ⟨w.heap.size,0,none⟩) 0 0) 0 []):=World.ownsRow_made w #[] 0 (Nat.le_refl _) (by unfold maxLen;omega) rfl;have HL:Hid ((lst (λi=>.string (A i)) n).length=n*1):=by show _=_;rw[lst_len];omega
  have HM:Hid (0+n<=maxLen/\(0+n)*16<=140737488355328):=(⟨by unfold maxLen;omega,by omega⟩:_/\_)
  have hq:=Lib.run_eql_slice_nil (P:=Tryz.prog) w 41 9 (some a) n ca 0 0 Tryz.underlying41;rw[show(some a:Option Addr).isNone=false from rfl]at hq;clear hcell ha2 hn;go_enter Tryz.func92,Tryz.ntmps92;go_wp2_with (at_builtin;refine wpList_append_own _ rfl (.tmp 5) (.tmp 6) 41 rfl w.heap.size 9 i0 (.string ⟨#[]⟩) 1 16 Tryz.underlying41 HI0 hz0 hz1 hz2 rfl (by decide) _ _ _ rfl HO a n ca (lst (λi=>.string (A i)) n) rfl HL (HC _) hone HM.1 HM.2 (by simp) ?_;intro v' w2 hown1 hgrow1 _);go_ret;rw[Nat.zero_add,List.nil_append]at hown1;refine⟨_,rfl,hown1,?_⟩;have hg:=hgrow1;exact(bel1 w _).grown hg (by simp) (λk hk=>by cases hk;exact Nat.le_refl _)
theorem own_rowv{base e:Nat}{A:Nat->Value}(h:W.ownsRow base e 1 v n (lst A n)):∃pa ca,v=.slice pa n ca/\RowV W (.slice pa n ca) n A:=by
 obtain⟨g,h1,_⟩:=own_of h;have h2:=h1.row;obtain⟨pa,ca,rfl,_⟩:=id h2;exact⟨pa,ca,rfl,h2⟩
def prA(A:Nat->ByteArray)(p:Nat)(j:Nat):ByteArray:=if j<p then A j else⟨#[46,46,46]⟩
theorem cmj_congr(p:Nat)(h:∀j,j<p->ts j=us j):cmj ts p=cmj us p:=by
 induction p with
 |zero=>rfl
 |succ p ih=>
  show cmj ts p++_++ts p=cmj us p++_++us p;rw[ih (λj hj=>h j (by omega)),h p (by omega)]
theorem prm_1(G:Gv)(ho:G.a.o=1):prm G=cmj (λj=>byt (prA G.A G.p j)) (G.p+1):=by
 have e:prA G.A G.p G.p=⟨#[46,46,46]⟩:=by unfold prA;rw[if_neg (Nat.lt_irrefl _)]
 unfold prm nms;rw[if_pos ho];show _=cmj _ G.p++_++byt (prA G.A G.p G.p);have hc:=cmj_congr (ts:=λj=>byt (prA G.A G.p j)) (us:=λj=>byt (G.A j)) G.p (λj hj=>by show byt (prA G.A G.p j)=_;unfold prA;rw[if_pos hj]);rw[e,hc,List.append_assoc];rfl
theorem prm_0(G:Gv)(ho:G.a.o≠1):prm G=cmj (λj=>byt (G.A j)) G.p:=by
 unfold prm nms;rw[if_neg ho,List.append_nil]
theorem lst_prA(A:Nat->ByteArray)(p:Nat):lst (λi=>.string (A i)) p++[.string ⟨#[46,46,46]⟩]=lst (λi=>.string (prA A p i)) (p+1):=by
 rw[lst_succ]
 congr 1
 ·unfold lst;refine List.map_congr_left (λi hi=>?_);unfold prA;rw[if_pos (List.mem_range.1 hi)]
 ·unfold prA;rw[if_neg (Nat.lt_irrefl _)]
theorem prA_le(h:∀j,j<p->(A j).size<=4000)(j:Nat):(prA A p j).size<=4000:=by
 unfold prA;split
 next h1=>exact h j h1
 next=>decide
theorem spl_49:spl 49=⟨#[46,46,46]⟩:=by decide+kernel
