import Derived.Test.YtkhdehngobkkfaaGreatDoorASpb
set_option maxRecDepth 100000
set_option maxHeartbeats 40000000
namespace Go.Proofs.YtkhdehngobkkfaaGreatDoor.Fo
open Go.ChangeShapes Go.WideShapes Go.ChangeAt Go.RowKit
set_option linter.unusedVariables false
variable {W W' w a:World}{b n p q:Nat}{nm fl:ByteArray->Prop}{x:ByteArray}{F:Nat->Gv}{A:Nat->ByteArray}{K:Nat->Int}{v vn vk:Value}
structure Kz (a w:World):Prop where
 os:w.os=a.os
 output:w.output=a.output
 size:a.heap.size<=w.heap.size
 block:∀i,i<a.heap.size->w.heap[i]? =a.heap[i]?
theorem Kz.refl(a:World):Kz a a:=⟨rfl,rfl,Nat.le_refl _,λ_ _=>rfl⟩
theorem Kz.trans{b c:World}(h:Kz a b)(k:Kz b c):Kz a c:=
 ⟨k.os.trans h.os,k.output.trans h.output,Nat.le_trans h.size k.size,λi hi=>(k.block i (Nat.lt_of_lt_of_le hi h.size)).trans (h.block i hi)⟩
theorem Kz.of_below(h:Below a.heap.size a w):Kz a w:=⟨h.os,h.output,h.size,h.block⟩
theorem Kz.of_kept(h:Rd.Kept a w):Kz a w:=
 have k:Kb a.heap.size a w:=Kb.of_kept h
 ⟨k.os,k.output,k.size,λi hi=>k.block i hi (by omega)⟩
theorem Kz.kept(h:Kz a w):Rd.Kept a w:=
 Kb.kept (B:=a.heap.size) ⟨h.os,h.output,h.size,λi hi _=>h.block i hi⟩ (Nat.le_refl _)
theorem Kz.drewN(h:Kz a w)(n:Nat):Kz a (w.drewN n):=⟨h.os,h.output,h.size,h.block⟩
theorem Kz.alloc(h:Kz a w)(o:Obj):Kz a (w.alloc o):=h.trans (.of_below (bel1 w o))
theorem Kz.cell(h:Kz a w){p:Addr}(hp:p.block<a.heap.size):w.cell? p=a.cell? p:=World.cell?_of_block (h.block p.block hp)
theorem Kz.setNew(h:Kz a w)(p:Addr)(hp:a.heap.size<=p.block)(v:Value):Kz a (w.setCell p v):=
 ⟨h.os,h.output,by simpa using h.size,λi hi=>(Below.heap_setCell w _ _ _ (by omega)).trans (h.block i hi)⟩
theorem Kz.gd(h:Kz a w)(hg:Gd a):Gd w:=hg.blk (λi hi=>h.block i (Nat.lt_of_lt_of_le hi hg.size)) (Nat.le_trans hg.size h.size)
theorem RowV.kz{A:Nat->Value}(h:RowV W v n A)(hb:Kz W W'):RowV W' v n A:=by
 obtain⟨pa,cap,h1,h2⟩:=h;refine⟨pa,cap,h1,λhn=>?_⟩;obtain⟨a,ha,hc,hr⟩:=h2 hn;exact⟨a,ha,hc,λi hi=>(hb.cell (lt_of_cell' (hr i hi))).trans (hr i hi)⟩
theorem Cel9.kz{b:Addr}{a:Fv}(h:Cel9 W b a vn vk)(hb:Kz W W'):Cel9 W' b a vn vk:=by
 have hl:=lt_of_cell' h.c0;have e:∀j,W'.cell? ⟨b.block,j,none⟩=W.cell? ⟨b.block,j,none⟩:=λj=>hb.cell (p:=⟨b.block,j,none⟩) hl;exact⟨(hb.cell hl).trans h.c0,(e _).trans h.c1,(e _).trans h.c2,(e _).trans h.c3,(e _).trans h.c4,(e _).trans h.c5,(e _).trans h.c6,(e _).trans h.c7,(e _).trans h.c8⟩
theorem FormC.kz{b:Addr}{g:Gv}(h:FormC W b g)(hb:Kz W W'):FormC W' b g:=by
 obtain⟨vn,vk,h1,h2,h3⟩:=h;exact⟨vn,vk,h1.kz hb,h2.kz hb,h3.kz hb⟩
theorem RowF.kz(h:RowF W v n F)(hb:Kz W W'):RowF W' v n F:=by
 obtain⟨pa,cap,h1,h2⟩:=h;exact⟨pa,cap,h1,λhn=>by obtain⟨a,ha,hc,hr⟩:=h2 hn;exact⟨a,ha,hc,λi hi=>(hr i hi).kz hb⟩⟩
theorem im_noname(x:ByteArray)(w:World)(hg:Gd w):Calls Tryz.prog 126 #[.string x] w λe w'=>e=.returned (.bool (!dc (nmp x)))/\Kz w w':=by
 have h1:=λf t l n=>nm_w x f t l n w hg;clear hg;generalize dc (nmp x)=z at h1⊢;go_enter Tryz.func126,Tryz.ntmps126;go_wp2_with fail;refine(h1 _ _ _ _).mono ?_;rintro e w1 ⟨R,rfl,hR,hk⟩;have HK:Hid (Kz w w1):=Kz.of_kept hk;clear h1 hk;cases z with
 |true=>
  have g1:=str1 (λh=>by have:=hR.1 h;cases this);clear hR;go_wp2_with fail;go_ret;exact⟨by simp[g1],HK⟩
 |false=>
  have g1:=hR.2 rfl;subst g1;clear hR;go_wp2_with fail;go_ret;exact⟨rfl,HK⟩
theorem en_noname:∀args w,(callFunc 126 args).run Tryz.prog w=.ok (.enter 126 args) w:=enters_of Tryz.func126 (by kernel_rfl) rfl
theorem im_index(w:World)(hg:Gd w)(hr:RowV w v p (λi=>.string (A i)))(hp:p<=1048576):
  Calls Tryz.prog 132 #[v,.func (.func 126) #[] #[]] w λe w'=>∃r:Int,e=.returned (.int .i64 r)/\((0<=r/\¬∀j,j<p->nmp (A j))\/(r=-1/\∀j,j<p->nmp (A j)))/\Kz w w':=by
 obtain⟨pa,ca,rfl,hr2⟩:=hr;have hpI:(p:Int)<=1048576:=by omega
 have HR:Hid (Gd w/\(0<p->∃a:Addr,pa=some a/\p<=ca/\∀i,i<p->w.cell? (a.add i)=some (.string (A i)))):=(⟨hg,hr2⟩:_/\_)
 clear hg hr2 hp;have eg:=en_noname;go_enter Tryz.func132,Tryz.ntmps132;go_wp2_with fail
 go_loopw [8] (λs8 wr=>∃i:Nat,s8=.int .i64 i/\i<=p/\Hid (Kz w wr/\∀j,j<i->nmp (A j))) (λs8 _=>p-(intOf s8).toNat)
 case atStart=>exact⟨0,rfl,Nat.zero_le _,(⟨Kz.refl _,λj hj=>by omega⟩:_/\_)⟩
 case round=>
  obtain⟨i,rfl,hin,HI⟩:=hrel;obtain⟨hk,ha⟩:=(uh HI)
  obtain⟨hg,hr2⟩:=(uh HR)
  rcases Nat.lt_or_ge i p with hi|hi
  ·have hiI:(i:Int)<(p:Int):=by omega
   obtain⟨a,rfl,hca,hra⟩:=hr2 (by omega);have qa:=(hk.cell (lt_of_cell' (hra i hi))).trans (hra i hi);have hcall:=im_noname (A i) wr (hk.gd hg);by_cases hn:nmp (A i)
   ·rw[dc_t hn]at hcall
    have HX:Hid (Kz w wr/\∀j,j<i+1->nmp (A j)):=(⟨hk,λj hj=>by
     by_cases e:j=i
     ·rw[e];exact hn
     ·exact ha j (by omega)⟩:_/\_)
    clear HI hk ha hg hr2 hra hn;generalize A i=x at*;go_wp2_with (go_at_fn 126;refine hcall.mono ?_;rintro e w' ⟨rfl,hb'⟩);go_roundw
    case rel=>exact⟨i+1,by go_num,by omega,(⟨HX.1.trans hb',HX.2⟩:_/\_)⟩
    case measure=>simp[intOf];omega
   ·rw[dc_f hn]at hcall;have HX:Hid (Kz w wr/\¬∀j,j<p->nmp (A j)):=(⟨hk,λh=>hn (h i hi)⟩:_/\_)
    clear HI hk ha hg hr2 hra hn;generalize A i=x at*;go_wp2_with (go_at_fn 126;refine hcall.mono ?_;rintro e w' ⟨rfl,hb'⟩);go_ret;exact⟨(i:Int),rfl,.inl ⟨by omega,HX.2⟩,HX.1.trans hb'⟩
  ·obtain rfl:i=p:=by omega
   have HX:Hid (Kz w wr/\∀j,j<i->nmp (A j)):=HI;clear HR hg hr2 hk ha HI;go_wp2_with fail;go_ret;exact⟨-1,rfl,.inr ⟨rfl,HX.2⟩,HX.1⟩
theorem im_contains(w:World)(hg:Gd w)(hr:RowV w v p (λi=>.string (A i)))(hp:p<=1048576):
  Calls Tryz.prog 125 #[v,.func (.func 126) #[] #[]] w λe w'=>e=.returned (.bool (!dc (∀j,j<p->nmp (A j))))/\Kz w w':=by
 have h1:=im_index w hg hr hp;obtain⟨pa,ca,rfl,hr2⟩:=hr;clear hg hr2 hp;obtain⟨z,hz⟩:∃z,z=dc (∀j,j<p->nmp (A j)):=⟨_,rfl⟩
 have HZ:Hid (z=dc (∀j,j<p->nmp (A j))):=hz;rw[<-hz];clear hz;go_enter Tryz.func125,Tryz.ntmps125;go_wp2_with fail;refine h1.mono ?_;rintro e w1 ⟨r,rfl,hR,hk⟩;have HK:Hid (Kz w w1):=hk;clear h1 hk;rcases hR with⟨h0,hn⟩|⟨rfl,hn⟩
 ·have HX:Hid (z=false):=(uh HZ).trans (dc_f hn);clear hn HZ;go_wp2_with fail;go_ret;exact⟨by rw[show z=false from HX];rfl,HK⟩
 ·have HX:Hid (z=true):=(uh HZ).trans (dc_t hn);clear hn HZ;go_wp2_with fail;go_ret;exact⟨by rw[show z=true from HX];rfl,HK⟩
structure Bw (W:World) (b:Nat) (r:Rw):Prop where
 c0:W.cell? ⟨b,0,none⟩=some (.int .i64 r.kl)
 c1:W.cell? ⟨b,1,none⟩=some (.int .i64 r.kh)
 c2:W.cell? ⟨b,2,none⟩=some (.int .i64 r.nl)
 c3:W.cell? ⟨b,3,none⟩=some (.int .i64 r.nh)
 c4:W.cell? ⟨b,4,none⟩=some (.int .i64 r.ol)
 c5:W.cell? ⟨b,5,none⟩=some (.int .i64 r.oh)
 c6:W.cell? ⟨b,6,none⟩=some (.int .i64 r.ml)
 c7:W.cell? ⟨b,7,none⟩=some (.int .i64 r.mh)
 c8:W.cell? ⟨b,8,none⟩=some (.int .i64 r.t)
theorem Bw.kz{r:Rw}(h:Bw W b r)(hb:Kz W W'):Bw W' b r:=by
 have hl:=lt_of_cell h.c0;have e:∀j,W'.cell? ⟨b,j,none⟩=W.cell? ⟨b,j,none⟩:=λj=>hb.cell (p:=⟨b,j,none⟩) hl;exact⟨(e _).trans h.c0,(e _).trans h.c1,(e _).trans h.c2,(e _).trans h.c3,(e _).trans h.c4,(e _).trans h.c5,(e _).trans h.c6,(e _).trans h.c7,(e _).trans h.c8⟩
theorem Bw.new(W:World)(r:Rw)(t:TypeId):Bw (W.alloc (.cells #[.int .i64 r.kl,.int .i64 r.kh,.int .i64 r.nl,.int .i64 r.nh,.int .i64 r.ol,.int .i64 r.oh,.int .i64 r.ml,.int .i64 r.mh,.int .i64 r.t] t)) W.heap.size r:=by
 have e:∀j,(W.alloc (.cells #[.int .i64 r.kl,.int .i64 r.kh,.int .i64 r.nl,.int .i64 r.nh,.int .i64 r.ol,.int .i64 r.oh,.int .i64 r.ml,.int .i64 r.mh,.int .i64 r.t] t)).cell? ⟨W.heap.size,j,none⟩=(#[.int .i64 r.kl,.int .i64 r.kh,.int .i64 r.nl,.int .i64 r.nh,.int .i64 r.ol,.int .i64 r.oh,.int .i64 r.ml,.int .i64 r.mh,.int .i64 r.t]:Array Value)[j]?:=λj=>World.cell?_alloc_at _ _ _ _ rfl;exact⟨e 0,e 1,e 2,e 3,e 4,e 5,e 6,e 7,e 8⟩
theorem Bx.kz{a:Fv}(h:Bx W b a vn vk)(hb:Kz W W'):Bx W' b a vn vk:=by
 have hl:=lt_of_cell h.c0;have e:∀j,W'.cell? ⟨b,j,none⟩=W.cell? ⟨b,j,none⟩:=λj=>hb.cell (p:=⟨b,j,none⟩) hl;exact⟨(e _).trans h.c0,(e _).trans h.c1,(e _).trans h.c2,(e _).trans h.c3,(e _).trans h.c4,(e _).trans h.c5,(e _).trans h.c6,(e _).trans h.c7,(e _).trans h.c8⟩
theorem im_holdz(x y k:Int)(w:World):Calls Tryz.prog 117 #[.agg #[.int .i64 x,.int .i64 y],.int .i64 k] w λe w'=>e=.returned (.bool (dc (x<=k/\k<=y)))/\Kz w w':=(im_holds x y k w).mono λ_ _ h=>⟨h.1,.of_below h.2⟩
theorem im_altext(r:Rw)(hr:r.t=0\/r.t=1\/r.t=3\/r.t=4)(x:ByteArray)(w:World)(hg:Gd w):Calls Tryz.prog 118 #[rwv r,.string x] w λe w'=>e=.returned (.bool (dc (txo nmp flp r.t x)))/\Kz w w':=by
 obtain⟨kl,kh,nl,nh,ol,oh,ml,mh,t⟩:=r;have hr':t=0\/t=1\/t=3\/t=4:=hr;clear hr;show Calls Tryz.prog 118 #[rwv ⟨kl,kh,nl,nh,ol,oh,ml,mh,t⟩,.string x] w λe w'=>e=.returned (.bool (dc (txo nmp flp t x)))/\Kz w w';unfold rwv;rcases hr' with rfl|rfl|rfl|rfl
 ·rw[txo_0];clear hg;by_cases h:x=⟨#[]⟩
  ·rw[dc_t h];subst h;go_enter Tryz.func118,Tryz.ntmps118;go_wp2_with fail;go_ret;exact⟨rfl,.of_below (bel1 _ _)⟩
  ·rw[dc_f h];have h1:=str1 h;clear h;go_enter Tryz.func118,Tryz.ntmps118;go_wp2_with fail;go_ret;exact⟨by simp[h1],.of_below (bel1 _ _)⟩
 ·rw[txo_1];have h1:=λf u l n (o:Obj)=>nm_w x f u l n (w.alloc o) ((Kz.of_below (bel1 w o)).gd hg);clear hg;generalize dc (nmp x)=z at h1⊢;go_enter Tryz.func118,Tryz.ntmps118;go_wp2_with fail;refine(h1 _ _ _ _ _).mono ?_;rintro e w1 ⟨R,rfl,hR,hk⟩;have HK:Hid (Kz w w1):=(Kz.of_below (bel1 _ _)).trans (Kz.of_kept hk);clear h1 hk;cases z with
  |true=>
   have g1:=str1 (λh=>by have:=hR.1 h;cases this);clear hR;go_wp2_with fail;go_ret;exact⟨by simp[g1],HK⟩
  |false=>
   have g1:=hR.2 rfl;subst g1;clear hR;go_wp2_with fail;go_ret;exact⟨rfl,HK⟩
 ·rw[txo_3];have h1:=λf u l n (o:Obj)=>fl_w x f u l n (w.alloc o) ((Kz.of_below (bel1 w o)).gd hg);clear hg;generalize dc (flp x)=z at h1⊢;go_enter Tryz.func118,Tryz.ntmps118;go_wp2_with fail;refine(h1 _ _ _ _ _).mono ?_;rintro e w1 ⟨R,rfl,hR,hk⟩;have HK:Hid (Kz w w1):=(Kz.of_below (bel1 _ _)).trans (Kz.of_kept hk);clear h1 hk;cases z with
  |true=>
   have g1:=str1 (λh=>by have:=hR.1 h;cases this);clear hR;go_wp2_with fail;go_ret;exact⟨by simp[g1],HK⟩
  |false=>
   have g1:=hR.2 rfl;subst g1;clear hR;go_wp2_with fail;go_ret;exact⟨rfl,HK⟩
 ·rw[txo_4];have h1:=λf u l n (o:Obj)=>st_w x f u l n (w.alloc o) ((Kz.of_below (bel1 w o)).gd hg);clear hg;generalize dc (x.size<=4000)=z at h1⊢;go_enter Tryz.func118,Tryz.ntmps118;go_wp2_with fail;refine(h1 _ _ _ _ _).mono ?_;rintro e w1 ⟨R,rfl,hR,hk⟩;have HK:Hid (Kz w w1):=(Kz.of_below (bel1 _ _)).trans (Kz.of_kept hk);clear h1 hk;cases z with
  |true=>
   have g1:=str1 (λh=>by have:=hR.1 h;cases this);clear hR;go_wp2_with fail;go_ret;exact⟨by simp[g1],HK⟩
  |false=>
   have g1:=hR.2 rfl;subst g1;clear hR;go_wp2_with fail;go_ret;exact⟨rfl,HK⟩
theorem im_alnames(r:Rw)(w:World)(hg:Gd w)(hr:RowV w v p (λi=>.string (A i)))(hp:p<=1048576):
  Calls Tryz.prog 119 #[rwv r,v] w λe w'=>e=.returned (.bool (dc ((r.nl<=(p:Int)/\(p:Int)<=r.nh)/\∀j,j<p->nmp (A j))))/\Kz w w':=by
 have HC:Hid (∀W,Kz w W->Calls Tryz.prog 125 #[v,.func (.func 126) #[] #[]] W λe w'=>e=.returned (.bool (!dc (∀j,j<p->nmp (A j))))/\Kz W w'):=(λW hk=>im_contains W (hk.gd hg) (hr.kz hk) hp:∀W,_)
 obtain⟨pa,ca,rfl,hr2⟩:=hr;have hpI:(p:Int)<=1048576:=by omega
 clear hg hr2 hp;obtain⟨kl,kh,nl,nh,ol,oh,ml,mh,t⟩:=r;obtain⟨R,hR⟩:∃R,R=dc ((nl<=(p:Int)/\(p:Int)<=nh)/\∀j,j<p->nmp (A j)):=⟨_,rfl⟩
 have HR:Hid (R=dc ((nl<=(p:Int)/\(p:Int)<=nh)/\∀j,j<p->nmp (A j))):=hR;show Calls Tryz.prog 119 #[rwv ⟨kl,kh,nl,nh,ol,oh,ml,mh,t⟩,.slice pa p ca] w λe w'=>e=.returned (.bool (dc ((nl<=(p:Int)/\(p:Int)<=nh)/\∀j,j<p->nmp (A j))))/\Kz w w';rw[<-hR];clear hR;have hkz:=λo:Obj=>Kz.of_below (bel1 w o);unfold rwv;go_enter Tryz.func119,Tryz.ntmps119;go_wp2_with fail;refine(im_holdz _ _ _ _).mono ?_;rintro e w1 ⟨rfl,k1⟩;have K1:=(hkz _).trans k1;have HK1:Hid (Kz w w1):=K1;clear hkz k1;by_cases h:nl<=(p:Int)/\(p:Int)<=nh
 ·rw[dc_t h];have hc:=(uh HC) w1 K1;clear K1 HC;go_wp2_with fail;refine hc.mono ?_;rintro e w2 ⟨rfl,k2⟩;have HK2:Hid (Kz w w2):=(uh HK1).trans k2;clear hc k2 HK1;by_cases g:∀j,j<p->nmp (A j)
  ·rw[dc_t g];have HX:Hid (R=true):=(uh HR).trans (dc_t ⟨h,g⟩);clear h g HR;go_wp2_with fail;go_ret;exact⟨by rw[show R=true from HX];rfl,HK2⟩
  ·rw[dc_f g];have HX:Hid (R=false):=(uh HR).trans (dc_f (λz=>g z.2));clear h g HR;go_wp2_with fail;go_ret;exact⟨by rw[show R=false from HX];rfl,HK2⟩
 ·rw[dc_f h];have HX:Hid (R=false):=(uh HR).trans (dc_f (λz=>h z.1));clear h HR K1 HC;go_wp2_with fail;go_ret;exact⟨by rw[show R=false from HX];rfl,HK1⟩
theorem im_allows(r:Rw)(ht:r.t=0\/r.t=1\/r.t=3\/r.t=4){a:Fv}(w:World)(hg:Gd w)(hn:RowV w vn p (λi=>.string (A i)))(hk:∃pk ck,vk=.slice pk q ck)(hp:p<=1048576)(hq:q<=1048576):
  Calls Tryz.prog 101 #[rwv r,fmv a vn vk] w λe w'=>e=.returned (.bool (dc (alw nmp flp r a p A q)))/\Kz w w':=by
 obtain⟨pk,ck,rfl⟩:=hk;have HN:Hid (∀W,Kz w W->Calls Tryz.prog 119 #[rwv r,vn] W λe w'=>e=.returned (.bool (dc ((r.nl<=(p:Int)/\(p:Int)<=r.nh)/\∀j,j<p->nmp (A j))))/\Kz W w'):=(λW hz=>im_alnames r W (hz.gd hg) (hn.kz hz) hp:∀W,_)
 have HT:Hid (∀W,Kz w W->Calls Tryz.prog 118 #[rwv r,.string a.x] W λe w'=>e=.returned (.bool (dc (txo nmp flp r.t a.x)))/\Kz W w'):=(λW hz=>im_altext r ht a.x W (hz.gd hg):∀W,_)
 obtain⟨pn,cn,rfl,hn2⟩:=hn;have hqI:(q:Int)<=1048576:=by omega
 clear hg hn2 hp hq ht;obtain⟨kl,kh,nl,nh,ol,oh,ml,mh,t⟩:=r;obtain⟨k,f,u,l,o,m,x⟩:=a;obtain⟨R,hR⟩:∃R,R=dc (alw nmp flp ⟨kl,kh,nl,nh,ol,oh,ml,mh,t⟩ ⟨k,f,u,l,o,m,x⟩ p A q):=⟨_,rfl⟩
 rw[<-hR];have OUT:Hid (∀g:alw nmp flp ⟨kl,kh,nl,nh,ol,oh,ml,mh,t⟩ ⟨k,f,u,l,o,m,x⟩ p A q->False,R=false):=(λg=>hR.trans (dc_f g):∀g:alw nmp flp ⟨kl,kh,nl,nh,ol,oh,ml,mh,t⟩ ⟨k,f,u,l,o,m,x⟩ p A q->False,R=false)
 have YES:Hid (alw nmp flp ⟨kl,kh,nl,nh,ol,oh,ml,mh,t⟩ ⟨k,f,u,l,o,m,x⟩ p A q->R=true):=(λg=>hR.trans (dc_t g):alw nmp flp ⟨kl,kh,nl,nh,ol,oh,ml,mh,t⟩ ⟨k,f,u,l,o,m,x⟩ p A q->R=true)
 clear hR;obtain⟨W2,hW2⟩:∃W2,W2=(w.alloc (.cells #[.int .i64 kl,.int .i64 kh,.int .i64 nl,.int .i64 nh,.int .i64 ol,.int .i64 oh,.int .i64 ml,.int .i64 mh,.int .i64 t] 134)).alloc (.cells #[.int .i64 k,.int .i64 f,.int .i64 u,.int .i64 l,.int .i64 o,.int .i64 m,.string x,.slice pn p cn,.slice pk q ck] 44):=⟨_,rfl⟩
 have K2:Kz w W2:=by rw[hW2];exact .of_below (bel2 _ _ _)
 have bw2:Bw W2 w.heap.size ⟨kl,kh,nl,nh,ol,oh,ml,mh,t⟩:=by
  rw[hW2];exact(Bw.new w ⟨kl,kh,nl,nh,ol,oh,ml,mh,t⟩ 134).kz (.of_below (bel1 _ _))
 have bx2:Bx W2 (w.heap.size+1) ⟨k,f,u,l,o,m,x⟩ (.slice pn p cn) (.slice pk q ck):=by
  rw[hW2];have:=Bx.new (w.alloc (.cells #[.int .i64 kl,.int .i64 kh,.int .i64 nl,.int .i64 nh,.int .i64 ol,.int .i64 oh,.int .i64 ml,.int .i64 mh,.int .i64 t] 134)) ⟨k,f,u,l,o,m,x⟩ (.slice pn p cn) (.slice pk q ck) 44
  simpa using this
 have HB2:Hid (Kz w W2/\Bw W2 w.heap.size ⟨kl,kh,nl,nh,ol,oh,ml,mh,t⟩/\Bx W2 (w.heap.size+1) ⟨k,f,u,l,o,m,x⟩ (.slice pn p cn) (.slice pk q ck)):=(⟨K2,bw2,bx2⟩:_/\_/\_)
 clear K2 bw2 bx2;unfold rwv fmv at*;go_enter Tryz.func101,Tryz.ntmps101;by_cases h0:0<=f
 case neg=>
  have HX:Hid (R=false):=OUT (λz=>h0 z.1.1);clear hW2 HB2 HN HT OUT YES;go_wp2_with fail;go_ret;exact⟨by rw[show R=false from HX];rfl,.of_below (bel2 _ _ _)⟩
 by_cases h1:f<=u
 case neg=>
  have HX:Hid (R=false):=OUT (λz=>h1 z.1.2.1);clear hW2 HB2 HN HT OUT YES;go_wp2_with fail;go_ret;exact⟨by rw[show R=false from HX];rfl,.of_below (bel2 _ _ _)⟩
 by_cases h2:0<=l
 case neg=>
  have HX:Hid (R=false):=OUT (λz=>h2 z.1.2.2);clear hW2 HB2 HN HT OUT YES;go_wp2_with fail;go_ret;exact⟨by rw[show R=false from HX];rfl,.of_below (bel2 _ _ _)⟩
 go_wp2_with fail;rw[<-hW2];clear hW2;refine(im_holdz kl kh (q:Int) W2).mono ?_;rintro e W3 ⟨rfl,kz0⟩;have HB3:Hid (Kz w W3/\Bw W3 w.heap.size ⟨kl,kh,nl,nh,ol,oh,ml,mh,t⟩/\Bx W3 (w.heap.size+1) ⟨k,f,u,l,o,m,x⟩ (.slice pn p cn) (.slice pk q ck)):=(⟨HB2.1.trans kz0,HB2.2.1.kz kz0,HB2.2.2.kz kz0⟩:_/\_/\_)
 clear kz0 HB2;by_cases g0:kl<=(q:Int)/\(q:Int)<=kh
 case neg=>
  rw[dc_f g0];have HX:Hid (R=false):=OUT (λz=>g0 z.2.1);have HZ:Hid (Kz w W3):=HB3.1;clear HB3 HN HT OUT YES g0;go_wp2_with fail;go_ret;exact⟨by rw[show R=false from HX];rfl,HZ⟩
 rw[dc_t g0];obtain⟨r0,r1,r2,r3,r4,r5,r6,r7,r8⟩:=(uh HB3).2.1;have d:=(uh HB3).2.2.c4;go_wp2_with fail;clear d r0 r1 r2 r3 r4 r5 r6 r7 r8;refine(im_holdz ol oh o W3).mono ?_;rintro e W4 ⟨rfl,kz1⟩;have HB4:Hid (Kz w W4/\Bw W4 w.heap.size ⟨kl,kh,nl,nh,ol,oh,ml,mh,t⟩/\Bx W4 (w.heap.size+1) ⟨k,f,u,l,o,m,x⟩ (.slice pn p cn) (.slice pk q ck)):=(⟨HB3.1.trans kz1,HB3.2.1.kz kz1,HB3.2.2.kz kz1⟩:_/\_/\_)
 clear kz1 HB3;by_cases g1:ol<=o/\o<=oh
 case neg=>
  rw[dc_f g1];have HX:Hid (R=false):=OUT (λz=>g1 z.2.2.1);have HZ:Hid (Kz w W4):=HB4.1;clear HB4 HN HT OUT YES g1;go_wp2_with fail;go_ret;exact⟨by rw[show R=false from HX];rfl,HZ⟩
 rw[dc_t g1];obtain⟨r0,r1,r2,r3,r4,r5,r6,r7,r8⟩:=(uh HB4).2.1;have d:=(uh HB4).2.2.c5;go_wp2_with fail;clear d r0 r1 r2 r3 r4 r5 r6 r7 r8;refine(im_holdz ml mh m W4).mono ?_;rintro e W5 ⟨rfl,kz2⟩;have HB5:Hid (Kz w W5/\Bw W5 w.heap.size ⟨kl,kh,nl,nh,ol,oh,ml,mh,t⟩/\Bx W5 (w.heap.size+1) ⟨k,f,u,l,o,m,x⟩ (.slice pn p cn) (.slice pk q ck)):=(⟨HB4.1.trans kz2,HB4.2.1.kz kz2,HB4.2.2.kz kz2⟩:_/\_/\_)
 clear kz2 HB4;by_cases g2:ml<=m/\m<=mh
 case neg=>
  rw[dc_f g2];have HX:Hid (R=false):=OUT (λz=>g2 z.2.2.2.1);have HZ:Hid (Kz w W5):=HB5.1;clear HB5 HN HT OUT YES g2;go_wp2_with fail;go_ret;exact⟨by rw[show R=false from HX];rfl,HZ⟩
 rw[dc_t g2];obtain⟨r0,r1,r2,r3,r4,r5,r6,r7,r8⟩:=(uh HB5).2.1;have d:=(uh HB5).2.2.c6;go_wp2_with fail;clear d r0 r1 r2 r3 r4 r5 r6 r7 r8;refine(((uh HT) W5 (uh HB5).1)).mono ?_;rintro e W6 ⟨rfl,kz3⟩;have HB6:Hid (Kz w W6/\Bw W6 w.heap.size ⟨kl,kh,nl,nh,ol,oh,ml,mh,t⟩/\Bx W6 (w.heap.size+1) ⟨k,f,u,l,o,m,x⟩ (.slice pn p cn) (.slice pk q ck)):=(⟨HB5.1.trans kz3,HB5.2.1.kz kz3,HB5.2.2.kz kz3⟩:_/\_/\_)
 clear kz3 HB5;by_cases g3:txo nmp flp t x
 case neg=>
  rw[dc_f g3];have HX:Hid (R=false):=OUT (λz=>g3 z.2.2.2.2.1);have HZ:Hid (Kz w W6):=HB6.1;clear HB6 HN HT OUT YES g3;go_wp2_with fail;go_ret;exact⟨by rw[show R=false from HX];rfl,HZ⟩
 rw[dc_t g3];obtain⟨r0,r1,r2,r3,r4,r5,r6,r7,r8⟩:=(uh HB6).2.1;have d:=(uh HB6).2.2.c7;go_wp2_with fail;clear d r0 r1 r2 r3 r4 r5 r6 r7 r8;refine(((uh HN) W6 (uh HB6).1)).mono ?_;rintro e W7 ⟨rfl,kz4⟩;have HB7:Hid (Kz w W7/\Bw W7 w.heap.size ⟨kl,kh,nl,nh,ol,oh,ml,mh,t⟩/\Bx W7 (w.heap.size+1) ⟨k,f,u,l,o,m,x⟩ (.slice pn p cn) (.slice pk q ck)):=(⟨HB6.1.trans kz4,HB6.2.1.kz kz4,HB6.2.2.kz kz4⟩:_/\_/\_)
 clear kz4 HB6;by_cases g4:(nl<=(p:Int)/\(p:Int)<=nh)/\∀j,j<p->nmp (A j)
 case neg=>
  rw[dc_f g4];have HX:Hid (R=false):=OUT (λz=>g4 z.2.2.2.2.2);have HZ:Hid (Kz w W7):=HB7.1;clear HB7 HN HT OUT YES g4;go_wp2_with fail;go_ret;exact⟨by rw[show R=false from HX];rfl,HZ⟩
 rw[dc_t g4];have HX:Hid (R=true):=YES ⟨⟨h0,h1,h2⟩,g0,g1,g2,g3,g4⟩;have HZ:Hid (Kz w W7):=HB7.1;clear HB7 HN HT OUT YES g4;go_wp2_with fail;go_ret;exact⟨by rw[show R=true from HX];rfl,HZ⟩
