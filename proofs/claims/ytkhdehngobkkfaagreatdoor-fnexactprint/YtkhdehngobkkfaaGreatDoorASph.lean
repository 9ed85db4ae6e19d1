import Derived.Test.YtkhdehngobkkfaaGreatDoorAZsp
set_option maxRecDepth 100000
set_option maxHeartbeats 8000000
namespace Go.Proofs.YtkhdehngobkkfaaGreatDoor.Fo
open Go.ChangeShapes Go.WideShapes Go.ChangeAt Go.RowKit
set_option linter.unusedVariables false
variable {TT FR FK n:Nat}{F:Nat->Gv}{v:Value}
theorem Cel9.conj{W:World}{b:Addr}{a:Fv}{vn vk:Value}(h:Cel9 W b a vn vk):W.cell? b=some (.int .i64 a.k)/\W.cell? ⟨b.block,b.off+1,none⟩=some (.int .i64 a.f)/\W.cell? ⟨b.block,b.off+2,none⟩=some (.int .i64 a.t)/\W.cell? ⟨b.block,b.off+3,none⟩=some (.int .i64 a.l)/\W.cell? ⟨b.block,b.off+4,none⟩=some (.int .i64 a.o)/\W.cell? ⟨b.block,b.off+5,none⟩=some (.int .i64 a.m)/\W.cell? ⟨b.block,b.off+6,none⟩=some (.string a.x)/\W.cell? ⟨b.block,b.off+7,none⟩=some vn/\W.cell? ⟨b.block,b.off+8,none⟩=some vk:=⟨h.c0,h.c1,h.c2,h.c3,h.c4,h.c5,h.c6,h.c7,h.c8⟩
theorem rwk_t(k:Int)(q:Nat):(rwk k q).t=0\/(rwk k q).t=1\/(rwk k q).t=3\/(rwk k q).t=4:=by
 unfold rwk;split<;>simp
theorem sdk_in(k m:Int)(q i:Nat):0<=sdk k m q i/\sdk k m q i<=9:=by
 unfold sdk
 repeat' split
 all_goals omega
structure Mth (t:TypeId) (fr fk:Nat):Prop where
 row:∀v W,Sem.run Tryz.prog (Go.method 346 t v "loop.example/heddle/impl.row") W=.ok (fr,v) W
 kid:∀v W,Sem.run Tryz.prog (Go.method 346 t v "loop.example/heddle/impl.kid") W=.ok (fk,v) W
theorem mth_s:Mth 153 209 208:=⟨λ_ _=>by kernel_rfl,λ_ _=>by kernel_rfl⟩
theorem mth_e:Mth 154 212 211:=⟨λ_ _=>by kernel_rfl,λ_ _=>by kernel_rfl⟩
theorem mth_t:Mth 155 214 213:=⟨λ_ _=>by kernel_rfl,λ_ _=>by kernel_rfl⟩
theorem im_fit(mth:Mth TT FR FK)(eK:∀args w,(callFunc FK args).run Tryz.prog w=.ok (.enter FK args) w){pf:Option Addr}{cf:Nat}(w:World)(hf:RowF w (.slice pf n cf) n F)(i:Nat)(hi:i<n)(hn:n<=1048576)(hq:(F i).q<=1048576)(pn:Option Addr)(cn:Nat)(pk:Option Addr)(ck:Nat)(hkd:∀W j,j<(F i).q->Calls Tryz.prog FK #[.agg #[.int .i64 (F i).a.k,.int .i64 (F i).a.f,.int .i64 (F i).a.t,.int .i64 (F i).a.l,.int .i64 (F i).a.o,.int .i64 (F i).a.m,.string (F i).a.x,.slice pn (F i).p cn,.slice pk (F i).q ck],.int .i64 (j:Int)] W λe w'=>e=.returned (.int .i64 (sdk (F i).a.k (F i).a.m (F i).q j))/\Below W.heap.size W w')(hc0:∃c,pf=some c/\Cel9 w (c.add (i*9)) (F i).a (.slice pn (F i).p cn) (.slice pk (F i).q ck)):
  Calls Tryz.prog 102 #[.iface TT (.agg #[.int .i64 (F i).a.k,.int .i64 (F i).a.f,.int .i64 (F i).a.t,.int .i64 (F i).a.l,.int .i64 (F i).a.o,.int .i64 (F i).a.m,.string (F i).a.x,.slice pn (F i).p cn,.slice pk (F i).q ck]),.slice pf n cf,.int .i64 i] w λe w'=>e=.returned (.bool (dc (∀j,j<(F i).q->0<=(F i).K j/\(F i).K j<(i:Int)/\tk (sdk (F i).a.k (F i).a.m (F i).q j) (kdk F (F i).K j))))/\Kz w w':=by
 obtain⟨c,rfl,hc⟩:=hc0
 obtain⟨hcc,hrc⟩:n<=cf/\∀i,i<n->FormC w (c.add (i*9)) (F i):=by
  obtain⟨pf,cf2,e,hf2⟩:=hf;obtain⟨c2,e2,hcc,hrc⟩:=hf2 (by omega);cases e;cases e2;exact⟨hcc,hrc⟩
 have hk2:0<(F i).q->∃a:Addr,pk=some a/\(F i).q<=ck/\∀j,j<(F i).q->w.cell? (a.add j)=some (.int .i64 ((F i).K j)):=by
  obtain⟨vn,vk,hx,_,hrk⟩:=hrc i hi;have e:=Option.some.inj (hx.c8.symm.trans hc.c8);subst e;obtain⟨pk2,ck2,e,hk2⟩:=hrk;cases e;exact hk2
 have hiI:(i:Int)<(n:Int):=by omega
 have hnI:(n:Int)<=1048576:=by omega
 have hqI:((F i).q:Int)<=1048576:=by omega
 obtain⟨R,hR⟩:∃R,R=dc (∀j,j<(F i).q->0<=(F i).K j/\(F i).K j<(i:Int)/\tk (sdk (F i).a.k (F i).a.m (F i).q j) (kdk F (F i).K j)):=⟨_,rfl⟩
 have HR:Hid (R=dc (∀j,j<(F i).q->0<=(F i).K j/\(F i).K j<(i:Int)/\tk (sdk (F i).a.k (F i).a.m (F i).q j) (kdk F (F i).K j))):=hR;rw[<-hR];have HKD:Hid (∀W j,j<(F i).q->Calls Tryz.prog FK #[.agg #[.int .i64 (F i).a.k,.int .i64 (F i).a.f,.int .i64 (F i).a.t,.int .i64 (F i).a.l,.int .i64 (F i).a.o,.int .i64 (F i).a.m,.string (F i).a.x,.slice pn (F i).p cn,.slice pk (F i).q ck],.int .i64 j] W λe w'=>e=.returned (.int .i64 (sdk (F i).a.k (F i).a.m (F i).q j))/\Below W.heap.size W w'):=hkd;have HCX:Hid ((∀i,i<n->FormC w (c.add (i*9)) (F i))/\(0<(F i).q->∃a:Addr,pk=some a/\(F i).q<=ck/\∀j,j<(F i).q->w.cell? (a.add j)=some (.int .i64 ((F i).K j)))):=(⟨hrc,hk2⟩:_/\_)
 have HK0:Hid (Kz w w):=Kz.of_below (Below.refl _ _);obtain⟨d0,d1,d2,d3,d4,d5,d6,d7,d8⟩:=hc;have HIN:Hid (i<n):=hi;clear hf hrc hk2 hR hi hn hq hkd;go_enter Tryz.func102,Tryz.ntmps102;go_wp2_with fail;clear d0 d1 d2 d3 d4 d5 d6 d7 d8
 go_loopw [15] (λs15 wr=>∃j:Nat,s15=.int .i64 j/\j<=(F i).q/\Hid (Kz w wr/\∀m,m<j->0<=(F i).K m/\(F i).K m<(i:Int)/\tk (sdk (F i).a.k (F i).a.m (F i).q m) (kdk F (F i).K m))) (λs15 _=>(F i).q-(intOf s15).toNat)
 case atStart=>exact⟨0,rfl,Nat.zero_le _,(⟨HK0,λm hm=>by omega⟩:_/\_)⟩
 case round=>
  clear HK0;obtain⟨j,rfl,hjq,HI⟩:=hrel;obtain⟨hz,ha⟩:=(uh HI)
  obtain⟨hrc,hk2⟩:=(uh HCX)
  rcases Nat.lt_or_ge j (F i).q with hj|hj
  ·have hjI:(j:Int)<((F i).q:Int):=by omega
   obtain⟨b,rfl,hcb,hrb⟩:=hk2 (by omega);have qa:=(hz.cell (lt_of_cell' (hrb j hj))).trans (hrb j hj);obtain⟨kx,hkx⟩:∃kx,kx=(F i).K j:=⟨_,rfl⟩
   rw[<-hkx]at qa;have HZ:Hid (Kz w wr):=hz;rcases Int.lt_or_le kx 0 with g0|g0
   ·have HX:Hid (R=false):=(uh HR).trans (dc_f (λz=>by have:=(z j hj).1;omega));clear HI HR HCX HKD hz ha hrc hk2 hrb hkx;go_wp2_with fail
    go_quiet (skip)
    go_wp2_with fail;go_ret;exact⟨by rw[show R=false from HX];rfl,by first|exact HZ|exact Kz.drewN HZ _⟩
   ·have g0':¬kx<0:=by omega
    rcases Int.lt_or_le kx (i:Int)with g1|g1
    ·have g1':¬(i:Int)<=kx:=by omega
     have hkn:kx.toNat<n:=by have:=(uh HIN);omega
     have hkI:kx<(n:Int):=by omega
     obtain⟨vn2,vk2,hc2,hrn2,hrk2⟩:=hrc kx.toNat hkn;obtain⟨pn2,cn2,rfl,_⟩:=hrn2;obtain⟨pk2,ck2,rfl,_⟩:=hrk2;have HC2:Hid (Cel9 w (c.add (kx.toNat*9)) (F kx.toNat).a (.slice pn2 (F kx.toNat).p cn2) (.slice pk2 (F kx.toNat).q ck2)):=hc2;have s1:=(hc2.kz hz).conj;have hke:kdk F (F i).K j=(F kx.toNat).a.k:=by unfold kdk;rw[<-hkx]
     obtain⟨Rt,hRt⟩:∃Rt,Rt=dc (tk (sdk (F i).a.k (F i).a.m (F i).q j) (F kx.toNat).a.k):=⟨_,rfl⟩
     have HTK:Hid (∀W,Calls Tryz.prog 120 #[.int .i64 (sdk (F i).a.k (F i).a.m (F i).q j),.agg #[.int .i64 (F kx.toNat).a.k,.int .i64 (F kx.toNat).a.f,.int .i64 (F kx.toNat).a.t,.int .i64 (F kx.toNat).a.l,.int .i64 (F kx.toNat).a.o,.int .i64 (F kx.toNat).a.m,.string (F kx.toNat).a.x,.slice pn2 (F kx.toNat).p cn2,.slice pk2 (F kx.toNat).q ck2]] W λe w'=>e=.returned (.bool Rt)/\Below W.heap.size W w'):=(λW=>by rw[hRt];exact im_tk _ (F kx.toNat).a pn2 (F kx.toNat).p cn2 pk2 (F kx.toNat).q ck2 (sdk_in _ _ _ _) W:∀W,_)
     have HK7:Hid (∀W,Calls Tryz.prog FK #[.agg #[.int .i64 (F i).a.k,.int .i64 (F i).a.f,.int .i64 (F i).a.t,.int .i64 (F i).a.l,.int .i64 (F i).a.o,.int .i64 (F i).a.m,.string (F i).a.x,.slice pn (F i).p cn,.slice (some b) (F i).q ck],.int .i64 j] W λe w'=>e=.returned (.int .i64 (sdk (F i).a.k (F i).a.m (F i).q j))/\Below W.heap.size W w'):=(λW=>(uh HKD) W j hj:∀W,_)
     have HY:Hid (tk (sdk (F i).a.k (F i).a.m (F i).q j) (F kx.toNat).a.k->∀m,m<j+1->0<=(F i).K m/\(F i).K m<(i:Int)/\tk (sdk (F i).a.k (F i).a.m (F i).q m) (kdk F (F i).K m)):=(λht m hm=>by
      by_cases e:m=j
      ·rw[e,hke,<-hkx];exact⟨g0,g1,ht⟩
      ·exact ha m (by omega):_->∀m,_)
     have HNO:Hid (¬tk (sdk (F i).a.k (F i).a.m (F i).q j) (F kx.toNat).a.k->R=false):=(λht=>(uh HR).trans (dc_f (λz=>ht (by have:=(z j hj).2.2;rw[hke]at this;exact this))):_->_)
     have HRT:Hid (Rt=dc (tk (sdk (F i).a.k (F i).a.m (F i).q j) (F kx.toNat).a.k)):=hRt;have mt:=mth.kid;have K1:=hz;clear HI HR HCX HKD hz ha hrc hk2 hrb hkx hc2 hke hRt g1 hkn;generalize sdk (F i).a.k (F i).a.m (F i).q j=sd at*;go_wp2_with fail;have g0d:(kx<0)=False:=eq_false (by omega);have g1d:((i:Int)<=kx)=False:=eq_false (by omega)
     go_region_held_law (λW'=>W'.cell? (c.add (kx.toNat*9))=some (.int .i64 (F kx.toNat).a.k)/\W'.cell? ⟨(c.add (kx.toNat*9)).block,(c.add (kx.toNat*9)).off+1,none⟩=some (.int .i64 (F kx.toNat).a.f)/\W'.cell? ⟨(c.add (kx.toNat*9)).block,(c.add (kx.toNat*9)).off+2,none⟩=some (.int .i64 (F kx.toNat).a.t)/\W'.cell? ⟨(c.add (kx.toNat*9)).block,(c.add (kx.toNat*9)).off+3,none⟩=some (.int .i64 (F kx.toNat).a.l)/\W'.cell? ⟨(c.add (kx.toNat*9)).block,(c.add (kx.toNat*9)).off+4,none⟩=some (.int .i64 (F kx.toNat).a.o)/\W'.cell? ⟨(c.add (kx.toNat*9)).block,(c.add (kx.toNat*9)).off+5,none⟩=some (.int .i64 (F kx.toNat).a.m)/\W'.cell? ⟨(c.add (kx.toNat*9)).block,(c.add (kx.toNat*9)).off+6,none⟩=some (.string (F kx.toNat).a.x)/\W'.cell? ⟨(c.add (kx.toNat*9)).block,(c.add (kx.toNat*9)).off+7,none⟩=some (.slice pn2 (F kx.toNat).p cn2)/\W'.cell? ⟨(c.add (kx.toNat*9)).block,(c.add (kx.toNat*9)).off+8,none⟩=some (.slice pk2 (F kx.toNat).q ck2)) (first|exact s3|exact s2|exact s1)
      (first
       |(refine((uh HK7) _).mono ?_;rintro e w2 ⟨rfl,b2⟩;have K2:Kz w w2:=K1.trans ⟨b2.os,b2.output,b2.size,b2.block⟩;have s2:=((uh HC2).kz K2).conj)
       |(go_at_call 120;refine((uh HTK) _).mono ?_;rintro e w3 ⟨rfl,b3⟩;have K3:Kz w w3:=K2.trans ⟨b3.os,b3.output,b3.size,b3.block⟩;have s3:=((uh HC2).kz K3).conj))
     have HZ3:Hid (Kz w w3):=K3;clear s1 s2 s3 K1 K2 K3 b2 b3 HTK HK7 mt HC2 qa;by_cases ht:tk sd (F kx.toNat).a.k
     ·have hrt:Rt=true:=(uh HRT).trans (dc_t ht);subst hrt;have HY2:Hid (Kz w w3/\∀m,m<j+1->0<=(F i).K m/\(F i).K m<(i:Int)/\tk (sdk (F i).a.k (F i).a.m (F i).q m) (kdk F (F i).K m)):=(⟨HZ3,HY ht⟩:_/\_)
      clear ht HRT HY HNO HZ3;go_wp2_with fail;go_roundw
      case rel=>exact⟨j+1,by go_num,by omega,HY2⟩
      case measure=>simp[intOf];omega
     ·have hrt:Rt=false:=(uh HRT).trans (dc_f ht);subst hrt;have HX:Hid (R=false):=HNO ht;clear ht HRT HY HNO;go_wp2_with fail;go_ret;exact⟨by rw[show R=false from HX];rfl,HZ3⟩
    ·have HX:Hid (R=false):=(uh HR).trans (dc_f (λz=>by have:=(z j hj).2.1;omega));clear HI HR HCX HKD hz ha hrc hk2 hrb hkx g0;go_wp2_with fail;have g0d:(kx<0)=False:=eq_false (by omega);have g1d:((i:Int)<=kx)=True:=eq_true (by omega)
     go_quiet (skip)
     go_wp2_with fail;go_ret;exact⟨by rw[show R=false from HX];rfl,by first|exact HZ|exact Kz.drewN HZ _⟩
  ·have ej:j=(F i).q:=by omega
   have HX:Hid (R=true):=(uh HR).trans (dc_t (by rw[ej]at ha;exact ha));have HZ:Hid (Kz w wr):=hz;rw[ej];clear HI HR HCX HKD hz ha hrc hk2 ej hj hjq;go_wp2_with fail;go_ret;exact⟨by rw[show R=true from HX];rfl,HZ⟩
theorem im_shaped_g(mth:Mth TT FR FK)(eR:∀args w,(callFunc FR args).run Tryz.prog w=.ok (.enter FR args) w)(eK:∀args w,(callFunc FK args).run Tryz.prog w=.ok (.enter FK args) w)(w:World)(hg:Gd w)(hf:RowF w v n F)(i:Nat)(hi:i<n)(hn:n<=1048576)(hp:(F i).p<=1048576)(hq:(F i).q<=1048576)
  (hsh:∀(vn vk:Value) W,Calls Tryz.prog 100 #[fmv (F i).a vn vk] W λe w'=>e=.returned (.iface TT (fmv (F i).a vn vk))/\Below W.heap.size W w')
  (hrw:∀(vn:Value) (pk:Option Addr) (ck:Nat) W,Calls Tryz.prog FR #[fmv (F i).a vn (.slice pk (F i).q ck)] W λe w'=>e=.returned (rwv (rwk (F i).a.k (F i).q))/\Below W.heap.size W w')
  (hkd:∀(vn:Value) (pk:Option Addr) (ck j:Nat) W,j<(F i).q->((F i).a.k=7->(F i).q<=3)->Calls Tryz.prog FK #[fmv (F i).a vn (.slice pk (F i).q ck),.int .i64 j] W λe w'=>e=.returned (.int .i64 (sdk (F i).a.k (F i).a.m (F i).q j))/\Below W.heap.size W w'):
  Calls Tryz.prog 82 #[v,.int .i64 i] w λe w'=>e=.returned (.bool (dc (Ipk nmp flp F (F i).a (F i).p (F i).A (F i).q (F i).K (i:Int))))/\Kz w w':=by
 have hff:=hf;obtain⟨pf,cf,rfl,hf2⟩:=hf;obtain⟨c,rfl,hcc,hrc⟩:=hf2 (by omega);obtain⟨vn,vk,hc,hrn,hrk⟩:=hrc i hi;obtain⟨pn,cn,rfl,hn2⟩:=hrn;obtain⟨pk,ck,rfl,hk2⟩:=hrk;have hiI:(i:Int)<(n:Int):=by omega
 have hnI:(n:Int)<=1048576:=by omega
 have hqI:((F i).q:Int)<=1048576:=by omega
 have HSH:Hid (∀W,Calls Tryz.prog 100 #[.agg #[.int .i64 (F i).a.k,.int .i64 (F i).a.f,.int .i64 (F i).a.t,.int .i64 (F i).a.l,.int .i64 (F i).a.o,.int .i64 (F i).a.m,.string (F i).a.x,.slice pn (F i).p cn,.slice pk (F i).q ck]] W λe w'=>e=.returned (.iface TT (.agg #[.int .i64 (F i).a.k,.int .i64 (F i).a.f,.int .i64 (F i).a.t,.int .i64 (F i).a.l,.int .i64 (F i).a.o,.int .i64 (F i).a.m,.string (F i).a.x,.slice pn (F i).p cn,.slice pk (F i).q ck]))/\Below W.heap.size W w'):=(λW=>hsh _ _ W:∀W,_)
 have HRW:Hid (∀W,Calls Tryz.prog FR #[.agg #[.int .i64 (F i).a.k,.int .i64 (F i).a.f,.int .i64 (F i).a.t,.int .i64 (F i).a.l,.int .i64 (F i).a.o,.int .i64 (F i).a.m,.string (F i).a.x,.slice pn (F i).p cn,.slice pk (F i).q ck]] W λe w'=>e=.returned (rwv (rwk (F i).a.k (F i).q))/\Below W.heap.size W w'):=(λW=>hrw _ pk ck W:∀W,_)
 have HCL:Hid (Cel9 w (c.add (i*9)) (F i).a (.slice pn (F i).p cn) (.slice pk (F i).q ck)):=hc;obtain⟨d0,d1,d2,d3,d4,d5,d6,d7,d8⟩:=hc;have mt:=mth.row;by_cases hal:alw nmp flp (rwk (F i).a.k (F i).q) (F i).a (F i).p (F i).A (F i).q
 case neg=>
  have hX:dc (Ipk nmp flp F (F i).a (F i).p (F i).A (F i).q (F i).K (i:Int))=false:=dc_f (λz=>hal z.1);rw[hX]
  have HAL:Hid (∀W,Kz w W->Calls Tryz.prog 101 #[rwv (rwk (F i).a.k (F i).q),.agg #[.int .i64 (F i).a.k,.int .i64 (F i).a.f,.int .i64 (F i).a.t,.int .i64 (F i).a.l,.int .i64 (F i).a.o,.int .i64 (F i).a.m,.string (F i).a.x,.slice pn (F i).p cn,.slice pk (F i).q ck]] W λe w'=>e=.returned (.bool false)/\Kz W w'):=(λW hz=>by
   have:=im_allows (rwk (F i).a.k (F i).q) (rwk_t _ _) (a:=(F i).a) W (hz.gd hg) ((show RowV w (.slice pn (F i).p cn) (F i).p _ from⟨pn,cn,rfl,hn2⟩).kz hz) ⟨pk,ck,rfl⟩ hp hq;rw[dc_f hal]at this
   exact this:∀W,_)
  clear hf2 hrc hn2 hk2 hg hi hn hp hq hsh hrw hkd hff hX hal;go_enter Tryz.func82,Tryz.ntmps82;go_wp2_with fail;refine((uh HSH) w).mono ?_;rintro e w1 ⟨rfl,b1⟩;have K1:Kz w w1:=.of_below b1;have s1:=((uh HCL).kz K1).conj;clear d0 d1 d2 d3 d4 d5 d6 d7 d8 b1 HSH;go_wp2_with fail
  first|(go_region_held_law (λW'=>W'.cell? (c.add (i*9))=some (.int .i64 (F i).a.k)/\W'.cell? ⟨(c.add (i*9)).block,(c.add (i*9)).off+1,none⟩=some (.int .i64 (F i).a.f)/\W'.cell? ⟨(c.add (i*9)).block,(c.add (i*9)).off+2,none⟩=some (.int .i64 (F i).a.t)/\W'.cell? ⟨(c.add (i*9)).block,(c.add (i*9)).off+3,none⟩=some (.int .i64 (F i).a.l)/\W'.cell? ⟨(c.add (i*9)).block,(c.add (i*9)).off+4,none⟩=some (.int .i64 (F i).a.o)/\W'.cell? ⟨(c.add (i*9)).block,(c.add (i*9)).off+5,none⟩=some (.int .i64 (F i).a.m)/\W'.cell? ⟨(c.add (i*9)).block,(c.add (i*9)).off+6,none⟩=some (.string (F i).a.x)/\W'.cell? ⟨(c.add (i*9)).block,(c.add (i*9)).off+7,none⟩=some (.slice pn (F i).p cn)/\W'.cell? ⟨(c.add (i*9)).block,(c.add (i*9)).off+8,none⟩=some (.slice pk (F i).q ck)) (first|exact s3|exact s2|exact s1)
   (first
    |(refine((uh HRW) _).mono ?_;rintro e w2 ⟨rfl,b2⟩;have K2:Kz w w2:=K1.trans ⟨b2.os,b2.output,b2.size,b2.block⟩;have s2:=((uh HCL).kz K2).conj)
    |(go_at_call 101;refine((uh HAL) _ K2).mono ?_;rintro e w3 ⟨rfl,k3⟩;have K3:Kz w w3:=K2.trans k3;have s3:=((uh HCL).kz K3).conj)))|fail
  all_goals
   have HZ:Hid (Kz w w3):=K3;clear s1 s2 s3 K1 K2 K3 b2 k3 HRW HAL mt HCL;go_wp2_with fail;go_ret;exact⟨rfl,HZ⟩
 obtain⟨R,hR⟩:∃R,R=dc (∀j,j<(F i).q->0<=(F i).K j/\(F i).K j<(i:Int)/\tk (sdk (F i).a.k (F i).a.m (F i).q j) (kdk F (F i).K j)):=⟨_,rfl⟩
 have hX:dc (Ipk nmp flp F (F i).a (F i).p (F i).A (F i).q (F i).K (i:Int))=R:=by
  rw[hR];exact dc_iff ⟨λz=>z.2,λz=>⟨hal,z⟩⟩
 rw[hX]
 have HAL:Hid (∀W,Kz w W->Calls Tryz.prog 101 #[rwv (rwk (F i).a.k (F i).q),.agg #[.int .i64 (F i).a.k,.int .i64 (F i).a.f,.int .i64 (F i).a.t,.int .i64 (F i).a.l,.int .i64 (F i).a.o,.int .i64 (F i).a.m,.string (F i).a.x,.slice pn (F i).p cn,.slice pk (F i).q ck]] W λe w'=>e=.returned (.bool true)/\Kz W w'):=(λW hz=>by
  have:=im_allows (rwk (F i).a.k (F i).q) (rwk_t _ _) (a:=(F i).a) W (hz.gd hg) ((show RowV w (.slice pn (F i).p cn) (F i).p _ from⟨pn,cn,rfl,hn2⟩).kz hz) ⟨pk,ck,rfl⟩ hp hq;rw[dc_t hal]at this
  exact this:∀W,_)
 have h7:(F i).a.k=7->(F i).q<=3:=λe=>by
  have:=hal.2.1.2;rw[e]at this;have e2:(rwk 7 (F i).q).kh=3:=rfl;omega
 have HKF:Hid (∀W,Kz w W->Calls Tryz.prog 102 #[.iface TT (.agg #[.int .i64 (F i).a.k,.int .i64 (F i).a.f,.int .i64 (F i).a.t,.int .i64 (F i).a.l,.int .i64 (F i).a.o,.int .i64 (F i).a.m,.string (F i).a.x,.slice pn (F i).p cn,.slice pk (F i).q ck]),.slice (some c) n cf,.int .i64 i] W λe w'=>e=.returned (.bool R)/\Kz W w'):=(λW hz=>by
  rw[hR]
  exact im_fit mth eK W (hff.kz hz) i hi hn hq pn cn pk ck (λW j hj=>hkd _ pk ck j W hj h7) ⟨c,rfl,(uh HCL).kz hz⟩:∀W,_)
 clear hf2 hrc hn2 hk2 hg hi hn hp hq hsh hrw hkd hff hX hal hR h7;go_enter Tryz.func82,Tryz.ntmps82;go_wp2_with fail;refine((uh HSH) w).mono ?_;rintro e w1 ⟨rfl,b1⟩;have K1:Kz w w1:=.of_below b1;have s1:=((uh HCL).kz K1).conj;clear d0 d1 d2 d3 d4 d5 d6 d7 d8 b1 HSH;go_wp2_with fail
 go_region_held_law (λW'=>W'.cell? (c.add (i*9))=some (.int .i64 (F i).a.k)/\W'.cell? ⟨(c.add (i*9)).block,(c.add (i*9)).off+1,none⟩=some (.int .i64 (F i).a.f)/\W'.cell? ⟨(c.add (i*9)).block,(c.add (i*9)).off+2,none⟩=some (.int .i64 (F i).a.t)/\W'.cell? ⟨(c.add (i*9)).block,(c.add (i*9)).off+3,none⟩=some (.int .i64 (F i).a.l)/\W'.cell? ⟨(c.add (i*9)).block,(c.add (i*9)).off+4,none⟩=some (.int .i64 (F i).a.o)/\W'.cell? ⟨(c.add (i*9)).block,(c.add (i*9)).off+5,none⟩=some (.int .i64 (F i).a.m)/\W'.cell? ⟨(c.add (i*9)).block,(c.add (i*9)).off+6,none⟩=some (.string (F i).a.x)/\W'.cell? ⟨(c.add (i*9)).block,(c.add (i*9)).off+7,none⟩=some (.slice pn (F i).p cn)/\W'.cell? ⟨(c.add (i*9)).block,(c.add (i*9)).off+8,none⟩=some (.slice pk (F i).q ck)) (first|exact s4|exact s3|exact s2|exact s1)
  (first
   |(refine((uh HRW) _).mono ?_;rintro e w2 ⟨rfl,b2⟩;have K2:Kz w w2:=K1.trans ⟨b2.os,b2.output,b2.size,b2.block⟩;have s2:=((uh HCL).kz K2).conj)
   |(go_at_call 101;refine((uh HAL) _ K2).mono ?_;rintro e w3 ⟨rfl,k3⟩;have K3:Kz w w3:=K2.trans k3;have s3:=((uh HCL).kz K3).conj)
   |(go_at_call 102;refine((uh HKF) _ K3).mono ?_;rintro e w4 ⟨rfl,k4⟩;have K4:Kz w w4:=K3.trans k4;have s4:=((uh HCL).kz K4).conj))
 have HZ:Hid (Kz w w4):=K4;clear s1 s2 s3 s4 K1 K2 K3 K4 b2 k3 k4 HRW HAL HKF mt HCL;go_wp2_with fail;go_ret;exact⟨rfl,HZ⟩
