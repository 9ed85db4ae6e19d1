import Derived.Test.YtkhdehngobkkfaaGreatDoorASph
import Derived.Test.YtkhdehngobkkfaaGreatDoorAZrw
import Derived.Test.YtkhdehngobkkfaaGreatDoorAZre
import Derived.Test.YtkhdehngobkkfaaGreatDoorAZeq
set_option maxRecDepth 100000
set_option maxHeartbeats 8000000
namespace Go.Proofs.YtkhdehngobkkfaaGreatDoor.Fo
open Go.ChangeShapes Go.WideShapes Go.ChangeAt Go.RowKit
set_option linter.unusedVariables false
variable {TT FR FK n:Nat}{F:Nat->Gv}{v:Value}
theorem im_shaped_s(w:World)(hg:Gd w)(hf:RowF w v n F)(i:Nat)(hi:i<n)(hn:n<=1048576)(hp:(F i).p<=1048576)(hq:(F i).q<=1048576)(hk:1<=(F i).a.k/\(F i).a.k<=16):
  Calls Tryz.prog 82 #[v,.int .i64 i] w λe w'=>e=.returned (.bool (dc (Ipk nmp flp F (F i).a (F i).p (F i).A (F i).q (F i).K (i:Int))))/\Kz w w':=
 im_shaped_g mth_s (λ_ _=>by kernel_rfl) (λ_ _=>by kernel_rfl) w hg hf i hi hn hp hq (λvn vk W=>im_shs (F i).a vn vk hk W) (λvn pk ck W=>im_rows (F i).a vn pk (F i).q ck hk hq W) (λvn pk ck j W hj h7=>im_kids (F i).a vn pk (F i).q ck j hk hq hj h7 W)
theorem im_shaped_e(w:World)(hg:Gd w)(hf:RowF w v n F)(i:Nat)(hi:i<n)(hn:n<=1048576)(hp:(F i).p<=1048576)(hq:(F i).q<=1048576)(hk:20<=(F i).a.k/\(F i).a.k<=37):
  Calls Tryz.prog 82 #[v,.int .i64 i] w λe w'=>e=.returned (.bool (dc (Ipk nmp flp F (F i).a (F i).p (F i).A (F i).q (F i).K (i:Int))))/\Kz w w':=
 im_shaped_g mth_e (λ_ _=>by kernel_rfl) (λ_ _=>by kernel_rfl) w hg hf i hi hn hp hq (λvn vk W=>im_she (F i).a vn vk hk W) (λvn pk ck W=>im_rowe (F i).a vn pk (F i).q ck hk hq W) (λvn pk ck j W hj h7=>im_kide (F i).a vn pk (F i).q ck j hk hq hj h7 W)
theorem im_shaped_t(w:World)(hg:Gd w)(hf:RowF w v n F)(i:Nat)(hi:i<n)(hn:n<=1048576)(hp:(F i).p<=1048576)(hq:(F i).q<=1048576)(hk:40<=(F i).a.k/\(F i).a.k<=42):
  Calls Tryz.prog 82 #[v,.int .i64 i] w λe w'=>e=.returned (.bool (dc (Ipk nmp flp F (F i).a (F i).p (F i).A (F i).q (F i).K (i:Int))))/\Kz w w':=
 im_shaped_g mth_t (λ_ _=>by kernel_rfl) (λ_ _=>by kernel_rfl) w hg hf i hi hn hp hq (λvn vk W=>im_sht (F i).a vn vk hk W) (λvn pk ck W=>im_rowt (F i).a vn pk (F i).q ck hk hq W) (λvn pk ck j W hj h7=>im_kidt (F i).a vn pk (F i).q ck j hk hq hj h7 W)
theorem im_shaped_n(w:World)(hf:RowF w v n F)(i:Nat)(hi:i<n)(hn:n<=1048576)(hk:¬(1<=(F i).a.k/\(F i).a.k<=16)/\¬(20<=(F i).a.k/\(F i).a.k<=37)/\¬(40<=(F i).a.k/\(F i).a.k<=42)):
  Calls Tryz.prog 82 #[v,.int .i64 i] w λe w'=>e=.returned (.bool false)/\Kz w w':=by
 obtain⟨pf,cf,rfl,hf2⟩:=hf;obtain⟨c,rfl,hcc,hrc⟩:=hf2 (by omega);obtain⟨vn,vk,hc,hrn,hrk⟩:=hrc i hi;obtain⟨pn,cn,rfl,hn2⟩:=hrn;obtain⟨pk,ck,rfl,hk2⟩:=hrk;have hiI:(i:Int)<(n:Int):=by omega
 have HSH:Hid (∀W,Calls Tryz.prog 100 #[.agg #[.int .i64 (F i).a.k,.int .i64 (F i).a.f,.int .i64 (F i).a.t,.int .i64 (F i).a.l,.int .i64 (F i).a.o,.int .i64 (F i).a.m,.string (F i).a.x,.slice pn (F i).p cn,.slice pk (F i).q ck]] W λe w'=>e=.returned .nilIface/\Below W.heap.size W w'):=(λW=>im_shn (F i).a _ _ hk W:∀W,_)
 obtain⟨d0,d1,d2,d3,d4,d5,d6,d7,d8⟩:=hc;clear hf2 hrc hn2 hk2 hk;go_enter Tryz.func82,Tryz.ntmps82;go_wp2_with fail;refine((uh HSH) w).mono ?_;rintro e w1 ⟨rfl,b1⟩;have HZ:Hid (Kz w w1):=Kz.of_below b1;clear d0 d1 d2 d3 d4 d5 d6 d7 d8 b1 HSH;go_wp2_with fail
 go_quiet (skip)
 go_wp2_with fail;go_ret;exact⟨rfl,by first|exact HZ|exact Kz.drewN HZ _⟩
theorem im_shaped(w:World)(hg:Gd w)(hf:RowF w v n F)(i:Nat)(hi:i<n)(hn:n<=1048576)(hp:(F i).p<=1048576)(hq:(F i).q<=1048576)(hm:-9223372036854775808<=(F i).a.m/\(F i).a.m<=9223372036854775807):
  Calls Tryz.prog 82 #[v,.int .i64 i] w λe w'=>e=.returned (.bool (dc (ndk nmp flp F i)))/\Kz w w':=by
 rw[dc_iff (ndk_iff hm)];by_cases h1:1<=(F i).a.k/\(F i).a.k<=16
 ·rw[dc_iff (and_iff_right (show kok (F i).a.k from .inl h1))];exact im_shaped_s w hg hf i hi hn hp hq h1
 ·by_cases h2:20<=(F i).a.k/\(F i).a.k<=37
  ·rw[dc_iff (and_iff_right (show kok (F i).a.k from .inr (.inl h2)))];exact im_shaped_e w hg hf i hi hn hp hq h2
  ·by_cases h3:40<=(F i).a.k/\(F i).a.k<=42
   ·rw[dc_iff (and_iff_right (show kok (F i).a.k from .inr (.inr h3)))];exact im_shaped_t w hg hf i hi hn hp hq h3
   ·rw[dc_f (λh=>by have:=h.1;unfold kok at this;omega)];exact im_shaped_n w hf i hi hn ⟨h1,h2,h3⟩
inductive Mis (F:Nat->Gv) (n:Nat):Int->Prop
 |at (i:Nat):i<n->(∀j,j<i->ndk nmp flp F j)->¬ndk nmp flp F i->Mis F n (i:Int)
 |none:(∀j,j<n->ndk nmp flp F j)->Mis F n (-1)
theorem im_misshapen(w:World)(hg:Gd w)(hf:RowF w v n F)(hn:n<=1048576)(hp:∀i,i<n->(F i).p<=1048576)(hq:∀i,i<n->(F i).q<=1048576)(hm:∀i,i<n->-9223372036854775808<=(F i).a.m/\(F i).a.m<=9223372036854775807):
  Calls Tryz.prog 50 #[v] w λe w'=>∃r:Int,e=.returned (.int .i64 r)/\Mis F n r/\Kz w w':=by
 have HC:Hid (∀W i,Kz w W->i<n->Calls Tryz.prog 82 #[v,.int .i64 i] W λe w'=>e=.returned (.bool (dc (ndk nmp flp F i)))/\Kz W w'):=(λW i hz hi=>im_shaped W (hz.gd hg) (hf.kz hz) i hi hn (hp i hi) (hq i hi) (hm i hi):∀W i,_)
 obtain⟨pf,cf,rfl,_⟩:=hf;have hnI:(n:Int)<=1048576:=by omega
 clear hg hn hp hq hm;go_enter Tryz.func50,Tryz.ntmps50;go_wp2_with fail
 go_loopw [6] (λs6 wr=>∃i:Nat,s6=.int .i64 i/\i<=n/\Hid (Kz w wr/\∀j,j<i->ndk nmp flp F j)) (λs6 _=>n-(intOf s6).toNat)
 case atStart=>exact⟨0,rfl,Nat.zero_le _,(⟨Kz.refl _,λj hj=>by omega⟩:_/\_)⟩
 case round=>
  obtain⟨i,rfl,hin,HI⟩:=hrel;obtain⟨hz,ha⟩:=(uh HI)
  rcases Nat.lt_or_ge i n with hi|hi
  ·have hiI:(i:Int)<(n:Int):=by omega
   have hc:=(uh HC) wr i hz hi;by_cases hd:ndk nmp flp F i
   ·rw[dc_t hd]at hc
    have HX:Hid (Kz w wr/\∀j,j<i+1->ndk nmp flp F j):=(⟨hz,λj hj=>by
     by_cases e:j=i
     ·rw[e];exact hd
     ·exact ha j (by omega)⟩:_/\_)
    clear HI hz ha hd HC;go_wp2_with fail;refine hc.mono ?_;rintro e w1 ⟨rfl,k1⟩;have HX1:Hid (Kz w w1/\∀j,j<i+1->ndk nmp flp F j):=(⟨HX.1.trans k1,HX.2⟩:_/\_)
    clear hc k1 HX;go_wp2_with fail;go_roundw
    case rel=>exact⟨i+1,by go_num,by omega,HX1⟩
    case measure=>simp[intOf];omega
   ·rw[dc_f hd]at hc;have HX:Hid (Kz w wr/\Mis F n (i:Int)):=(⟨hz,.at i hi ha hd⟩:_/\_)
    clear HI hz ha hd HC;go_wp2_with fail;refine hc.mono ?_;rintro e w1 ⟨rfl,k1⟩;have HX1:Hid (Kz w w1/\Mis F n (i:Int)):=(⟨HX.1.trans k1,HX.2⟩:_/\_)
    clear hc k1 HX;go_wp2_with fail;go_ret;exact⟨(i:Int),rfl,HX1.2,HX1.1⟩
  ·obtain rfl:i=n:=by omega
   have HX:Hid (Kz w wr/\Mis F i (-1)):=(⟨hz,.none ha⟩:_/\_)
   clear HI hz ha HC;go_wp2_with fail;go_ret;exact⟨-1,rfl,HX.2,HX.1⟩
theorem im_ends(w:World)(hf:RowF w v n F)(hn:n<=1048576):
  Calls Tryz.prog 49 #[v] w λe w'=>e=.returned (.bool (dc (0<n/\n<=3000/\(F (n-1)).a.k=1)))/\Kz w w':=by
 obtain⟨pf,cf,rfl,hf2⟩:=hf;have hnI:(n:Int)<=1048576:=by omega
 rcases Nat.eq_zero_or_pos n with h0|h0
 ·subst h0;rw[dc_f (by omega)];clear hf2;go_enter Tryz.func49,Tryz.ntmps49;go_wp2_with fail;go_ret;exact⟨rfl,.refl _⟩
 ·have h0':0<(n:Int):=by omega
  rcases Nat.lt_or_ge 3000 n with h1|h1
  ·rw[dc_f (by omega)];have h1':¬(n:Int)<=3000:=by omega
   clear hf2;go_enter Tryz.func49,Tryz.ntmps49;go_wp2_with fail;go_ret;exact⟨rfl,.refl _⟩
  ·obtain⟨c,rfl,hcc,hrc⟩:=hf2 h0;have h1':(n:Int)<=3000:=by omega
   obtain⟨vn,vk,hc,_,_⟩:=hrc (n-1) (by omega);obtain⟨m,hm⟩:∃m:Nat,m=n-1:=⟨_,rfl⟩
   rw[<-hm]at hc⊢;have hm1:(n:Int)-1=(m:Int):=by omega
   have hm2:(m:Int)<(n:Int):=by omega
   have d0:=hc.c0;by_cases hk:(F m).a.k=1
   ·rw[dc_t ⟨h0,h1,hk⟩];have hk':=beq1 hk;clear hf2 hrc hc hm hk;go_enter Tryz.func49,Tryz.ntmps49;go_wp2_with fail;go_ret;exact⟨rfl,.refl _⟩
   ·rw[dc_f (λz=>hk z.2.2)];have hk':=bne hk;clear hf2 hrc hc hm hk;go_enter Tryz.func49,Tryz.ntmps49;go_wp2_with fail;go_ret;exact⟨rfl,.refl _⟩
