import Derived.Laws.FloatArith
namespace Go.Proofs.YtohbcpfjjimdnaaGreatDoor.Flt
open Ieee
variable {m k:Nat}{a b:Int}
theorem d_self(a:Datum):(a.isNaN=true/\∀b,a.order b=none/\b.order a=none)\/(a.isNaN=false/\a.order a=some .eq):=by
 cases a with
 |nan s t=>left;refine⟨rfl,λb=>⟨by simp[Datum.order],by cases b<;>simp[Datum.order]⟩⟩
 |infinity s=>right;refine⟨rfl,by simp[Datum.order]⟩
 |number s m i=>right;refine⟨rfl,by simp[Datum.order]⟩
theorem d_some(a b:Datum)(ha:a.isNaN=false)(hb:b.isNaN=false):∃o,a.order b=some o:=by
 cases a<;>cases b<;>simp_all[Datum.order,Datum.isNaN]
theorem order_cases(x y:Nat):
  (FloatKind.f64.format.order x x=none/\FloatKind.f64.format.order x y=none)\/
  (FloatKind.f64.format.order x x=some .eq/\FloatKind.f64.format.order y y=none/\FloatKind.f64.format.order x y=none)\/
  (FloatKind.f64.format.order x x=some .eq/\FloatKind.f64.format.order y y=some .eq/\
   (FloatKind.f64.format.order x y=some .lt\/FloatKind.f64.format.order x y=some .gt\/FloatKind.f64.format.order x y=some .eq)):=by
 unfold Format.order;rcases d_self (FloatKind.f64.format.read x)with⟨_,h⟩|⟨hx,h⟩
 ·exact Or.inl ⟨(h _).1,(h _).1⟩
 rcases d_self (FloatKind.f64.format.read y)with⟨_,k⟩|⟨hy,k⟩
 ·exact Or.inr (Or.inl ⟨h,(k _).1,(k _).2⟩)
 obtain⟨o,ho⟩:=d_some _ _ hx hy;refine Or.inr (Or.inr ⟨h,k,?_⟩);rw[ho];cases o<;>simp
theorem c_lp:double.leastPlace=-1074:=by decide
theorem c_bn:double.binade=4503599627370496:=by decide
theorem c_ir:double.infRung=9218868437227405312:=by decide
theorem c_sw:double.signWeight=9223372036854775808:=by decide
structure Canon (m k:Nat):Prop where
 lt:m<9007199254740992
 low:4503599627370496<=m\/k=0
 le:k<=2045
theorem Canon.rung(h:Canon m k):k*4503599627370496+m<9218868437227405312:=by
 have:=h.lt;have:=h.le;omega
theorem word_parts(s:Bool)(r:Nat)(h:r<9223372036854775808):
  (double.word s r / double.signWeight%2==1)=s/\double.word s r%double.signWeight=r:=by
 unfold Format.word;rw[c_sw];cases s
 ·simp;omega
 ·simp;omega
theorem read_word(s:Bool)(h:Canon m k):double.read (double.word s (k*4503599627370496+m))=.number s m ((k:Int)-1074):=by
 have hr:=h.rung;obtain⟨e1,e2⟩:=word_parts s (k*4503599627370496+m) (by omega);have:=h.lt;have:=h.low;have:=h.le;unfold Format.read;simp only[e1,e2,c_bn,c_ir,c_lp];by_cases hk:k*4503599627370496+m<4503599627370496
 ·rw[if_pos hk];have:k=0:=by omega
  subst this
  simp
 ·rw[if_neg hk,if_pos hr]
  congr 1
  ·omega
  ·omega
theorem read_inf(s:Bool):double.read (double.word s 9218868437227405312)=.infinity s:=by
 obtain⟨e1,e2⟩:=word_parts s 9218868437227405312 (by omega);unfold Format.read;simp only[e1,e2,c_bn,c_ir]
 simp
theorem read_cases(x:Nat)(hx:x<18446744073709551616):
  (∃s t,double.read x=.nan s t)\/
  (∃s,double.read x=.infinity s/\x=double.word s 9218868437227405312)\/
  (∃s m k,Canon m k/\double.read x=.number s m ((k:Int)-1074)/\x=double.word s (k*4503599627370496+m)):=by
 have hxx:x=double.word (x / 9223372036854775808%2==1) (x%9223372036854775808):=by
  unfold Format.word;rw[c_sw];by_cases h:9223372036854775808<=x
  ·have:x / 9223372036854775808=1:=by omega
   simp[this];omega
  ·have:x / 9223372036854775808=0:=by omega
   simp[this];omega
 generalize (x / 9223372036854775808%2==1)=s at hxx;have hr:x%9223372036854775808<9223372036854775808:=by omega
 generalize x%9223372036854775808=r at hxx hr;subst hxx;by_cases h1:r<9218868437227405312
 ·right;right
  by_cases h2:r<4503599627370496
  ·have hc:Canon r 0:=⟨by omega,Or.inr rfl,by omega⟩
   refine⟨s,r,0,hc,?_,by simp⟩;have:=read_word s hc
   simpa using this
  ·have hc:Canon (4503599627370496+r%4503599627370496) (r / 4503599627370496-1):=⟨by omega,Or.inl (by omega),by omega⟩
   have e:(r / 4503599627370496-1)*4503599627370496+(4503599627370496+r%4503599627370496)=r:=by omega
   have:=read_word s hc;rw[e]at this;exact⟨s,_,_,hc,this,by rw[e]⟩
 ·by_cases h3:r=9218868437227405312
  ·subst h3;exact Or.inr (Or.inl ⟨s,read_inf s,rfl⟩)
  ·left
   obtain⟨e1,e2⟩:=word_parts s r hr;refine⟨s,r-9218868437227405312,?_⟩;unfold Format.read;simp only[e1,e2,c_bn,c_ir];rw[if_neg (by omega),if_neg h1,if_neg h3]
def eU:Nat:=1074
def U:Nat:=2 ^ eU
theorem U_pos:0<U:=Nat.two_pow_pos eU
theorem U_eq(a b:Nat)(h:a+b=1074):U=2 ^ a*2 ^ b:=by
 have g:a+b=eU:=h;rw[<-Nat.pow_add,g,U]
theorem pow_U(k:Nat)(h:1074<=k):2 ^ k=2 ^ (k-1074)*U:=by
 have g:k-1074+eU=k:=by unfold eU;omega
 rw[U,<-Nat.pow_add,g]
def vl(s:Bool)(v:Nat):Int:=if s then-(v:Int)else v
theorem cmp_mul(a b c:Int)(h:0<c):compare (a*c) (b*c)=compare a b:=by
 rcases Int.lt_trichotomy a b with g|g|g
 ·rw[Int.compare_eq_lt.2 g,Int.compare_eq_lt.2 (Int.mul_lt_mul_of_pos_right g h)]
 ·subst g;simp
 ·rw[Int.compare_eq_gt.2 g,Int.compare_eq_gt.2 (Int.mul_lt_mul_of_pos_right g h)]
theorem signed_vl(s:Bool)(m u:Nat):signed s m u=vl s (m*2 ^ u):=by
 unfold signed vl;rw[Nat.shiftLeft_eq]
theorem vl_mul(s:Bool)(v c:Nat):vl s (v*c)=vl s v*(c:Int):=by
 cases s<;>simp[vl,Int.neg_mul]
theorem order_num(s t:Bool)(m n k l:Nat):
  (Datum.number s m ((k:Int)-1074)).order (.number t n ((l:Int)-1074))=some (compare (vl s (m*2 ^ k)) (vl t (n*2 ^ l))):=by
 unfold Datum.order;simp only[signed_vl];have e1:((k:Int)-1074-min ((k:Int)-1074) ((l:Int)-1074)).toNat=k-min k l:=by omega
 have e2:((l:Int)-1074-min ((k:Int)-1074) ((l:Int)-1074)).toNat=l-min k l:=by omega
 rw[e1,e2];have f1:m*2 ^ k=m*2 ^ (k-min k l)*2 ^ min k l:=by rw[Nat.mul_assoc,<-Nat.pow_add];congr 2;omega
 have f2:n*2 ^ l=n*2 ^ (l-min k l)*2 ^ min k l:=by rw[Nat.mul_assoc,<-Nat.pow_add];congr 2;omega
 rw[f1,f2,vl_mul s (m*2 ^ (k-min k l)) (2 ^ min k l),vl_mul t (n*2 ^ (l-min k l)) (2 ^ min k l),cmp_mul];have:=Nat.two_pow_pos (min k l);omega
theorem units(m k:Nat):(m<<<((k:Int)-1074).toNat) / 2 ^ (-((k:Int)-1074)).toNat=m*2 ^ k / U/\
  ((m<<<((k:Int)-1074).toNat)%2 ^ (-((k:Int)-1074)).toNat=0↔m*2 ^ k%U=0):=by
 rw[Nat.shiftLeft_eq];by_cases h:1074<=k
 ·have e1:((k:Int)-1074).toNat=k-1074:=by omega
  have e2:(-((k:Int)-1074)).toNat=0:=by omega
  have e3:m*2 ^ k=m*2 ^ (k-1074)*U:=by
   rw[pow_U k h,Nat.mul_assoc]
  rw[e1,e2,e3,Nat.mul_div_cancel _ U_pos,Nat.mul_mod_left];simp[Nat.mod_one]
 ·have e1:((k:Int)-1074).toNat=0:=by omega
  have e2:(-((k:Int)-1074)).toNat=1074-k:=by omega
  have e3:U=2 ^ (1074-k)*2 ^ k:=U_eq _ _ (by omega);rw[e1,e2,e3,Nat.pow_zero,Nat.mul_one,Nat.mul_div_mul_right _ _ (Nat.two_pow_pos k),Nat.mul_mod_mul_right];refine⟨rfl,?_⟩;constructor
  ·intro g;rw[g];simp
  ·intro g;rcases Nat.mul_eq_zero.1 g with g|g
   ·exact g
   ·have:=Nat.two_pow_pos k;omega
def floorW(x:Nat):Nat:=double.write ((double.read x).integral .down)
def eO:Nat:=1022
def eC:Nat:=1085
theorem zero_read:double.read 0=.number false 0 (((0:Nat):Int)-1074):=by decide
theorem cmp_lt(h:a<b):compare a b=.lt:=Int.compare_eq_lt.2 h
theorem cmp_gt(h:b<a):compare a b=.gt:=Int.compare_eq_gt.2 h
theorem cmp_eq(h:a=b):compare a b=.eq:=by subst h;simp
theorem f64_double:FloatKind.f64.format=double:=rfl
theorem zero_cases(x:Nat)(hx:x<18446744073709551616):
  (FloatKind.f64.format.order x x=none)\/
  (FloatKind.f64.format.order x x=some .eq/\FloatKind.f64.format.order x 0=some .eq/\(x=0\/x=9223372036854775808))\/
  (FloatKind.f64.format.order x x=some .eq/\(FloatKind.f64.format.order x 0=some .lt\/FloatKind.f64.format.order x 0=some .gt)):=by
 simp only[f64_double];rcases read_cases x hx with⟨s,t,hr⟩|⟨s,hr,hw⟩|⟨s,m,k,hc,hr,hw⟩
 ·left;unfold Format.order;rw[hr];rfl
 ·right;right
  unfold Format.order;rw[hr,zero_read];refine⟨by simp[Datum.order],?_⟩;cases s<;>simp[Datum.order]
 ·right
  have oxx:double.order x x=some .eq:=by
   unfold Format.order;rw[hr,order_num,cmp_eq rfl]
  have ox0:double.order x 0=some (compare (vl s (m*2 ^ k)) 0):=by
   unfold Format.order;rw[hr,zero_read,order_num];simp[vl]
  by_cases hm:m=0
  ·left
   subst hm;have hk:k=0:=by have:=hc.low;omega
   subst hk;refine⟨oxx,by rw[ox0];cases s<;>simp[vl],?_⟩;rw[hw];cases s
   ·left;rfl
   ·right;rfl
  ·right
   have hV:0<m*2 ^ k:=Nat.mul_pos (by omega) (Nat.two_pow_pos k);refine⟨oxx,?_⟩;rw[ox0];cases s
   ·right;rw[cmp_gt];simp only[vl,Bool.false_eq_true,if_false];omega
   ·left;rw[cmp_lt];simp only[vl,if_true];omega
