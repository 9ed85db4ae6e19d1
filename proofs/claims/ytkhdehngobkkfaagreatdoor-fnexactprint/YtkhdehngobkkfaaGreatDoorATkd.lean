import Derived.Test.YtkhdehngobkkfaaGreatDoorATfa
import Derived.Test.YtkhdehngobkkfaaGreatDoorAPma
set_option maxRecDepth 100000
set_option maxHeartbeats 4000000
namespace Go.Proofs.YtkhdehngobkkfaaGreatDoor
open Go.ChangeShapes Go.WideShapes Go.ChangeAt Go.RowKit
set_option linter.unusedVariables false
variable {w:World}
def spl(k:Int):ByteArray:=
 if k=5 then⟨#[59]⟩else if k=7 then⟨#[10]⟩else if 10<=k/\k<=31 then wordsB (k-10).toNat else if 40<=k/\k<=50 then marksB (k-40).toNat else if 61<=k/\k<=78 then infixB (k-61).toNat else⟨#[]⟩
theorem gd_word(h:Gd w)(i:Nat)(hi:i<22):w.cell? ⟨0,i,none⟩=some (.string (wordsB i)):=by
 have:=h.words i (.string (wordsB i)) (by have:=words_get i hi;simpa using this);rw[Nat.zero_add]at this;exact this
theorem gd_mark(h:Gd w)(i:Nat)(hi:i<11):w.cell? ⟨1,i,none⟩=some (.string (marksB i)):=by
 have:=h.marks i (.string (marksB i)) (by have:=marks_get i hi;simpa using this);rw[Nat.zero_add]at this;exact this
theorem gd_infix(h:Gd w)(i:Nat)(hi:i<18):w.cell? ⟨2,i,none⟩=some (.string (infixB i)):=by
 have:=h.infx i (.string (infixB i)) (by have:=infix_get i hi;simpa using this);rw[Nat.zero_add]at this;exact this
theorem impl_spell(k:Int)(w:World)(hg:Gd w):Calls Tryz.prog 93 #[.int .i64 k] w λe w'=>e=.returned (.string (spl k))/\w'=w:=by
 by_cases h5:k=5
 ·have e:spl k=⟨#[59]⟩:=by unfold spl;rw[if_pos h5]
  rw[e];subst h5;clear e;go_enter Tryz.func93,Tryz.ntmps93;go_wp2_with fail;go_ret;exact⟨rfl,rfl⟩
 ·have n5:(k==5)=false:=by simpa using h5
  by_cases h7:k=7
  ·have e:spl k=⟨#[10]⟩:=by unfold spl;rw[if_neg h5,if_pos h7]
   rw[e];subst h7;clear e;go_enter Tryz.func93,Tryz.ntmps93;go_wp2_with fail;go_ret;exact⟨rfl,rfl⟩
  ·have n7:(k==7)=false:=by simpa using h7
   by_cases hw:10<=k/\k<=31
   ·obtain⟨i,hi⟩:∃i:Nat,k=(i:Int)+10:=⟨(k-10).toNat,by omega⟩
    have e:spl k=wordsB i:=by unfold spl;rw[if_neg h5,if_neg h7,if_pos hw];congr 1;omega
    rw[e];have hc:=gd_word hg i (by omega);have hiI:(i:Int)<22:=by omega
    subst hi;clear e h5 h7 hw hg;have a1:(10:Int)<=(i:Int)+10:=by omega
    have a2:(i:Int)+10<=31:=by omega
    generalize wordsB i=X at*;go_enter Tryz.func93,Tryz.ntmps93;go_wp2_with fail;go_ret;exact⟨rfl,rfl⟩
   ·have hw2:(¬(10:Int)<=k)\/((10:Int)<=k/\¬k<=31):=by omega
    by_cases hm:40<=k/\k<=50
    ·obtain⟨i,hi⟩:∃i:Nat,k=(i:Int)+40:=⟨(k-40).toNat,by omega⟩
     have e:spl k=marksB i:=by unfold spl;rw[if_neg h5,if_neg h7,if_neg hw,if_pos hm];congr 1;omega
     rw[e];have hc:=gd_mark hg i (by omega);have hiI:(i:Int)<11:=by omega
     subst hi;clear e h5 h7 hw hg hw2 hm;have a0:(10:Int)<=(i:Int)+40:=by omega
     have a1:¬(i:Int)+40<=31:=by omega
     have a2:(40:Int)<=(i:Int)+40:=by omega
     have a3:(i:Int)+40<=50:=by omega
     generalize marksB i=X at*;go_enter Tryz.func93,Tryz.ntmps93;go_wp2_with fail;go_ret;exact⟨rfl,rfl⟩
    ·by_cases hx:61<=k/\k<=78
     ·obtain⟨i,hi⟩:∃i:Nat,k=(i:Int)+61:=⟨(k-61).toNat,by omega⟩
      have e:spl k=infixB i:=by unfold spl;rw[if_neg h5,if_neg h7,if_neg hw,if_neg hm,if_pos hx];congr 1;omega
      rw[e];have hc:=gd_infix hg i (by omega);have hiI:(i:Int)<18:=by omega
      subst hi;clear e h5 h7 hw hg hw2 hm hx;have a0:(10:Int)<=(i:Int)+61:=by omega
      have a1:¬(i:Int)+61<=31:=by omega
      have a2:(40:Int)<=(i:Int)+61:=by omega
      have a3:¬(i:Int)+61<=50:=by omega
      have a4:(60:Int)<(i:Int)+61:=by omega
      have a5:(i:Int)+61<=78:=by omega
      generalize infixB i=X at*;go_enter Tryz.func93,Tryz.ntmps93;go_wp2_with fail;go_ret;exact⟨rfl,rfl⟩
     ·have e:spl k=⟨#[]⟩:=by unfold spl;rw[if_neg h5,if_neg h7,if_neg hw,if_neg hm,if_neg hx]
      rw[e];have hm2:(¬(40:Int)<=k)\/((40:Int)<=k/\¬k<=50):=by omega
      have hx2:(¬(60:Int)<k)\/((60:Int)<k/\¬k<=78):=by omega
      clear e h5 h7 hw hg hm hx;rcases hw2 with w1|⟨w1,w2⟩<;>rcases hm2 with m1|⟨m1,m2⟩<;>rcases hx2 with x1|⟨x1,x2⟩
      all_goals
       go_enter Tryz.func93,Tryz.ntmps93;go_wp2_with fail;go_ret;exact⟨rfl,rfl⟩
theorem spl_sign:∀m:Fin 30,spl (ssv (sgnL.getD m.val []))=sgnB m.val:=by decide+kernel
theorem mark_sign:∀b:Fin 11,∃m:Fin 30,ssv (sgnL.getD m.val [])=40+(b.val:Int):=by decide+kernel
theorem infix_sign:∀b:Fin 18,∃m:Fin 30,ssv (sgnL.getD m.val [])=61+(b.val:Int):=by decide+kernel
theorem sign_first(k:Int):∃m,m<=30/\(∀j,j<m->ssv (sgnL.getD j [])≠k)/\(m=30\/ssv (sgnL.getD m [])=k):=by
 have key:∀n,n<=30->(∃m,m<n/\(∀j,j<m->ssv (sgnL.getD j [])≠k)/\ssv (sgnL.getD m [])=k)\/(∀j,j<n->ssv (sgnL.getD j [])≠k):=by
  intro n
  induction n with
  |zero=>intro _;right;intro j hj;omega
  |succ n ih=>
   intro hn;rcases ih (by omega)with⟨m,h1,h2,h3⟩|h
   ·exact .inl ⟨m,by omega,h2,h3⟩
   ·by_cases e:ssv (sgnL.getD n [])=k
    ·exact .inl ⟨n,by omega,h,e⟩
    ·right
     intro j hj;by_cases ej:j=n
     ·subst ej;exact e
     ·exact h j (by omega)
 rcases key 30 (Nat.le_refl _)with⟨m,h1,h2,h3⟩|h
 ·exact⟨m,by omega,h2,.inr h3⟩
 ·exact⟨30,Nat.le_refl _,h,.inl rfl⟩
theorem wrd_cell(W:World)(i:Nat)(hi:i<22):(W.alloc (.cells wordsA 9)).cell? ⟨W.heap.size,i,none⟩=some (.string (wordsB i)):=by
 have:=words_get i hi;simp[this]
theorem spec_text(k:Int)(h7:k≠7)(w:World):Calls Tryz.prog 42 #[.int .i64 k] w λe w'=>e=.returned (.string (spl k))/\Below w.heap.size w w':=by
 have hws:=spec_words w;by_cases h5:k=5
 ·have e:spl k=⟨#[59]⟩:=by unfold spl;rw[if_pos h5]
  rw[e];subst h5;clear e;go_enter Tryz.func42,Tryz.ntmps42;go_wp2_with fail;go_ret;exact⟨rfl,Below.refl _ _⟩
 ·have n5:(k==5)=false:=by simpa using h5
  have HB1:Hid (Below w.heap.size w (w.alloc (.cells wordsA 9))):=(Below.refl _ w).alloc (Nat.le_refl _) _;by_cases hw:10<=k/\k<=31
  ·obtain⟨i,hi⟩:∃i:Nat,k=(i:Int)+10:=⟨(k-10).toNat,by omega⟩
   have e:spl k=wordsB i:=by unfold spl;rw[if_neg h5,if_neg h7,if_pos hw];congr 1;omega
   rw[e];have hc:=wrd_cell w i (by omega);have hiI:(i:Int)<22:=by omega
   obtain⟨W1,hW1⟩:∃W1,W1=w.alloc (.cells wordsA 9):=⟨_,rfl⟩
   rw[<-hW1]at hc HB1 hws;subst hi;clear e h5 h7 hw hW1;have a1:(10:Int)<=(i:Int)+10:=by omega
   have a2:(i:Int)+10<32:=by omega
   generalize wordsB i=X at*;go_enter Tryz.func42,Tryz.ntmps42;go_wp2_with fail;refine hws.mono ?_;rintro e w1 ⟨rfl,hw1⟩;rw[hw1];clear hws hw1;go_wp2_with fail;go_ret;exact⟨rfl,HB1⟩
  ·have hw2:(¬(10:Int)<=k)\/((10:Int)<=k/\¬k<32):=by omega
   obtain⟨W1,hW1⟩:∃W1,W1=w.alloc (.cells wordsA 9):=⟨_,rfl⟩
   rw[<-hW1]at HB1 hws;have hsg:=spec_signs W1;obtain⟨W2,hW2,HC2⟩:∃W2,W2=W1.alloc (.cells sgnA 9)/\Hid (∀i,i<30->W2.cell? ⟨W1.heap.size,i,none⟩=some (.string (sgnB i))):=⟨_,rfl,(λi hi=>sgn_cell W1 i hi:∀i,i<30->_)⟩
   rw[<-hW2]at hsg;have HB2:Hid (Below w.heap.size w W2):=by rw[hW2];exact HB1.alloc HB1.size _
   have HW2:Hid (W1.heap.size<W2.heap.size):=by rw[hW2];show _<_;simp
   obtain⟨m,hm30,hne,hlast⟩:=sign_first k;have HNE:Hid (∀j,j<m->ssv (sgnL.getD j [])≠k):=hne
   have HF:Hid ((m=30/\spl k=⟨#[]⟩)\/(m<30/\ssv (sgnL.getD m [])=k/\spl k=sgnB m)):=by
    by_cases e:m=30
    ·refine .inl ⟨e,?_⟩;unfold spl;rw[if_neg h5,if_neg h7,if_neg hw,if_neg (λg=>?_),if_neg (λg=>?_)]
     ·obtain⟨j,hj⟩:=infix_sign ⟨(k-61).toNat,by omega⟩;exact hne j.val (by omega) (by rw[hj];show(61:Int)+(((k-61).toNat:Nat):Int)=k;omega)
     ·obtain⟨j,hj⟩:=mark_sign ⟨(k-40).toNat,by omega⟩;exact hne j.val (by omega) (by rw[hj];show(40:Int)+(((k-40).toNat:Nat):Int)=k;omega)
    ·have h3:=hlast.resolve_left e;refine .inr ⟨by omega,h3,?_⟩;have:=spl_sign ⟨m,by omega⟩;rw[show ssv (sgnL.getD (⟨m,by omega⟩:Fin 30).val [])=k from h3]at this;exact this
   clear h5 h7 hw hne hlast hW1 hW2 HB1;rcases hw2 with w1|⟨w1,w2⟩
   all_goals
    go_enter Tryz.func42,Tryz.ntmps42;go_wp2_with fail;refine hws.mono ?_;rintro e w1' ⟨rfl,hw1⟩;rw[hw1];clear hw1;go_wp2_with fail;refine hsg.mono ?_;rintro e w2' ⟨rfl,hw2⟩;rw[hw2];clear hw2;go_wp2_with fail
    go_loopw [25] (λs wr=>∃i:Nat,s=.int .i64 i/\i<=m/\Hid (Below w.heap.size w wr/\wr.heap[W1.heap.size]? =W2.heap[W1.heap.size]? /\W1.heap.size<wr.heap.size)) (λs _=>30-(intOf s).toNat)
    case atStart=>exact⟨0,rfl,Nat.zero_le _,(⟨HB2,rfl,HW2⟩:_/\_/\_)⟩
    case round=>
     obtain⟨i,rfl,him,HI⟩:=hrel;obtain⟨hB,hE,hL⟩:=(uh HI)
     by_cases h30:i<30
     ·have hcell:wr.cell? ⟨W1.heap.size,i,none⟩=some (.string (sgnB i)):=by rw[World.cell?_of_block hE];exact(uh HC2) i h30
      have hi30:(i:Int)<30:=by omega
      have hsr:=spec_sign_run (sgnB i) wr
      have HN:Hid (∀w3,Below wr.heap.size wr w3->Below w.heap.size w w3/\w3.heap[W1.heap.size]? =W2.heap[W1.heap.size]? /\W1.heap.size<w3.heap.size):=
       (λw3 hb=>⟨hB.trans (hb.mono hB.size),(hb.block _ hL).trans hE,Nat.lt_of_lt_of_le hL hb.size⟩:∀w3,_)
      rw[sgn_list]at hsr;by_cases him2:i<m
      ·have hk:(ssv (sgnL.getD i [])==k)=false:=by simpa using (uh HNE) i him2
       clear HI hB hE hL HC2 HNE HF;generalize ssv (sgnL.getD i [])=sk at*;generalize sgnB i=X at*;go_wp2_with fail;refine hsr.mono ?_;rintro e w3 ⟨rfl,hb3⟩;have hN:=(uh HN) w3 hb3;have HN2:Hid (Below w.heap.size w w3/\w3.heap[W1.heap.size]? =W2.heap[W1.heap.size]? /\W1.heap.size<w3.heap.size):=hN;clear hsr hb3 HN hN;go_wp2_with fail;go_roundw
       case rel=>exact⟨i+1,by go_num,by omega,HN2⟩
       case measure=>simp[intOf];omega
      ·obtain rfl:i=m:=by omega
       have hF:ssv (sgnL.getD i [])=k/\spl k=sgnB i:=by
        rcases(uh HF)with⟨h,_⟩|⟨_,h1,h2⟩
        ·omega
        ·exact⟨h1,h2⟩
       rw[hF.1]at hsr;have HFF:Hid (spl k=sgnB i):=hF.2;clear HI hB hE hL HC2 HNE HF hF;go_wp2_with fail;refine hsr.mono ?_;rintro e w3 ⟨rfl,hb3⟩;have HN2:Hid (Below w.heap.size w w3):=((uh HN) w3 hb3).1;clear hsr hb3 HN;go_wp2_with fail;go_ret;exact⟨by rw[show spl k=sgnB i from HFF];rfl,HN2⟩
     ·obtain rfl:i=30:=by omega
      have hF:spl k=⟨#[]⟩:=by
       rcases(uh HF)with⟨_,h⟩|⟨h1,_⟩
       ·exact h
       ·omega
      have HFF:Hid (spl k=⟨#[]⟩/\Below w.heap.size w wr):=(⟨hF,hB⟩:_/\_)
      clear HI hB hE hL HC2 HNE HF hF;go_wp2_with fail;go_ret;exact⟨by rw[show spl k=⟨#[]⟩from HFF.1];rfl,HFF.2⟩
theorem hexdg:∀(i:Fin 16) (w:World),(Result.ok (Value.int .u8 (((⟨#[48,49,50,51,52,53,54,55,56,57,97,98,99,100,101,102]⟩:ByteArray).data.toList.getD i.val 0).toNat:Int)) w:Result Value)=.ok (.int .u8 ((Fm.dg i.val).toNat:Int)) w:=by
 intro i w;have:∀i:Fin 16,(⟨#[48,49,50,51,52,53,54,55,56,57,97,98,99,100,101,102]⟩:ByteArray).data.toList.getD i.val 0=Fm.dg i.val:=by decide
 rw[this i]
theorem hexat(r:Nat)(hr:r<16)(w:World):(Instr.index 9 (.string ⟨#[48,49,50,51,52,53,54,55,56,57,97,98,99,100,101,102]⟩) (.int .u64 r)).run Tryz.prog w=.ok (.int .u8 ((Fm.dg r).toNat:Int)) w:=by
 have hs:((⟨#[48,49,50,51,52,53,54,55,56,57,97,98,99,100,101,102]⟩:ByteArray)).size=16:=by decide
 rw[run_index_string w 9 ⟨#[48,49,50,51,52,53,54,55,56,57,97,98,99,100,101,102]⟩ .u64 _ Tryz.underlying9,dif_pos ⟨by omega,by rw[hs];omega⟩];have e:((r:Int)).toNat=r:=by omega
 simp only[e];rw[Lib.getD_at _ r (by rw[hs];exact hr)];exact hexdg ⟨r,hr⟩ w
theorem spec_neg(n:Int)(h0:n<0)(U:Nat)(hU:IntKind.u64.wrap n=(U:Int))(hU1:U<18446744073709551616)(hUB:9223372036854775808<=U)(w:World):
  Calls Tryz.prog 80 #[.int .i64 n] w λe w'=>e=.returned (.string (⟨#[48,120]⟩++⟨(Fm.wr 16 U).toArray⟩))/\Below w.heap.size w w':=by
 have hn:¬(0:Int)<=n:=by omega
 have HU:Hid (U<18446744073709551616):=hU1
 have HPOS:∀m,m<=15->U / 16 ^ m≠0:=λm hm hz=>by
  have h1:16 ^ m<=16 ^ 15:=Nat.pow_le_pow_right (by decide) hm;have h2:(16:Nat)^ 15=1152921504606846976:=by decide
  have h3:=Nat.lt_of_div_eq_zero (Nat.pow_pos (by decide)) hz;omega
 clear h0 hU1 hUB;go_enter Tryz.func80,Tryz.ntmps80
 go_upto_block 0 with fail
 go_wp2_with fail
 go_loopw [4,5] (λs4 s5 wr=>∃m:Nat,m<=16/\s5=.int .i64 (4*(m:Int)-4)/\s4=.string (⟨#[48,120]⟩++⟨(Fm.wr 16 (U / 16 ^ m)).toArray⟩)/\Hid (Below w.heap.size w wr)) (λ_ s5 _=>(intOf s5+4).toNat)
 case atStart=>exact⟨16,Nat.le_refl _,rfl,by rw[Nat.div_eq_of_lt (uh HU),Fm.wr_zero];rfl,Below.refl _ _⟩
 case round=>
  obtain⟨m,hm,hs5,rfl,HB⟩:=hrel;cases m with
  |zero=>
   have e5:4*((0:Nat):Int)-4=-4:=rfl;rw[e5]at hs5;subst hs5;rw[Nat.pow_zero,Nat.div_one];go_wp2_with fail;go_ret;exact⟨rfl,HB⟩
  |succ m=>
   have e5:4*((m+1:Nat):Int)-4=4*(m:Int):=by omega
   rw[e5]at hs5;subst hs5;have hk0:(0:Int)<=4*(m:Int):=by omega
   have hk1:4*(m:Int)<=60:=by omega
   obtain⟨r,hr⟩:∃r,U / 16 ^ m%16=r:=⟨_,rfl⟩
   have hr16:r<16:=by omega
   have hdig:bits BinOp.and IntKind.u64 ((U:Int) / 2 ^ (4*(m:Int)).toNat) 15=(r:Int):=by
    have e1:(4*(m:Int)).toNat=4*m:=by omega
    have e2:(U:Int) / 2 ^ (4*m)=((U / 16 ^ m:Nat):Int):=by
     have e3:(2:Nat)^ (4*m)=16 ^ m:=by rw[Nat.pow_mul]
     have e4:(2:Int)^ (4*m)=((16 ^ m:Nat):Int):=by rw[<-e3];simp
     rw[e4];simp
    rw[e1,e2];have hle:U / 16 ^ m<=U:=Nat.div_le_self _ _;have hU2:=(uh HU)
    have h5:U / 16 ^ m<=18446744073709551615:=by omega
    exact Fm.and_pow ((U / 16 ^ m:Nat):Int) 16 4 r (by decide) (by decide) (by decide) (Int.natCast_nonneg _) (Int.ofNat_le.2 h5) (by rw[Int.toNat_natCast];exact hr)
   have hrI:(r:Int)<16:=by omega
   have hix:=hexat r hr16;have hcv:=conv_one wr (Fm.dg r)
   have hwr:Fm.wr 16 (U / 16 ^ m)=Fm.wr 16 (U / 16 ^ (m+1))++[Fm.dg r]:=by
    by_cases hz:U / 16 ^ m=0
    ·exact absurd hz (HPOS m (by omega))
    ·rw[Fm.wr_pos 16 _ (by decide) hz,hr,Nat.div_div_eq_div_mul,Nat.pow_succ]
   have HO2:Hid ((⟨#[48,120]⟩++⟨(Fm.wr 16 (U / 16 ^ (m+1))).toArray⟩:ByteArray)++⟨#[Fm.dg r]⟩=⟨#[48,120]⟩++⟨(Fm.wr 16 (U / 16 ^ m)).toArray⟩):=by
    show(_:ByteArray)=_;rw[hwr];apply ByteArray.ext
    simp
   have hlen:(Fm.wr 16 (U / 16 ^ (m+1))).length<=64:=Fm.wr_len 16 (by decide) 64 _ (by
    have hle:U / 16 ^ (m+1)<=U:=Nat.div_le_self _ _;have hU2:=(uh HU)
    omega)
   have hsz:¬9223372036854775807<(⟨#[48,120]⟩++⟨(Fm.wr 16 (U / 16 ^ (m+1))).toArray⟩:ByteArray).size+1:=by
    rw[ByteArray.size_append];show ¬9223372036854775807<2+(Fm.wr 16 (U / 16 ^ (m+1))).toArray.size+1
    simp
    omega
   have HB1:Hid (Below w.heap.size w (wr.alloc (.cells #[.int .u8 ((Fm.dg r).toNat:Int)] 5))):=HB.alloc HB.size _;clear hwr hlen hr HPOS HB;generalize (⟨#[48,120]⟩++⟨(Fm.wr 16 (U / 16 ^ (m+1))).toArray⟩:ByteArray)=O1 at*;generalize hdd:Fm.dg r=dd at*;generalize hk:4*(m:Int)=k at*;go_wp2_with fail;go_roundw
   case rel=>exact⟨m,by omega,by rw[hk],by rw[<-(uh HO2)],HB1⟩
   case measure=>simp[intOf];omega
end Go.Proofs.YtkhdehngobkkfaaGreatDoor
namespace Go.Proofs.YtkhdehngobkkfaaGreatDoor.Fo
open Go.ChangeShapes Go.WideShapes Go.ChangeAt Go.RowKit
set_option linter.unusedVariables false
set_option maxRecDepth 100000
def inx(m:Int):ByteArray:=if m<0 then⟨#[48,120]⟩++⟨(Fm.wr 16 (m+18446744073709551616).toNat).toArray⟩else itx m
theorem wr_len_pow(b:Nat)(hb:2<=b):∀(k n:Nat),n<b ^ k->(Fm.wr b n).length<=k:=by
 intro k
 induction k with
 |zero=>intro n h;simp at h;subst h;rw[Fm.wr_zero];simp
 |succ k ih=>
  intro n h;by_cases h0:n=0
  ·subst h0;rw[Fm.wr_zero];simp
  ·rw[Fm.wr_pos b n hb h0];have:=ih (n / b) (by rw[Nat.div_lt_iff_lt_mul (by omega)];rw[Nat.pow_succ]at h;exact h)
   simp;omega
theorem inx_ok:ITok inx:=by
 intro m h0 h1;unfold inx;by_cases h:m<0
 ·rw[if_pos h]
  have h2:=wr_len_pow 16 (by decide) 16 (m+18446744073709551616).toNat (by
   have e:(16:Nat)^ 16=18446744073709551616:=by decide
   rw[e];omega)
  rw[ByteArray.size_append];show 2+(Fm.wr 16 (m+18446744073709551616).toNat).toArray.size<=40
  simp;omega
 ·rw[if_neg h];have:=itx_size m h0 h1;omega
theorem sp_int(m:Int)(W:World)(h0:-9223372036854775808<=m)(h1:m<=9223372036854775807):Calls Tryz.prog 80 #[.int .i64 m] W λe w'=>e=.returned (.string (inx m))/\Below W.heap.size W w':=by
 by_cases h:m<0
 ·have e:inx m=⟨#[48,120]⟩++⟨(Fm.wr 16 (m+18446744073709551616).toNat).toArray⟩:=by unfold inx;rw[if_pos h]
  rw[e];exact spec_neg m h (m+18446744073709551616).toNat (by simp only[IntKind.wrap,IntKind.signed,IntKind.bits];simp;omega) (by omega) (by omega) W
 ·have e:inx m=itx m:=by unfold inx;rw[if_neg h]
  rw[e];have hd:=spec_itoa m h0 h1 W;have h2:(0:Int)<=m:=by omega
  generalize itx m=R at*;clear h h0 h1 e;go_enter Tryz.func80,Tryz.ntmps80;go_wp2_with fail;refine hd.mono ?_;rintro e w1 ⟨rfl,hb1⟩;have HB:Hid (Below W.heap.size W w1):=hb1;clear hd hb1;go_wp2_with fail;go_ret;exact⟨rfl,HB⟩
theorem sp_quo(x:ByteArray)(W:World)(h:x.size<=4000):Calls Tryz.prog 81 #[.string x] W λe w'=>e=.returned (.string (qt x))/\Below W.heap.size W w':=by
 have e:qt x=⟨(quo x.data.toList x.data.toList.length++[34]).toArray⟩:=by unfold qt;rw[if_neg (by omega)]
 rw[e];exact spec_quote x x.data.toList rfl (by simpa using h) W
theorem sp_sgn(o:Int)(W:World)(h1:1<=o)(h2:o<=18):Calls Tryz.prog 42 #[.int .i64 (60+o)] W λe w'=>e=.returned (.string (infixB (o.toNat-1)))/\Below W.heap.size W w':=by
 have e:spl (60+o)=infixB (o.toNat-1):=by
  unfold spl;rw[if_neg (by omega),if_neg (by omega),if_neg (by omega),if_neg (by omega),if_pos (by omega)]
  congr 1
  omega
 rw[<-e];exact spec_text (60+o) (by omega) W
