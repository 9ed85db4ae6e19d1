import Derived.Test.YtkhdehngobkkfaaGreatDoorASbg
import Derived.Deep.CutBlock
import Derived.Deep.Light
set_option maxRecDepth 100000
set_option maxHeartbeats 4000000
namespace Go.Proofs.YtkhdehngobkkfaaGreatDoor
open Go.ChangeShapes Go.WideShapes Go.ChangeAt Go.RowKit
set_option linter.unusedVariables false
variable {tn acc:Nat}{c:UInt8}
def NumP(w:World)(kd:Int)(p tn:Nat)(nu:Int)(tx:ByteArray)(e:Ending)(w':World):Prop:=
 Below w.heap.size w w'/\(kd≠0->e=.returned (.tuple #[tokV kd p tn 0 nu tx,.int .i64 (-1)]))/\(kd=0->∃a b c d n t,e=.returned (.tuple #[tokV a b c d n t,.int .i64 tn]))
def CutN(T:ByteArray)(w:World)(kd:Int)(p tn:Nat)(nu:Int)(tx:ByteArray)(n:Int)(wc:World):Prop:=
 ∃kE:Int,Ts w kE p tn 0 ⟨#[]⟩ wc/\(kE=3/\kd=3/\nu=0/\tx=T.extract p tn\/kE=2/\kd=2/\nu=n/\tx=⟨#[]⟩/\0<=n/\n<9223372036854775808)
def BigN(L:List UInt8)(w W4:World)(p tn i:Nat)(n:Int)(wr:World):Prop:=
 (wr=W4/\∃acc:Nat,n=(acc:Int)/\nm acc (dg L i tn)=none/\(acc:Int)<9223372036854775808)\/Ts w 3 p tn 0 ⟨#[]⟩ wr
theorem spec_num(T:ByteArray)(L:List UInt8)(hT:T.data.toList=L)(hlen:L.length<=65536)(p:Nat)(hd:isD (lk L p)=true)(hx0:¬(lk L p=48/\lk L (p+1)=120)){kd:Int}{nu:Int}{tx:ByteArray}(hn:Num T L p kd tn nu tx)(w:World):
    Calls Tryz.prog 115 #[.string T,tokV 0 p 0 0 0 ⟨#[]⟩] w (NumP w kd p tn nu tx):=by
  have hp:p<L.length:=isD_lt hd;have hs:T.size=L.length:=by rw[<-hT];simp
  obtain⟨M,hM,hLM⟩:∃M:Int,M<=65536/\(L.length:Int)<=M:=⟨L.length,by omega,Int.le_refl _⟩
  have hpM:(p:Int)+1<=M:=by omega
  have HL:LkAll T L:=λj=>spec_look T L hT j;have HX:IxAll T L:=λj c hj=>ix T L hT j c hj;have HDH:Hid (∀(c:UInt8) (w:World),Calls Tryz.prog 96 #[.int .u8 c.toNat] w λe w'=>e=.returned (.bool (isD c))/\w'=w):=spec_isD;have HN:Hid (Num T L p kd tn nu tx):=hn;obtain⟨a,ha⟩:∃a,q1 L p=a:=⟨_,rfl⟩
  obtain⟨b,hb⟩:∃b,q2 L a=b:=⟨_,rfl⟩
  have haL:=q1_le (L:=L) hp;rw[ha]at haL;have hbL:=q2_le (L:=L) haL.2;rw[hb]at hbL;have hix0:=HX p _ (lk_at hp)
  have hl1:∀W,Calls Tryz.prog 122 #[.string T,.int .i64 ((p:Int)+1)] W λe w'=>e=.returned (.int .u8 ((lk L (p+1)).toNat:Int))/\w'=W:=λW=>by
    have:=HL (p+1) W;rw[show((p+1:Nat):Int)=(p:Int)+1 by omega]at this;exact this
  have hst:=Ts.start w 2 p 0 0 ⟨#[]⟩;obtain⟨W,hWe,hts⟩:∃W,W=(w.alloc (.cells #[.int .i64 2,.int .i64 p,.int .i64 0,.int .i64 0,.int .i64 0,.string ⟨#[]⟩] 125)).alloc (.cells #[.int .i64 0,.int .i64 0,.int .i64 0,.int .i64 0,.int .i64 0,.string ⟨#[]⟩] 125)/\Ts w 2 p 0 0 ⟨#[]⟩ W:=⟨_,rfl,hst⟩
  have HTS:Hid (Ts w 2 p 0 0 ⟨#[]⟩ W):=hts;have c1:=hts.c1;have HA:Hid (q1 L p=a/\q2 L a=b):=(⟨ha,hb⟩:_/\_)
  have HP0:Hid (isD (lk L p)=true/\¬(lk L p=48/\lk L (p+1)=120)):=(⟨hd,hx0⟩:_/\_)
  have HXH:Hid (IxAll T L):=HX;have HLH:Hid (LkAll T L):=HL;clear hT hlen hn ha hb hst hts hd hx0 HX HL;show Calls Tryz.prog 115 #[.string T,.agg #[.int .i64 0,.int .i64 p,.int .i64 0,.int .i64 0,.int .i64 0,.string ⟨#[]⟩]] w _;go_enter Tryz.func115,Tryz.ntmps115;go_upto_region 3 with fail;rw[<-hWe];clear hWe
  go_cut [22]from 9 (λs22 wc=>s22=.bool false/\wc=W)
  case first=>
    have hP0:=(uh HP0)
    by_cases h48:lk L p=48
    · have hne:lk L (p+1)≠120:=λg=>hP0.2 ⟨h48,g⟩
      have hneI:(((lk L (p+1)).toNat:Int)==120)=false:=by
        simp;intro g;exact hne (UInt8.toNat_inj.1 (show(lk L (p+1)).toNat=120 by omega))
      rw[h48]at hix0;clear hP0 hne h48;generalize ((lk L (p+1)).toNat:Int)=x1 at*;go_wp2_with fail;refine(hl1 _).mono ?_;rintro e w1 ⟨rfl,rfl⟩;go_wp2_with fail
      go_meet
      case rel=>exact⟨rfl,rfl⟩
    · have hneI : (((lk L p).toNat : Int) == 48) = false := by
        simp;intro g;exact h48 (UInt8.toNat_inj.1 (show(lk L p).toNat=48 by omega))
      clear hP0 h48 hl1;generalize ((lk L p).toNat:Int)=x0 at*;go_wp2_with fail
      go_meet
      case rel=>exact⟨rfl,rfl⟩
  case rest=>
  obtain⟨rfl,hwc⟩:=hcut;rw[hwc];clear hwc
  go_upto_if 34 with fail
  go_cut [6]from 9 (λs6 wc=>s6=.int .i64 a/\wc=W)
  case first=>
    obtain⟨hqa,hqb⟩:=(uh HA)
    unfold q1 at hqa;by_cases h48:lk L p=48
    · rw[if_pos h48]at hqa;rw[h48];clear hqb;go_wp2_with fail
      go_meet
      case rel=>exact⟨by rw[<-hqa];rfl,rfl⟩
    · rw[if_neg h48]at hqa
      have hneI:(((lk L p).toNat:Int)==48)=false:=by
        simp;intro g;exact h48 (UInt8.toNat_inj.1 (show(lk L p).toNat=48 by omega))
      have hnb:(((lk L p).toNat:Int) !=48)=true:=by rw[bne,hneI];rfl
      have HQ:Hid (en isD L (p+1)=a):=hqa;clear hneI;clear hqa hqb h48 hl1;generalize ((lk L p).toNat:Int)=x0 at*;rw[hnb];go_wp2_with fail;clear hix0 c1
      go_loop [6] (λsv=>∃j:Nat,sv=.int .i64 j/\p+1<=j/\j<=L.length/\Hid (en isD L (p+1)=en isD L j)) (λsv=>L.length-(intOf sv).toNat)
      case atStart=>exact⟨p+1,by go_num,Nat.le_refl _,by omega,(rfl:en isD L (p+1)=en isD L (p+1))⟩
      case round=>
        obtain⟨j,rfl,hkj,hj,HE⟩:=hrel;have hE:=(uh HE)
        clear HE;have hl:=(uh HLH) j;have hdig:=(uh HDH) (lk L j)
        have hjM:(j:Int)<=M:=by omega
        cases hgo:isD (lk L j)with
        |true=>
          rw[hgo]at hdig;obtain⟨h1,hjn⟩:=en_at isD_zero hgo;have HN1:Hid (en isD L (p+1)=en isD L (j+1)):=(hE.trans h1:en isD L (p+1)=en isD L (j+1))
          clear hE hgo h1;generalize ((lk L j).toNat:Int)=xj at hl hdig;go_wp2_with fail;refine(hl _).mono ?_;rintro e w1 ⟨rfl,rfl⟩;clear hl;go_wp2_with fail;refine(hdig _).mono ?_;rintro e w1 ⟨rfl,rfl⟩;clear hdig;go_wp2_with fail
          go_round
          case rel=>exact⟨j+1,by go_num,by omega,by omega,HN1⟩
          case measure=>simp[intOf];omega
        |false=>
          rw[hgo]at hdig;have HF:Hid (en isD L (p+1)=j):=(hE.trans (en_no hgo):en isD L (p+1)=j)
          clear hE hgo;generalize ((lk L j).toNat:Int)=xj at hl hdig;go_wp2_with fail;refine(hl _).mono ?_;rintro e w1 ⟨rfl,rfl⟩;clear hl;go_wp2_with fail;refine(hdig _).mono ?_;rintro e w1 ⟨rfl,rfl⟩;clear hdig;go_wp2_with fail
          go_meet
          case rel=>
            exact⟨by rw[<-(uh HF),(uh HQ)],rfl⟩
  case rest=>
  obtain⟨rfl,hwc⟩:=hcut;rw[hwc];clear hwc hix0 hl1;obtain⟨hap,haL⟩:=haL;obtain⟨hab,hbL⟩:=hbL;have haM:(a:Int)+1<=M+1:=by omega
  have hla:=(uh HLH) a
  have hla1:∀W,Calls Tryz.prog 122 #[.string T,.int .i64 ((a:Int)+1)] W λe w'=>e=.returned (.int .u8 ((lk L (a+1)).toNat:Int))/\w'=W:=λW=>by
    have:=(uh HLH) (a+1) W;rw[show((a+1:Nat):Int)=(a:Int)+1 by omega]at this;exact this
  go_upto_region 9 with fail
  go_cut [51]from 9 (λs51 wc=>s51=.bool (frc L a)/\wc=W)
  case first=>
    by_cases h46:lk L a=46
    · have ez:frc L a=isD (lk L (a+1)):=by unfold frc;rw[h46];simp
      have HEZ:Hid (frc L a=isD (lk L (a+1))):=ez;have hdig:=(uh HDH) (lk L (a+1))
      rw[h46]at hla;generalize isD (lk L (a+1))=zz at hdig HEZ;clear ez h46;generalize ((lk L (a+1)).toNat:Int)=x1 at*;go_wp2_with fail;refine(hla _).mono ?_;rintro e w1 ⟨rfl,rfl⟩;clear hla;go_wp2_with fail;refine(hla1 _).mono ?_;rintro e w1 ⟨rfl,rfl⟩;clear hla1;go_wp2_with fail;refine(hdig _).mono ?_;rintro e w1 ⟨rfl,rfl⟩;clear hdig;go_wp2_with fail
      go_meet
      case rel=>exact⟨by rw[show frc L a=zz from HEZ],rfl⟩
    · have hneI : (((lk L a).toNat : Int) == 46) = false := by
        simp;intro g;exact h46 (UInt8.toNat_inj.1 (show(lk L a).toNat=46 by omega))
      have ez:frc L a=false:=by unfold frc;rw[show(lk L a==46)=false by simpa using h46];rfl
      have HEZ:Hid (frc L a=false):=ez;clear ez h46 hla1;generalize ((lk L a).toNat:Int)=x1 at*;go_wp2_with fail;refine(hla _).mono ?_;rintro e w1 ⟨rfl,rfl⟩;clear hla;go_wp2_with fail
      go_meet
      case rel=>exact⟨by rw[show frc L a=false from HEZ],rfl⟩
  case rest=>
  obtain⟨rfl,hwc⟩:=hcut;rw[hwc];clear hwc hla hla1;obtain⟨kB,hkB⟩:∃kB:Int,kB=if frc L a=true then 3 else 2:=⟨_,rfl⟩
  have HKB:Hid (kB=if frc L a=true then 3 else 2):=hkB;clear hkB
  go_upto_if 51 with fail
  go_cut [6]from 9 (λs6 wc=>s6=.int .i64 b/\Ts w kB p 0 0 ⟨#[]⟩ wc)
  case first=>
    obtain⟨hqa,hqb⟩:=(uh HA)
    have hkB:=(uh HKB)
    unfold q2 at hqb;cases hfr:frc L a with
    |true=>
      rw[hfr,if_pos rfl]at hqb hkB;have f0:=(uh HTS).fz 0;have c0:=(uh HTS).c0;have HTK:Hid (Ts w kB p 0 0 ⟨#[]⟩ (W.setCell ⟨w.heap.size,0,none⟩ (.int .i64 3))):=by rw[hkB];exact HTS.set0 3
      have HQ:Hid (en isD L (a+1)=b):=hqb
      have haL2:a<L.length:=by
        have hf:=hfr;unfold frc at hf;simp at hf;exact lk_lt (by decide) hf.1
      clear hqa hqb hkB hfr;go_wp2_with fail;clear f0 c0 c1
      go_loop [6] (λsv=>∃j:Nat,sv=.int .i64 j/\a+1<=j/\j<=L.length/\Hid (en isD L (a+1)=en isD L j)) (λsv=>L.length-(intOf sv).toNat)
      case atStart=>exact⟨a+1,by go_num,Nat.le_refl _,by omega,(rfl:en isD L (a+1)=en isD L (a+1))⟩
      case round=>
        obtain⟨j,rfl,hkj,hj,HE⟩:=hrel;have hE:=(uh HE)
        clear HE;have hl:=(uh HLH) j;have hdig:=(uh HDH) (lk L j)
        have hjM:(j:Int)<=M:=by omega
        cases hgo:isD (lk L j)with
        |true=>
          rw[hgo]at hdig;obtain⟨h1,hjn⟩:=en_at isD_zero hgo;have HN1:Hid (en isD L (a+1)=en isD L (j+1)):=(hE.trans h1:en isD L (a+1)=en isD L (j+1))
          clear hE hgo h1;generalize ((lk L j).toNat:Int)=xj at hl hdig;go_wp2_with fail;refine(hl _).mono ?_;rintro e w1 ⟨rfl,rfl⟩;clear hl;go_wp2_with fail;refine(hdig _).mono ?_;rintro e w1 ⟨rfl,rfl⟩;clear hdig;go_wp2_with fail
          go_round
          case rel=>exact⟨j+1,by go_num,by omega,by omega,HN1⟩
          case measure=>simp[intOf];omega
        |false=>
          rw[hgo]at hdig;have HF:Hid (en isD L (a+1)=j):=(hE.trans (en_no hgo):en isD L (a+1)=j)
          clear hE hgo;generalize ((lk L j).toNat:Int)=xj at hl hdig;go_wp2_with fail;refine(hl _).mono ?_;rintro e w1 ⟨rfl,rfl⟩;clear hl;go_wp2_with fail;refine(hdig _).mono ?_;rintro e w1 ⟨rfl,rfl⟩;clear hdig;go_wp2_with fail
          go_meet
          case rel=>
            exact⟨by rw[<-(uh HF),(uh HQ)],HTK⟩
    |false=>
      rw[hfr,if_neg (by decide)]at hqb hkB;have HQ:Hid (a=b/\kB=2):=(⟨hqb,hkB⟩:_/\_)
      clear hfr hqa hqb hkB;go_wp2_with fail
      go_meet
      case rel=>exact⟨by rw[HQ.1],by rw[HQ.2];exact HTS⟩
  case rest=>
  obtain⟨rfl,htb⟩:=hcut;obtain⟨W1,hW1⟩:∃W1,wc=W1:=⟨_,rfl⟩
  rw[hW1]at htb⊢;clear hW1;clear HTS c1;have HTB:Hid (Ts w kB p 0 0 ⟨#[]⟩ W1):=htb;have hbM:(b:Int)<=M:=by omega
  have hlb:=(uh HLH) b;have f0:=htb.fz 0;have c0:=htb.c0;clear htb
  go_upto_if 64 with(go_at_call 122;refine(hlb _).mono ?_;rintro e w1 ⟨rfl,hw1⟩;rw[hw1];clear hw1)
  clear hlb
  go_cut [6]from 9 (λs6 wc=>s6=.int .i64 tn/\∃kC,Hid (Ts w kC p 0 0 ⟨#[]⟩ wc/\Fin10 T L p tn kC kd nu tx/\p<tn/\tn<=L.length))
  case first=>
    obtain⟨hqa,hqb⟩:=(uh HA)
    have hkB:=(uh HKB)
    have hP0:=(uh HP0)
    have hN:=(uh HN)
    have hno:(lk L b=101->False)->(Ts w kB p 0 0 ⟨#[]⟩ W1->∃kC,Ts w kC p 0 0 ⟨#[]⟩ W1/\Fin10 T L p tn kC kd nu tx/\p<tn/\tn<=L.length/\b=tn):=by
      intro h1 ht;cases hN with
      |bad _ nb=>cases nb with|bad g1 g2=>rw[hqa,hqb]at g1;exact(h1 g1).elim
      |flt _ nb=>
        have hle:=nb.le hp;cases nb with
        |frac g1 g2=>
          rw[hqa]at g1;rw[g1,if_pos rfl]at hkB;subst hkB;exact⟨3,ht,.flt,hle.1,hle.2,by rw[hqa,hqb]⟩
        |exp g1 g2=>rw[hqa,hqb]at g1;exact(h1 g1).elim
      |int _ v nb hv=>
        have hle:=nb.le hp;have hdd:=nb.digits hP0.1;cases nb with
        |plain g1 g2=>
          rw[hqa]at g1;rw[g1,if_neg (by decide)]at hkB;subst hkB;refine⟨2,ht,.int v hdd hv,hle.1,hle.2,?_⟩;rw[hqa,<-hqb];unfold q2;rw[g1,if_neg (by decide)]
      |big _ nb hv=>
        have hle:=nb.le hp;have hdd:=nb.digits hP0.1;cases nb with
        |plain g1 g2=>
          rw[hqa]at g1;rw[g1,if_neg (by decide)]at hkB;subst hkB;refine⟨2,ht,.big hdd hv,hle.1,hle.2,?_⟩;rw[hqa,<-hqb];unfold q2;rw[g1,if_neg (by decide)]
    by_cases h101:lk L b=101
    · have hyes : (kd = 0 ∧ nu = 0 ∧ tn = sgn L (b + 1) ∧ isD (lk L (sgn L (b + 1))) = false) ∨ (tn = en isD L (sgn L (b + 1)) ∧ Fin10 T L p tn 3 kd nu tx ∧ p < tn ∧ tn ≤ L.length ∧ isD (lk L (sgn L (b + 1))) = true) := by
        cases hN with
        |bad _ nb=>
          cases nb with|bad g1 g2=>rw[hqa,hqb]at g2;exact .inl ⟨rfl,rfl,by rw[hqa,hqb],g2⟩
        |flt _ nb=>
          have hle:=nb.le hp;cases nb with
          |frac g1 g2=>rw[hqa,hqb]at g2;exact(g2 h101).elim
          |exp g1 g2=>rw[hqa,hqb]at g2;exact .inr ⟨by rw[hqa,hqb],.flt,hle.1,hle.2,g2⟩
        |int _ v nb hv=>
          cases nb with
          |plain g1 g2=>
            rw[hqa]at g1 g2;have:b=a:=by rw[<-hqb];unfold q2;rw[g1,if_neg (by decide)]
            rw[this]at h101;exact(g2 h101).elim
        |big _ nb hv=>
          cases nb with
          |plain g1 g2=>
            rw[hqa]at g1 g2;have:b=a:=by rw[<-hqb];unfold q2;rw[g1,if_neg (by decide)]
            rw[this]at h101;exact(g2 h101).elim
      have hbl:b<L.length:=lk_lt (by decide) h101;rw[h101];obtain⟨W2,hW2,HT2⟩:∃W2,W2=W1.setCell ⟨w.heap.size,0,none⟩ (.int .i64 3)/\Hid (Ts w 3 p 0 0 ⟨#[]⟩ W2):=⟨_,rfl,HTB.set0 3⟩
      obtain⟨c,hc⟩:∃c:Nat,(b:Int)+1=(c:Int):=⟨b+1,by omega⟩
      have hcb:c=b+1:=by omega
      rw[<-hcb]at hyes;obtain⟨s,hse⟩:∃s,sgn L c=s:=⟨_,rfl⟩
      have hsl:=sgn_le (L:=L) (k:=c) (by omega);rw[hse]at hyes hsl;have HY:Hid ((kd=0/\nu=0/\tn=s/\isD (lk L s)=false)\/(tn=en isD L s/\Fin10 T L p tn 3 kd nu tx/\p<tn/\tn<=L.length/\isD (lk L s)=true)):=hyes;have HSE:Hid (sgn L c=s):=hse;have hcM:(c:Int)<=M:=by omega
      obtain⟨hcs,hsL⟩:=hsl;clear hno hN hP0 hkB hqa hqb hyes hse h101;have hcI:Hid (c=b+1):=hcb;clear hcb;go_upto_region 17 with fail;rw[<-hW2];clear hW2 hc f0 c0;have hlc:=(uh HLH) c
      go_cut [77]from 9 (λs77 wc=>s77=.bool (decide (lk L c=45\/lk L c=43))/\wc=W2)
      case first=>
        by_cases h45:lk L c=45
        · rw[h45]at hlc;have HZ:Hid (decide (lk L c=45\/lk L c=43)=true):=(decide_eq_true (.inl h45):decide (lk L c=45\/lk L c=43)=true)
          clear h45;go_wp2_with fail;refine(hlc _).mono ?_;rintro e w1 ⟨rfl,rfl⟩;clear hlc;go_wp2_with fail
          go_meet
          case rel=>exact⟨by rw[show decide (lk L c=45\/lk L c=43)=true from HZ],rfl⟩
        · have hneI : (((lk L c).toNat : Int) == 45) = false := by
            simp;intro g;exact h45 (UInt8.toNat_inj.1 (show(lk L c).toNat=45 by omega))
          by_cases h43:lk L c=43
          · have HZ:Hid (decide (lk L c=45\/lk L c=43)=true):=(decide_eq_true (.inr h43):decide (lk L c=45\/lk L c=43)=true)
            have hyI:(((lk L c).toNat:Int)==43)=true:=by rw[h43];rfl
            clear h45 h43;generalize ((lk L c).toNat:Int)=xc at*;go_wp2_with fail;refine(hlc _).mono ?_;rintro e w1 ⟨rfl,rfl⟩;go_wp2_with fail;refine(hlc _).mono ?_;rintro e w1 ⟨rfl,rfl⟩;clear hlc;go_wp2_with fail
            go_meet
            case rel=>exact⟨by rw[show decide (lk L c=45\/lk L c=43)=true from HZ],rfl⟩
          · have HZ:Hid (decide (lk L c=45\/lk L c=43)=false):=(decide_eq_false (λg=>g.elim h45 h43):decide (lk L c=45\/lk L c=43)=false)
            have hyI:(((lk L c).toNat:Int)==43)=false:=by
              simp;intro g;exact h43 (UInt8.toNat_inj.1 (show(lk L c).toNat=43 by omega))
            clear h45 h43;generalize ((lk L c).toNat:Int)=xc at*;go_wp2_with fail;refine(hlc _).mono ?_;rintro e w1 ⟨rfl,rfl⟩;go_wp2_with fail;refine(hlc _).mono ?_;rintro e w1 ⟨rfl,rfl⟩;clear hlc;go_wp2_with fail
            go_meet
            case rel=>exact⟨by rw[show decide (lk L c=45\/lk L c=43)=false from HZ],rfl⟩
      case rest=>
      obtain⟨rfl,hwc⟩:=hcut;rw[hwc];clear hwc hlc
      go_upto_if 77 with fail
      go_cut [6]from 9 (λs6 wc=>s6=.int .i64 s/\wc=W2)
      case first=>
        have hse:=(uh HSE)
        unfold sgn at hse;by_cases h45:lk L c=45\/lk L c=43
        · rw[decide_eq_true h45];rw[if_pos h45]at hse;have HQ:Hid (c+1=s):=hse;clear hse h45;go_wp2_with fail
          go_meet
          case rel=>exact⟨by rw[<-(uh HQ)];rfl,rfl⟩
        · rw[decide_eq_false h45];rw[if_neg h45]at hse;have HQ:Hid (c=s):=hse;clear hse h45;go_wp2_with fail
          go_meet
          case rel=>exact⟨by rw[(uh HQ)],rfl⟩
      case rest=>
      obtain⟨rfl,hwc⟩:=hcut;rw[hwc];clear hwc;have hsM:(s:Int)<=M:=by omega
      have hls:=(uh HLH) s;have hdig:=(uh HDH) (lk L s)
      go_wp2_with fail;refine(hls _).mono ?_;rintro e w1 ⟨rfl,hw1⟩;rw[hw1];clear hw1;clear hls;go_wp2_with fail;refine(hdig _).mono ?_;rintro e w1 ⟨rfl,hw1⟩;rw[hw1];clear hw1;clear hdig;rcases(uh HY)with⟨y1,y2,y3,y4⟩|⟨y1,y2,y3,y5,y4⟩
      · rw[y4];have h2:=(uh HT2)
        have hc0:=h2.c0;have hc1:=h2.c1;have hc2:=h2.c2;have hc3:=h2.c3;have hc4:=h2.c4;have hc5:=h2.c5;have z3:=h2.rz;obtain⟨g0,g1,g2,g3,g4,g5,v0,v1,v2,v3,v4,v5,e0,e1,e2,e3,e4,e5⟩:=z3.all;have HBL:Hid (Below w.heap.size w W2):=h2.bel;have HYY:Hid (kd=0/\tn=s):=(⟨y1,y3⟩:_/\_)
        clear h2 z3 y1 y2 y3 y4;go_upto_region 20 with fail
        rename_i Kr hKr
        have HKR:Hid (∀(a:Act) (w1:World),bodyPost Tryz.prog Tryz.f115 (NumP w kd p tn nu tx) Exit.ret a w1->Kr a w1):=(λa w1 h=>hKr a w1 (wp_ret h):∀(a:Act) (w1:World),bodyPost Tryz.prog Tryz.f115 (NumP w kd p tn nu tx) Exit.ret a w1->Kr a w1)
        go_light
        go_wp2_with fail;refine(uh HKR) _ _ (bodyPost_ret (by simp[results,Tryz.results115,go_sem,e0,e1,e2,e3,e4,e5];rfl) rfl ?_);refine⟨st6_bel HBL (Nat.le_succ _) _ _ _ _ _ _,λg=>(g HYY.1).elim,λ_=>⟨_,_,_,_,_,_,by rw[HYY.2];rfl⟩⟩
      · rw[y4];have HFN:Hid (Fin10 T L p tn 3 kd nu tx/\p<tn/\tn<=L.length/\tn=en isD L s):=(⟨y2,y3,y5,y1⟩:_/\_/\_/\_)
        clear y1 y2 y3 y4 y5;go_wp2_with fail;clear hcM
        go_loop [6] (λsv=>∃j:Nat,sv=.int .i64 j/\s<=j/\j<=L.length/\Hid (en isD L (s)=en isD L j)) (λsv=>L.length-(intOf sv).toNat)
        case atStart=>exact⟨s,by go_num,Nat.le_refl _,by omega,(rfl:en isD L (s)=en isD L (s))⟩
        case round=>
          obtain⟨j,rfl,hkj,hj,HE⟩:=hrel;have hE:=(uh HE)
          clear HE;have hl:=(uh HLH) j;have hdig:=(uh HDH) (lk L j)
          have hjM:(j:Int)<=M:=by omega
          cases hgo:isD (lk L j)with
          |true=>
            rw[hgo]at hdig;obtain⟨h1,hjn⟩:=en_at isD_zero hgo;have HN1:Hid (en isD L (s)=en isD L (j+1)):=(hE.trans h1:en isD L (s)=en isD L (j+1))
            clear hE hgo h1;generalize ((lk L j).toNat:Int)=xj at hl hdig;go_wp2_with fail;refine(hl _).mono ?_;rintro e w1 ⟨rfl,rfl⟩;clear hl;go_wp2_with fail;refine(hdig _).mono ?_;rintro e w1 ⟨rfl,rfl⟩;clear hdig;go_wp2_with fail
            go_round
            case rel=>exact⟨j+1,by go_num,by omega,by omega,HN1⟩
            case measure=>simp[intOf];omega
          |false=>
            rw[hgo]at hdig;have HF:Hid (en isD L (s)=j):=(hE.trans (en_no hgo):en isD L (s)=j)
            clear hE hgo;generalize ((lk L j).toNat:Int)=xj at hl hdig;go_wp2_with fail;refine(hl _).mono ?_;rintro e w1 ⟨rfl,rfl⟩;clear hl;go_wp2_with fail;refine(hdig _).mono ?_;rintro e w1 ⟨rfl,rfl⟩;clear hdig;go_wp2_with fail
            go_meet
            case rel=>
              exact⟨by rw[<-(uh HF),<-HFN.2.2.2],3,(⟨HT2,HFN.1,HFN.2.1,HFN.2.2.1⟩:_/\_/\_/\_)⟩
    · have hneI : (((lk L b).toNat : Int) == 101) = false := by
        simp;intro g;exact h101 (UInt8.toNat_inj.1 (show(lk L b).toNat=101 by omega))
      obtain⟨kC,k1,k2,k3,k4,k5⟩:=hno h101 HTB;have HK:Hid ((Ts w kC p 0 0 ⟨#[]⟩ W1/\Fin10 T L p tn kC kd nu tx/\p<tn/\tn<=L.length)/\b=tn):=(⟨⟨k1,k2,k3,k4⟩,k5⟩:_/\_)
      rw[hneI];clear hno hN hP0 hkB hqa hqb hneI h101 k1 k2 k3 k4 k5;go_wp2_with fail
      go_meet
      case rel=>exact⟨by rw[HK.2],kC,HK.1⟩
  case rest=>
  obtain⟨rfl,kC,HF3⟩:=hcut;obtain⟨W3,hW3⟩:∃W3,wc=W3:=⟨_,rfl⟩
  rw[hW3]at HF3⊢;clear hW3;obtain⟨h3,hfin,hpto,htoL⟩:=(uh HF3)
  have htoM:(tn:Int)<=M:=by omega
  have c1:=h3.c1;have c2:=h3.c2;have f2:=h3.fz 2;have d1:=(h3.set2 (tn:Int)).c1;obtain⟨W4,hW4,HT4⟩:∃W4,W4=W3.setCell ⟨w.heap.size,2,none⟩ (.int .i64 tn)/\Hid (Ts w kC p tn 0 ⟨#[]⟩ W4):=⟨_,rfl,h3.set2 tn⟩
  have HFIN:Hid (Fin10 T L p tn kC kd nu tx):=hfin;clear h3 hfin HF3 HA HP0 HKB HTB HN f0 c0 haM hbM hap haL hab hbL HLH HDH
  go_upto_block 6 with fail
  rw[<-hW4];clear hW4 c1 c2 f2 d1
  have hsl:∀W:World,(Instr.slice 9 (.string T) (some (.int .i64 p)) (some (.int .i64 tn)) none).run Tryz.prog W=.ok (.string (T.extract p tn)) W:=by
    intro W;rw[run_slice_string (P:=Tryz.prog) W 9 T .i64 .i64 (p:Int) (tn:Int) Tryz.underlying9 (by omega) (by omega) (by omega)]
    simp
  go_cut [7,8]from 9 (λs7 s8 wc=>∃n:Int,s7=.int .u64 n/\CutN T w kd p tn nu tx n wc)
  case first=>
    cases (uh HFIN)with
    |flt=>
      clear HFIN HXH;have h4:=(uh HT4)
      have c0:=h4.c0;have hptoI:(p:Int)<(tn:Int):=by omega
      clear h4 hpto;go_wp2_with fail;refine wp_loop_rounds 1 ?_;rw[rounds_succ];go_wp2_with fail
      go_meet
      case rel=>exact⟨0,rfl,⟨3,HT4,.inl ⟨rfl,rfl,rfl,rfl⟩⟩⟩
    |int v hdd hv=>
      have HDD:Hid (∀i,p<=i->i<tn->isD (lk L i)=true):=hdd;have HV:Hid (nm 0 (dg L p tn)=some v):=hv;have h4:=(uh HT4)
      have c0:=h4.c0;clear hdd hv h4 HFIN hsl;go_wp2_with fail
      go_loop [7,8] (λs7 s8=>∃(i acc:Nat),s7=.int .u64 acc/\s8=.int .i64 i/\p<=i/\i<=tn/\Hid (nm acc (dg L i tn)=some v)/\(acc:Int)<9223372036854775808) (λ_ s8=>tn-(intOf s8).toNat)
      case atStart=>exact⟨p,0,rfl,rfl,Nat.le_refl _,by omega,HV,by decide⟩
      case round=>
        obtain⟨i,acc,rfl,rfl,hpi,hito,HE,hacc⟩:=hrel;have hiM:(i:Int)<=M:=by omega
        rcases Nat.lt_or_ge i tn with hlt|hge
        · have hltI:decide ((i:Int)<(tn:Int))=true:=by simp;omega
          have hx:=lk_at (show i<L.length by omega);have hE:=(uh HE)
          rw[dg_step hx hlt,nm]at hE;split at hE
          · cases hE
          · rename_i hcond
            have hdi:=digit_nat ((uh HDD) i hpi hlt);have HN1:Hid (nm (acc*10+((lk L i).toNat-48)) (dg L (i+1) tn)=some v):=hE;have hix:=(uh HXH) i _ hx;have hx1:(48:Int)<=((lk L i).toNat:Int):=by omega
            have hx2:((lk L i).toNat:Int)<=57:=by omega
            have hcast:((acc*10+((lk L i).toNat-48):Nat):Int)=(acc:Int)*10+(((lk L i).toNat:Int)-48):=by omega
            have HCAST:Hid (((acc*10+((lk L i).toNat-48):Nat):Int)=(acc:Int)*10+(((lk L i).toNat:Int)-48)):=hcast;have hacc2:((acc*10+((lk L i).toNat-48):Nat):Int)<9223372036854775808:=by omega
            have HACC:Hid (((acc*10+((lk L i).toNat-48):Nat):Int)<9223372036854775808):=hacc2;have ha0:(0:Int)<=(acc:Int):=by omega
            by_cases heq:(acc:Int)=922337203685477580
            · have h55:¬(55:Int)<((lk L i).toNat:Int):=by omega
              have h1:¬(922337203685477580:Int)<(acc:Int):=by omega
              have h2:((acc:Int)==922337203685477580)=true:=by simpa using heq
              clear hE hx hcond hdi hcast hacc2 HV HDD HXH HE;generalize hxi:((lk L i).toNat:Int)=xi at*;generalize hai:(acc:Int)=ai at*;go_wp2_with fail
              go_round
              case rel=>exact⟨i+1,acc*10+((lk L i).toNat-48),by rw[show((acc*10+((lk L i).toNat-48):Nat):Int)=ai*10+(xi-48)from HCAST]<;>go_num,by go_num,by omega,by omega,HN1,HACC⟩
              case measure=>simp[intOf];omega
            · have h1:¬(922337203685477580:Int)<(acc:Int):=by omega
              have h3:(acc:Int)<922337203685477580:=by omega
              have h2:((acc:Int)==922337203685477580)=false:=by simpa using heq
              clear hE hx hcond hdi hcast hacc2 HV HDD HXH heq HE;generalize hxi:((lk L i).toNat:Int)=xi at*;generalize hai:(acc:Int)=ai at*;go_wp2_with fail
              go_round
              case rel=>exact⟨i+1,acc*10+((lk L i).toNat-48),by rw[show((acc*10+((lk L i).toNat-48):Nat):Int)=ai*10+(xi-48)from HCAST]<;>go_num,by go_num,by omega,by omega,HN1,HACC⟩
              case measure=>simp[intOf];omega
        · obtain rfl:i=tn:=by omega
          have hE:=(uh HE)
          rw[dg_end,nm]at hE;obtain rfl:acc=v:=Option.some.inj hE;have hltI:decide ((i:Int)<(i:Int))=false:=by simp
          have ha0:(0:Int)<=(acc:Int):=by omega
          have HQ:Hid (0<=(acc:Int)/\(acc:Int)<9223372036854775808):=(⟨ha0,hacc⟩:_/\_)
          clear hE HE HV HDD HXH;go_wp2_with fail
          go_meet
          case rel=>exact⟨acc,rfl,⟨2,HT4,.inr ⟨rfl,rfl,rfl,rfl,HQ.1,HQ.2⟩⟩⟩
    |big hdd hv=>
      have HDD:Hid (∀i,p<=i->i<tn->isD (lk L i)=true):=hdd;have HV:Hid (nm 0 (dg L p tn)=none):=hv;clear hdd hv HFIN hsl;go_wp2_with fail
      go_loopw [7,8] (λs7 s8 wr=>∃(i:Nat) (n:Int),s7=.int .u64 n/\s8=.int .i64 i/\p<=i/\i<=tn/\BigN L w W4 p tn i n wr) (λ_ s8 _=>tn-(intOf s8).toNat)
      case atStart=>exact⟨p,0,rfl,rfl,Nat.le_refl _,by omega,Or.inl ⟨rfl,0,rfl,HV,by decide⟩⟩
      case round=>
        obtain⟨i,n,rfl,rfl,hpi,hito,HE⟩:=hrel;have hiM:(i:Int)<=M:=by omega
        rcases(uh HE)with⟨hwr,acc,rfl,hE,hacc⟩|h3
        · rw[hwr];have h4:=(uh HT4)
          have c0:=h4.c0;clear HE h4;rcases Nat.lt_or_ge i tn with hlt|hge
          · have hltI:decide ((i:Int)<(tn:Int))=true:=by simp;omega
            have hx:=lk_at (show i<L.length by omega);rw[dg_step hx hlt,nm]at hE;have hdi:=digit_nat ((uh HDD) i hpi hlt);split at hE
            · rename_i hcond
              have hix:=(uh HXH) i _ hx;have hx1:(48:Int)<=((lk L i).toNat:Int):=by omega
              have hx2:((lk L i).toNat:Int)<=57:=by omega
              have ha0:(0:Int)<=(acc:Int):=by omega
              have f0:=(uh HT4).fz 0;have HT5:Hid (Ts w 3 p tn 0 ⟨#[]⟩ (W4.setCell ⟨w.heap.size,0,none⟩ (.int .i64 3))):=(uh HT4).set0 3;by_cases heq:(acc:Int)=922337203685477580
              · have h55:(55:Int)<((lk L i).toNat:Int):=by omega
                have h1:¬(922337203685477580:Int)<(acc:Int):=by omega
                have h2:((acc:Int)==922337203685477580)=true:=by simpa using heq
                clear hE hx hcond hdi HV HDD HXH hwr;generalize hxi:((lk L i).toNat:Int)=xi at*;generalize hai:(acc:Int)=ai at*;go_wp2_with fail;go_roundw
                case rel=>exact⟨i+1,_,rfl,by go_num,by omega,by omega,Or.inr HT5⟩
                case measure=>simp[intOf];omega
              · have h1:(922337203685477580:Int)<(acc:Int):=by omega
                clear hE hx hcond hdi HV HDD HXH hwr heq;generalize hxi:((lk L i).toNat:Int)=xi at*;generalize hai:(acc:Int)=ai at*;go_wp2_with fail;go_roundw
                case rel=>exact⟨i+1,_,rfl,by go_num,by omega,by omega,Or.inr HT5⟩
                case measure=>simp[intOf];omega
            · rename_i hcond
              have HN1:Hid (nm (acc*10+((lk L i).toNat-48)) (dg L (i+1) tn)=none):=hE;have hix:=(uh HXH) i _ hx;have hx1:(48:Int)<=((lk L i).toNat:Int):=by omega
              have hx2:((lk L i).toNat:Int)<=57:=by omega
              have hcast:((acc*10+((lk L i).toNat-48):Nat):Int)=(acc:Int)*10+(((lk L i).toNat:Int)-48):=by omega
              have HCAST:Hid (((acc*10+((lk L i).toNat-48):Nat):Int)=(acc:Int)*10+(((lk L i).toNat:Int)-48)):=hcast;have hacc2:((acc*10+((lk L i).toNat-48):Nat):Int)<9223372036854775808:=by omega
              have HACC:Hid (((acc*10+((lk L i).toNat-48):Nat):Int)<9223372036854775808):=hacc2;have ha0:(0:Int)<=(acc:Int):=by omega
              by_cases heq:(acc:Int)=922337203685477580
              · have h55:¬(55:Int)<((lk L i).toNat:Int):=by omega
                have h1:¬(922337203685477580:Int)<(acc:Int):=by omega
                have h2:((acc:Int)==922337203685477580)=true:=by simpa using heq
                clear hE hx hcond hdi hcast hacc2 HV HDD HXH hwr;generalize hxi:((lk L i).toNat:Int)=xi at*;generalize hai:(acc:Int)=ai at*;go_wp2_with fail;go_roundw
                case rel=>exact⟨i+1,((acc*10+((lk L i).toNat-48):Nat):Int),by rw[show((acc*10+((lk L i).toNat-48):Nat):Int)=ai*10+(xi-48)from HCAST]<;>go_num,by go_num,by omega,by omega,Or.inl ⟨rfl,_,rfl,HN1,HACC⟩⟩
                case measure=>simp[intOf];omega
              · have h1:¬(922337203685477580:Int)<(acc:Int):=by omega
                have h3:(acc:Int)<922337203685477580:=by omega
                have h2:((acc:Int)==922337203685477580)=false:=by simpa using heq
                clear hE hx hcond hdi hcast hacc2 HV HDD HXH heq hwr;generalize hxi:((lk L i).toNat:Int)=xi at*;generalize hai:(acc:Int)=ai at*;go_wp2_with fail;go_roundw
                case rel=>exact⟨i+1,((acc*10+((lk L i).toNat-48):Nat):Int),by rw[show((acc*10+((lk L i).toNat-48):Nat):Int)=ai*10+(xi-48)from HCAST]<;>go_num,by go_num,by omega,by omega,Or.inl ⟨rfl,_,rfl,HN1,HACC⟩⟩
                case measure=>simp[intOf];omega
          · obtain rfl:i=tn:=by omega
            rw[dg_end,nm]at hE;cases hE
        · have c0:=h3.c0;have HE3:Hid (Ts w 3 p tn 0 ⟨#[]⟩ wr):=h3;clear h3 HE HV HDD HXH;rcases Nat.lt_or_ge i tn with hlt|hge
          · have hltI:decide ((i:Int)<(tn:Int))=true:=by simp;omega
            go_wp2_with fail
            go_meet
            case rel=>exact⟨n,rfl,⟨3,HE3,.inl ⟨rfl,rfl,rfl,rfl⟩⟩⟩
          · have hltI:decide ((i:Int)<(tn:Int))=false:=by simp;omega
            go_wp2_with fail
            go_meet
            case rel=>exact⟨n,rfl,⟨3,HE3,.inl ⟨rfl,rfl,rfl,rfl⟩⟩⟩
  case rest=>
  obtain⟨n,rfl,kE,HF5⟩:=hcut;obtain⟨W5,hW5⟩:∃W5,wc=W5:=⟨_,rfl⟩
  rw[hW5]at HF5⊢;clear hW5 HT4 HFIN HXH;have hpI:(0:Int)<=(p:Int):=by omega
  have hptI:(p:Int)<=(tn:Int):=by omega
  rcases(uh HF5)with⟨h5,⟨rfl,hkd,hnu,htx⟩|⟨rfl,hkd,hnu,htx,hn0,hn1⟩⟩
  · have HR:Hid (kd=3/\nu=0/\tx=T.extract p tn):=(⟨hkd,hnu,htx⟩:_/\_/\_)
    clear hkd hnu htx HF5;have c0:=h5.c0;have c1:=h5.c1;have c5:=h5.c5;have f5:=h5.fz 5;obtain⟨W6,hW6,HT6⟩:∃W6,W6=W5.setCell ⟨w.heap.size,5,none⟩ (.string (T.extract p tn))/\Hid (Ts w 3 p tn 0 (T.extract p tn) W6):=⟨_,rfl,h5.set5 _⟩
    clear h5;generalize hX:T.extract p tn=X at*;clear hX;go_upto_region 34 with fail
    rename_i Kr hKr
    have HKR:Hid (∀(a:Act) (w1:World),bodyPost Tryz.prog Tryz.f115 (NumP w kd p tn nu tx) Exit.ret a w1->Kr a w1):=(λa w1 h=>hKr a w1 (wp_ret h):∀(a:Act) (w1:World),bodyPost Tryz.prog Tryz.f115 (NumP w kd p tn nu tx) Exit.ret a w1->Kr a w1)
    go_light
    rw[<-hW6];clear hW6 c0 c1 c5 f5 hsl;have h6:=(uh HT6)
    have hc0:=h6.c0;have hc1:=h6.c1;have hc2:=h6.c2;have hc3:=h6.c3;have hc4:=h6.c4;have hc5:=h6.c5;have z3:=h6.rz;obtain⟨g0,g1,g2,g3,g4,g5,v0,v1,v2,v3,v4,v5,e0,e1,e2,e3,e4,e5⟩:=z3.all;have HBL:Hid (Below w.heap.size w _):=h6.bel;clear h6 z3;go_wp2_with fail;refine(uh HKR) _ _ (bodyPost_ret (by simp[results,Tryz.results115,go_sem,e0,e1,e2,e3,e4,e5];rfl) rfl ?_);obtain⟨g1,g2,g3⟩:=(uh HR)
    subst g1 g2 g3;exact⟨st6_bel HBL (Nat.le_succ _) _ _ _ _ _ _,λ_=>rfl,λg=>absurd g (by decide)⟩
  · have HR:Hid (kd=2/\nu=n/\tx=⟨#[]⟩):=(⟨hkd,hnu,htx⟩:_/\_/\_)
    clear hkd hnu htx HF5 hsl;have c0:=h5.c0;have c4:=h5.c4;have f4:=h5.fz 4;obtain⟨W6,hW6,HT6⟩:∃W6,W6=W5.setCell ⟨w.heap.size,4,none⟩ (.int .i64 n)/\Hid (Ts w 2 p tn n ⟨#[]⟩ W6):=⟨_,rfl,h5.set4 _⟩
    clear h5;go_upto_region 34 with fail
    rename_i Kr hKr
    have HKR:Hid (∀(a:Act) (w1:World),bodyPost Tryz.prog Tryz.f115 (NumP w kd p tn nu tx) Exit.ret a w1->Kr a w1):=(λa w1 h=>hKr a w1 (wp_ret h):∀(a:Act) (w1:World),bodyPost Tryz.prog Tryz.f115 (NumP w kd p tn nu tx) Exit.ret a w1->Kr a w1)
    go_light
    rw[<-hW6];clear hW6 c0 c4 f4;have h6:=(uh HT6)
    have hc0:=h6.c0;have hc1:=h6.c1;have hc2:=h6.c2;have hc3:=h6.c3;have hc4:=h6.c4;have hc5:=h6.c5;have z3:=h6.rz;obtain⟨g0,g1,g2,g3,g4,g5,v0,v1,v2,v3,v4,v5,e0,e1,e2,e3,e4,e5⟩:=z3.all;have HBL:Hid (Below w.heap.size w _):=h6.bel;clear h6 z3;go_wp2_with fail;refine(uh HKR) _ _ (bodyPost_ret (by simp[results,Tryz.results115,go_sem,e0,e1,e2,e3,e4,e5];rfl) rfl ?_);obtain⟨g1,g2,g3⟩:=(uh HR)
    subst g1 g2 g3;exact⟨st6_bel HBL (Nat.le_succ _) _ _ _ _ _ _,λ_=>rfl,λg=>absurd g (by decide)⟩
def hv(c:UInt8):Int:=if dgb 16 c=true then(Rd.dv c:Int)else-1
theorem hv_yes(h:dgb 16 c=true):hv c=(Rd.dv c:Int)/\Rd.dv c<16:=by
 refine⟨by unfold hv;rw[if_pos h],?_⟩;rw[Rd.dv_dw _ _ (by decide)];unfold dgb at h
 simpa using h
theorem hv_no(h:dgb 16 c=false):hv c=-1:=by unfold hv;rw[h];rfl
theorem dgb_zero:dgb 16 0=false:=by decide
theorem spec_hexb(c:UInt8)(w:World):Calls Tryz.prog 124 #[.int .u8 c.toNat] w λe w'=>e=.returned (.int .i64 (hv c))/\w'=w:=by
 have hc:=c.toNat_lt;have hD:=spec_isD c;have hr:(48<=c.toNat/\c.toNat<=57)\/(97<=c.toNat/\c.toNat<=102)\/(¬(48<=c.toNat/\c.toNat<=57)/\¬(97<=c.toNat/\c.toNat<=102)):=by omega
 rcases hr with h|h|h
 ·have e:isD c=true:=by unfold isD;simp;omega
  have e2:hv c=(c.toNat:Int)-48:=by unfold hv dgb Rd.dw Rd.dv;rw[if_pos h,if_pos h,if_pos (by simp;omega)];omega
  rw[e]at hD;rw[e2];obtain⟨h1,h2⟩:=h;generalize (c.toNat)=x at*;clear e e2;go_enter Tryz.func124,Tryz.ntmps124;go_wp2_with fail;refine(hD _).mono ?_;rintro e w1 ⟨rfl,rfl⟩;go_wp2_with fail;refine bodyPost_ret (by simp[results,Tryz.results124,go_sem];rfl) rfl ?_;exact⟨rfl,rfl⟩
 ·have e:isD c=false:=by unfold isD;simp;omega
  have hn:¬(48<=c.toNat/\c.toNat<=57):=by omega
  have e2:hv c=(c.toNat:Int)-97+10:=by unfold hv dgb Rd.dw Rd.dv;rw[if_neg hn,if_neg hn,if_pos (show 97<=c.toNat/\c.toNat<=122 by omega),if_pos (show 97<=c.toNat/\c.toNat<=122 by omega),if_pos (by simp;omega)];omega
  rw[e]at hD;rw[e2];obtain⟨h1,h2⟩:=h;generalize (c.toNat)=x at*;clear e e2 hn;go_enter Tryz.func124,Tryz.ntmps124;go_wp2_with fail;refine(hD _).mono ?_;rintro e w1 ⟨rfl,rfl⟩;go_wp2_with fail;refine bodyPost_ret (by simp[results,Tryz.results124,go_sem];rfl) rfl ?_;exact⟨rfl,rfl⟩
 ·have e:isD c=false:=by unfold isD;simp;omega
  have e2:hv c=-1:=by
   unfold hv dgb Rd.dw;rw[if_neg h.1];split
   ·rename_i g;rw[if_neg (by simp;omega)]
   ·rfl
  rw[e]at hD;rw[e2];have h1:¬(97<=c.toNat/\c.toNat<=102):=h.2;by_cases h97:(97:Int)<=(c.toNat:Int)
  ·have h102:¬(c.toNat:Int)<=102:=by omega
   generalize (c.toNat)=x at*;clear e e2 h h1;go_enter Tryz.func124,Tryz.ntmps124;go_wp2_with fail;refine(hD _).mono ?_;rintro e w1 ⟨rfl,rfl⟩;go_wp2_with fail;refine bodyPost_ret (by simp[results,Tryz.results124,go_sem];rfl) rfl ?_;exact⟨rfl,rfl⟩
  ·generalize (c.toNat)=x at*;clear e e2 h h1;go_enter Tryz.func124,Tryz.ntmps124;go_wp2_with fail;refine(hD _).mono ?_;rintro e w1 ⟨rfl,rfl⟩;go_wp2_with fail;refine bodyPost_ret (by simp[results,Tryz.results124,go_sem];rfl) rfl ?_;exact⟨rfl,rfl⟩
theorem rd_step16{v:Nat}{x:UInt8}{r:List UInt8}(h:Rd.rd 16 acc (x::r)=some v):Rd.rd 16 (acc*16+Rd.dv x) r=some v:=by
 unfold Rd.rd at h;split at h
 ·exact h
 ·cases h
def HxI(L:List UInt8)(p j acc:Nat):Prop:=
 en (dgb 16) L (p+2)=en (dgb 16) L j/\acc<16 ^ (j-(p+2))/\∀v,Rd.rd 16 0 (dg L (p+2) (en (dgb 16) L (p+2)))=some v->Rd.rd 16 acc (dg L j (en (dgb 16) L (p+2)))=some v
theorem HxI.start(L:List UInt8)(p:Nat):HxI L p (p+2) 0:=⟨rfl,by simp,λv h=>h⟩
theorem HxI.step{L:List UInt8}{p j:Nat}(h:HxI L p j acc)(hp:p+2<=j)(hj:j<L.length)(hd:dgb 16 (lk L j)=true):HxI L p (j+1) (acc*16+Rd.dv (lk L j)):=by
 obtain⟨h1,h2,h3⟩:=h;obtain⟨g1,g2⟩:=en_at (p:=dgb 16) dgb_zero hd;refine⟨h1.trans g1,?_,?_⟩
 ·have hv:=(hv_yes hd).2;rw[show j+1-(p+2)=(j-(p+2))+1 by omega,Nat.pow_succ];omega
 ·intro v hv;have:=h3 v hv;rw[dg_step (lk_at hj) (by rw[h1,g1];have:=en_ge (dgb 16) L (j+1);omega)]at this;exact rd_step16 this
theorem spec_hexed(T:ByteArray)(L:List UInt8)(hT:T.data.toList=L)(hlen:L.length<=65536)(p:Nat)(hp:p+2<=L.length){ok:Bool}{n:Int}(hn:Hx L p ok tn n)(kd:Int)(hkd:kd=if ok=true then 2 else 0)(w:World):
    Calls Tryz.prog 123 #[.string T,tokV 2 p 0 0 0 ⟨#[]⟩] w (NumP w kd p tn n ⟨#[]⟩):=by
  have hs:T.size=L.length:=by rw[<-hT];simp
  obtain⟨M,hM,hLM⟩:∃M:Int,M<=65536/\(L.length:Int)<=M:=⟨L.length,by omega,Int.le_refl _⟩
  have hpM:(p:Int)+2<=M:=by omega
  have HLH:Hid (LkAll T L):=(λj=>spec_look T L hT j:LkAll T L)
  have HXH:Hid (IxAll T L):=(λj c hj=>ix T L hT j c hj:IxAll T L)
  have HN:Hid (Hx L p ok tn n/\kd=if ok=true then 2 else 0):=(⟨hn,hkd⟩:_/\_)
  have hst:=Ts.start w 2 p 0 0 ⟨#[]⟩;obtain⟨W,hWe,hts⟩:∃W,W=(w.alloc (.cells #[.int .i64 2,.int .i64 p,.int .i64 0,.int .i64 0,.int .i64 0,.string ⟨#[]⟩] 125)).alloc (.cells #[.int .i64 0,.int .i64 0,.int .i64 0,.int .i64 0,.int .i64 0,.string ⟨#[]⟩] 125)/\Ts w 2 p 0 0 ⟨#[]⟩ W:=⟨_,rfl,hst⟩
  have HTS:Hid (Ts w 2 p 0 0 ⟨#[]⟩ W):=hts;have c1:=hts.c1;clear hT hlen hn hkd hst hts;show Calls Tryz.prog 123 #[.string T,.agg #[.int .i64 2,.int .i64 p,.int .i64 0,.int .i64 0,.int .i64 0,.string ⟨#[]⟩]] w _;go_enter Tryz.func123,Tryz.ntmps123
  go_upto_block 0 with fail
  rw[<-hWe];clear hWe;go_wp2_with fail
  go_loop [6,7] (λs6 s7=>∃j acc:Nat,s6=.int .i64 j/\s7=.int .u64 acc/\p+2<=j/\j<=L.length/\j<=p+18/\HxI L p j acc) (λs6 _=>L.length-(intOf s6).toNat)
  case atStart=>exact⟨p+2,0,by go_num,rfl,Nat.le_refl _,hp,by omega,HxI.start L p⟩
  case round=>
    obtain⟨j,acc,rfl,rfl,hpj,hjL,hj18,HI⟩:=hrel;have hl:=(uh HLH) j;have hx:=spec_hexb (lk L j);have hjM:(j:Int)<=M:=by omega
    cases hgo:dgb 16 (lk L j)with
    |true=>
      obtain⟨hv1,hv2⟩:=hv_yes hgo;rw[hv1]at hx;obtain⟨h1,hjn⟩:=en_at (p:=dgb 16) dgb_zero hgo;have hd0:(0:Int)<=(Rd.dv (lk L j):Int):=by omega
      by_cases h18:j=p+18
      · have hI18:(j:Int)-(p:Int)=18:=by omega
        have HNT:Hid (kd=0/\tn=j):=by
          obtain⟨g1,g2⟩:=(uh HN)
          have:=HI.1;have hge:=en_ge (dgb 16) L (j+1);cases g1 with
          |none k1=>omega
          |many k1=>rw[if_neg (by decide)]at g2;exact⟨g2,h18.symm⟩
          |some e v k1 k2 k3 k4=>omega
        clear HI hgo h1 hv1 hv2 h18 HN hj18;generalize ((lk L j).toNat:Int)=xj at hl hx;generalize (Rd.dv (lk L j):Int)=dj at*;go_wp2_with fail;refine(hl _).mono ?_;rintro e w1 ⟨rfl,hw1⟩;rw[hw1];clear hl hw1;go_wp2_with fail;refine(hx _).mono ?_;rintro e w1 ⟨rfl,hw1⟩;rw[hw1];clear hx hw1;go_upto_region 5 with fail
        rename_i Kr hKr
        have HKR:Hid (∀(a:Act) (w1:World),bodyPost Tryz.prog Tryz.f123 (NumP w kd p tn n ⟨#[]⟩) Exit.ret a w1->Kr a w1):=(λa w1 h=>hKr a w1 (wp_ret h):∀(a:Act) (w1:World),bodyPost Tryz.prog Tryz.f123 (NumP w kd p tn n ⟨#[]⟩) Exit.ret a w1->Kr a w1)
        go_light
        have h6:=(uh HTS)
        have hc0:=h6.c0;have hc1:=h6.c1;have hc2:=h6.c2;have hc3:=h6.c3;have hc4:=h6.c4;have hc5:=h6.c5;have z3:=h6.rz;obtain⟨g0,g1,g2,g3,g4,g5,v0,v1,v2,v3,v4,v5,e0,e1,e2,e3,e4,e5⟩:=z3.all;have HBL:Hid (Below w.heap.size w _):=h6.bel;clear h6 z3;go_wp2_with fail;refine(uh HKR) _ _ (bodyPost_ret (by simp[results,Tryz.results123,go_sem,e0,e1,e2,e3,e4,e5];rfl) rfl ?_);exact⟨st6_bel HBL (Nat.le_succ _) _ _ _ _ _ _,λg=>(g HNT.1).elim,λ_=>⟨_,_,_,_,_,_,by rw[show tn=j from HNT.2];rfl⟩⟩
      · have hI18:¬(j:Int)-(p:Int)=18:=by omega
        have hI18b:(((j:Int)-(p:Int))==18)=false:=by simpa using hI18
        have hix:=(uh HXH) j _ (lk_at hjn);have HI1:=HI.step hpj hjn hgo
        have hacc:(acc:Int)<1152921504606846976:=by
          have h2:=HI.2.1;have h3:(16:Nat)^ (j-(p+2))<=16 ^ 15:=Nat.pow_le_pow_right (by decide) (by omega);have h4:(16:Nat)^ 15=1152921504606846976:=by decide
          omega
        have ha0:(0:Int)<=(acc:Int):=by omega
        have hd16:(Rd.dv (lk L j):Int)<16:=by omega
        have HCAST:Hid (((acc*16+Rd.dv (lk L j):Nat):Int)=(acc:Int)*16+(Rd.dv (lk L j):Int)):=by
          show((acc*16+Rd.dv (lk L j):Nat):Int)=(acc:Int)*16+(Rd.dv (lk L j):Int);omega
        have HJ:Hid (j+1<=p+18):=(by omega:j+1<=p+18)
        clear HI hgo h1 hv1 hv2 h18 HN hj18 HTS;generalize ((lk L j).toNat:Int)=xj at hl hx hix;generalize hdj:(Rd.dv (lk L j):Int)=dj at*;generalize hai:(acc:Int)=ai at*;go_wp2_with fail;refine(hl _).mono ?_;rintro e w1 ⟨rfl,rfl⟩;clear hl;go_wp2_with fail;refine(hx _).mono ?_;rintro e w1 ⟨rfl,rfl⟩;go_wp2_with fail;refine(hx _).mono ?_;rintro e w1 ⟨rfl,rfl⟩;clear hx;go_wp2_with fail
        go_round
        case rel=>exact⟨j+1,acc*16+Rd.dv (lk L j),by go_num,by rw[show((acc*16+Rd.dv (lk L j):Nat):Int)=ai*16+dj from HCAST]<;>go_num,by omega,by omega,HJ,HI1⟩
        case measure=>simp[intOf];omega
    |false=>
      rw[hv_no hgo]at hx;have hE:=HI.1;rw[en_no hgo]at hE;clear hgo;generalize ((lk L j).toNat:Int)=xj at hl hx;obtain⟨g1,g2⟩:=(uh HN)
      by_cases hj2:j=p+2
      · have HNT : Hid (kd = 0 ∧ tn = j) := by
          cases g1 with
          |none k1=>rw[if_neg (by decide)]at g2;exact⟨g2,hj2.symm⟩
          |many k1=>omega
          |some e v k1 k2 k3 k4=>omega
        have hjI:(j:Int)=(p:Int)+2:=by omega
        have hjb:((j:Int)==(p:Int)+2)=true:=by simpa using hjI
        clear HI hE g1 g2 hj2 HN hjI;go_wp2_with fail;refine(hl _).mono ?_;rintro e w1 ⟨rfl,hw1⟩;rw[hw1];clear hl hw1;go_wp2_with fail;refine(hx _).mono ?_;rintro e w1 ⟨rfl,hw1⟩;rw[hw1];clear hx hw1;go_upto_region 9 with fail
        rename_i Kr hKr
        have HKR:Hid (∀(a:Act) (w1:World),bodyPost Tryz.prog Tryz.f123 (NumP w kd p tn n ⟨#[]⟩) Exit.ret a w1->Kr a w1):=(λa w1 h=>hKr a w1 (wp_ret h):∀(a:Act) (w1:World),bodyPost Tryz.prog Tryz.f123 (NumP w kd p tn n ⟨#[]⟩) Exit.ret a w1->Kr a w1)
        go_light
        have h6:=(uh HTS)
        have hc0:=h6.c0;have hc1:=h6.c1;have hc2:=h6.c2;have hc3:=h6.c3;have hc4:=h6.c4;have hc5:=h6.c5;have z3:=h6.rz;obtain⟨g0,g1,g2,g3,g4,g5,v0,v1,v2,v3,v4,v5,e0,e1,e2,e3,e4,e5⟩:=z3.all;have HBL:Hid (Below w.heap.size w _):=h6.bel;clear h6 z3;go_wp2_with fail;refine(uh HKR) _ _ (bodyPost_ret (by simp[results,Tryz.results123,go_sem,e0,e1,e2,e3,e4,e5];rfl) rfl ?_);exact⟨st6_bel HBL (Nat.le_succ _) _ _ _ _ _ _,λg=>(g HNT.1).elim,λ_=>⟨_,_,_,_,_,_,by rw[show tn=j from HNT.2];rfl⟩⟩
      · have HNT : Hid (kd = 2 ∧ tn = j ∧ n = wrap64 (acc : Int)) := by
          cases g1 with
          |none k1=>omega
          |many k1=>omega
          |some e v k1 k2 k3 k4=>
            rw[if_pos rfl]at g2;have h9:=HI.2.2 v (by unfold dg;rw[k1];exact k4);rw[hE,dg_end]at h9;have h8:acc=v:=Option.some.inj h9;exact⟨g2,by omega,by rw[h8]⟩
        have hjb:((j:Int)==(p:Int)+2)=false:=by simp;omega
        have hts:=(uh HTS)
        have c2:=hts.c2;have c4:=(hts.set2 (j:Int)).c4;have f2:=hts.fz 2;have f4:=(hts.set2 (j:Int)).fz 4;obtain⟨W6,hW6,HT6⟩:∃W6,W6=(W.setCell ⟨w.heap.size,2,none⟩ (.int .i64 j)).setCell ⟨w.heap.size,4,none⟩ (.int .i64 (wrap64 (acc:Int)))/\Hid (Ts w 2 p j (wrap64 (acc:Int)) ⟨#[]⟩ W6):=⟨_,rfl,(hts.set2 (j:Int)).set4 _⟩
        have ha0:(0:Int)<=(acc:Int):=by omega
        clear HI hE g1 g2 hj2 HN hts;generalize (acc:Int)=ai at*;go_wp2_with fail;refine(hl _).mono ?_;rintro e w1 ⟨rfl,hw1⟩;rw[hw1];clear hl hw1;go_wp2_with fail;refine(hx _).mono ?_;rintro e w1 ⟨rfl,hw1⟩;rw[hw1];clear hx hw1;go_upto_region 12 with fail
        rename_i Kr hKr
        have HKR:Hid (∀(a:Act) (w1:World),bodyPost Tryz.prog Tryz.f123 (NumP w kd p tn n ⟨#[]⟩) Exit.ret a w1->Kr a w1):=(λa w1 h=>hKr a w1 (wp_ret h):∀(a:Act) (w1:World),bodyPost Tryz.prog Tryz.f123 (NumP w kd p tn n ⟨#[]⟩) Exit.ret a w1->Kr a w1)
        go_light
        rw[<-hW6];clear hW6 c2 c4 f2 f4 c1;have h6:=(uh HT6)
        have hc0:=h6.c0;have hc1:=h6.c1;have hc2:=h6.c2;have hc3:=h6.c3;have hc4:=h6.c4;have hc5:=h6.c5;have z3:=h6.rz;obtain⟨g0,g1,g2,g3,g4,g5,v0,v1,v2,v3,v4,v5,e0,e1,e2,e3,e4,e5⟩:=z3.all;have HBL:Hid (Below w.heap.size w _):=h6.bel;clear h6 z3;go_wp2_with fail;refine(uh HKR) _ _ (bodyPost_ret (by simp[results,Tryz.results123,go_sem,e0,e1,e2,e3,e4,e5];rfl) rfl ?_);obtain⟨g1,g2,g3⟩:=(uh HNT)
        subst g1 g2 g3;exact⟨st6_bel HBL (Nat.le_succ _) _ _ _ _ _ _,λ_=>rfl,λg=>absurd g (by decide)⟩
