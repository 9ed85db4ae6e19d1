import Derived.Test.YtkhdehngobkkfaaGreatDoorASbg
import Derived.Deep.CutBlock
import Derived.Deep.Light
set_option maxRecDepth 100000
set_option maxHeartbeats 4000000
namespace Go.Proofs.YtkhdehngobkkfaaGreatDoor
open Go.ChangeShapes Go.WideShapes Go.ChangeAt Go.RowKit
set_option linter.unusedVariables false
variable {B k:Nat}{T:ByteArray}{l:Int}{st:Bool}
def ImP(B:Nat)(T:ByteArray)(kd:Int)(tn:Nat)(nu:Int)(tx:ByteArray)(l:Int)(st:Bool)(w:World)(e:Ending)(w':World):Prop:=e=.returned (tokV kd 0 0 0 nu tx)/\Mv B T (tn:Int) l st w w'
theorem en_ten(L:List UInt8)(k:Nat):en (dgb 10) L k=en isD L k:=by rw[show dgb 10=isD from funext dgb_ten]
theorem take_if(L:List UInt8)(hT:T.data.toList=L)(c:UInt8)(hc:c≠0)(ci:Int)(hci:ci=(c.toNat:Int))(hlen:T.size<=65536)(hk:k<=L.length)(w:World)(h:Sb B T k l st w):
  Calls Tryz.prog 150 #[.pointer (some ⟨B,0,none⟩),.int .u8 ci] w λe w'=>e=.returned (.bool (decide (lk L k=c)))/\Mv B T ((if lk L k=c then k+1 else k:Nat):Int) l st w w':=by
 have hs:T.size=L.length:=by rw[<-hT];simp
 by_cases hx:lk L k=c
 ·have hkl:k<L.length:=lk_lt hc hx;have:=take_mv c ci hci true (k+1) hlen (by omega) (by rw[hT];exact .inl ⟨by rw[<-hx];exact lk_at hkl,rfl,rfl⟩) w h;rw[decide_eq_true hx,if_pos hx];exact this
 ·have:=take_mv c ci hci false k hlen (by omega) (by rw[hT];exact .inr ⟨λg=>hx (lk_some g),rfl,rfl⟩) w h;rw[decide_eq_false hx,if_neg hx];exact this
theorem impl_num(L:List UInt8)(hT:T.data.toList=L)(hlen:T.size<=65536)(hB:12<=B)(hd:isD (lk L k)=true)(hx0:¬(lk L k=48/\lk L (k+1)=120)){kd:Int}{tn:Nat}{nu:Int}{tx:ByteArray}(hn:Num T L k kd tn nu tx)(w:World)(hg:Gd w)(h:Sb B T k l st w):
    Calls Tryz.prog 162 #[.pointer (some ⟨B,0,none⟩)] w (ImP B T kd tn nu tx l st w):=by
  have hs:T.size=L.length:=by rw[<-hT];simp
  have hk:k<L.length:=isD_lt hd;obtain⟨M,hM,hLM⟩:∃M:Int,M<=65536/\(L.length:Int)<=M:=⟨L.length,by omega,Int.le_refl _⟩
  have hkM:(k:Int)<=M:=by omega
  have hBlt:B<w.heap.size:=h.lt;have hnB:w.heap.size≠B:=by omega
  have hz:=Mz.start h
  have hsee:=sees_run (l:=l) (st:=st) (B:=B) ⟨#[48,120]⟩ false (show k<=T.size by omega) (by
    rw[hT];cases hq:pre L k [48,120]with
    |false=>rfl
    |true=>
      obtain⟨q1,q2⟩:=(pre_two L k 48 120).1 hq
      exact(hx0 ⟨lk_some q1,lk_some q2⟩).elim) _ hz.1.2
  obtain⟨W0,hW0,HZ0⟩:∃W0,W0=w.alloc (.cells #[.int .i64 0,.int .i64 0,.int .i64 0,.int .i64 0,.int .i64 0,.string ⟨#[]⟩] 125)/\Hid (Mz B w.heap.size T k l st w W0):=⟨_,rfl,hz⟩
  rw[<-hW0]at hsee;obtain⟨a,ha⟩:∃a,q1 L k=a:=⟨_,rfl⟩
  obtain⟨b,hb⟩:∃b,q2 L a=b:=⟨_,rfl⟩
  have haL:=q1_le (L:=L) hk;rw[ha]at haL;have hbL:=q2_le (L:=L) haL.2;rw[hb]at hbL;have HA:Hid (q1 L k=a/\q2 L a=b/\isD (lk L k)=true):=(⟨ha,hb,hd⟩:_/\_/\_)
  have HN:Hid (Num T L k kd tn nu tx):=hn;have HG:Hid (Gd w):=hg;have HC:Hid (T.data.toList=L/\T.size<=65536/\12<=B/\isD (lk L k)=true):=(⟨hT,hlen,hB,hd⟩:_/\_/\_/\_)
  clear hg h hz hd hx0 hn ha hb hlen hB hT;go_enter Tryz.func162,Tryz.ntmps162;go_wp2_with fail;rw[<-hW0];clear hW0;refine hsee.mono ?_;rintro e w1 ⟨rfl,m,hw1⟩;have HZ1:Hid (Mz B w.heap.size T k l st w w1):=by rw[hw1];exact(uh HZ0).drewN m
  clear hsee HZ0 hw1;have b1:=HZ1.1.2.c1;have htk:=take_if L HC.1 (k:=k) (l:=l) (st:=st) 48 (by decide) 48 rfl HC.2.1 (by omega) w1 HZ1.1.2
  go_upto_if 21 with(go_at_call 150;refine htk.mono ?_;rintro e w2 ⟨rfl,m2⟩)
  have HZ2:Hid (Mz B w.heap.size T ((if lk L k=48 then k+1 else k:Nat):Int) l st w w2):=HZ1.trans m2 hnB;clear htk m2 b1 HZ1
  go_cut []from 6 (λwc=>Mz B w.heap.size T (a:Int) l st w wc)
  case first=>
    obtain⟨hqa,hqb,hd⟩:=(uh HA)
    have hz2:=(uh HZ2)
    unfold q1 at hqa;by_cases h48:lk L k=48
    · rw[if_pos h48]at hqa hz2;rw[decide_eq_true h48];have HQ:Hid (Mz B w.heap.size T (a:Int) l st w w2):=by rw[<-hqa];exact hz2
      clear hqa hqb hd hz2 HZ2 h48;go_wp2_with fail
      go_meet
      case rel=>exact HQ
    · rw[if_neg h48]at hqa hz2;rw[decide_eq_false h48];have hdg:=impl_digits L HC.1 (k:=k) 10 (by decide) HC.2.1 (by omega) w2 hz2.1.2;rw[en_ten,(en_at isD_zero hd).1,hqa]at hdg;have HQ2:Hid (Mz B w.heap.size T (k:Int) l st w w2):=hz2;clear hqa hqb hd hz2 HZ2 h48;go_wp2_with fail;refine hdg.mono ?_;rintro e w3 ⟨rfl,m3⟩;have HQ:Hid (Mz B w.heap.size T (a:Int) l st w w3):=(uh HQ2).trans m3 hnB;clear hdg m3 HQ2;go_wp2_with fail
      go_meet
      case rel=>exact HQ
  case rest=>
  have HZ3:Hid (Mz B w.heap.size T (a:Int) l st w wc):=hcut;clear hcut HZ2;obtain⟨W3,hW3⟩:∃W3,wc=W3:=⟨_,rfl⟩
  rw[hW3]at HZ3⊢;clear hW3;have hfr:=frac_mv L HC.1 (k:=a) (l:=l) (st:=st) HC.2.1 haL.2 (frc L a) rfl W3 HZ3.1.2
  go_upto_if 27 with(go_at_call 170;refine hfr.mono ?_;rintro e w4 ⟨rfl,m4⟩)
  have HZ4:Hid (Mz B w.heap.size T (a:Int) l st w w4):=HZ3.trans m4 hnB;clear hfr m4 HZ3
  go_cut []from 6 (λwc=>Mz B w.heap.size T (b:Int) l st w wc)
  case first=>
    obtain⟨hqa,hqb,hd⟩:=(uh HA)
    have hz4:=(uh HZ4)
    unfold q2 at hqb;cases hfc:frc L a with
    |true=>
      rw[hfc,if_pos rfl]at hqb
      have haL2:a<L.length:=by
        have hf:=hfc;unfold frc at hf;simp at hf;exact lk_lt (by decide) hf.1
      have b1:=hz4.1.2.c1;have f1:=hz4.1.2.fz 1;obtain⟨W5,hW5,HZ5⟩:∃W5,W5=w4.setCell ⟨B,1,none⟩ (.int .i64 ((a:Int)+1))/\Hid (Mz B w.heap.size T ((a+1:Nat):Int) l st w W5):=⟨_,rfl,by rw[show((a+1:Nat):Int)=(a:Int)+1 by omega];exact hz4.set1 hnB _⟩
      have haM:(a:Int)<M:=by omega
      have hdg:=impl_digits L HC.1 (k:=a+1) 10 (by decide) HC.2.1 (by omega) W5 HZ5.1.2;rw[en_ten,hqb]at hdg;clear hqa hqb hd hz4 HZ4 hfc haL2;go_wp2_with fail;rw[<-hW5];clear hW5 b1 f1;refine hdg.mono ?_;rintro e w6 ⟨rfl,m6⟩;have HQ:Hid (Mz B w.heap.size T (b:Int) l st w w6):=(uh HZ5).trans m6 hnB;clear hdg m6 HZ5;go_wp2_with fail
      go_meet
      case rel=>exact HQ
    |false=>
      rw[hfc,if_neg (by decide)]at hqb;have HQ:Hid (Mz B w.heap.size T (b:Int) l st w w4):=by rw[<-hqb];exact hz4
      clear hqa hqb hd hz4 HZ4 hfc;go_wp2_with fail
      go_meet
      case rel=>exact HQ
  case rest=>
  have HZ5:Hid (Mz B w.heap.size T (b:Int) l st w wc):=hcut;clear hcut HZ4;obtain⟨W5,hW5⟩:∃W5,wc=W5:=⟨_,rfl⟩
  rw[hW5]at HZ5⊢;clear hW5;have hte:=take_if L HC.1 (k:=b) (l:=l) (st:=st) 101 (by decide) 101 rfl HC.2.1 hbL.2 W5 HZ5.1.2
  go_upto_if 44 with(go_at_call 150;refine hte.mono ?_;rintro e w6 ⟨rfl,m6⟩)
  have HZ6:Hid (Mz B w.heap.size T ((if lk L b=101 then b+1 else b:Nat):Int) l st w w6):=HZ5.trans m6 hnB;clear hte m6 HZ5
  go_cut []from 6 (λwc=>Mz B w.heap.size T (tn:Int) l st w wc/\kd≠0/\k<tn/\tn<=L.length)
  case first=>
    obtain⟨hqa,hqb,hd⟩:=(uh HA)
    have hz6:=(uh HZ6)
    have hN:=(uh HN)
    by_cases h101:lk L b=101
    · rw[if_pos h101]at hz6;rw[decide_eq_true h101];have hbl:b<L.length:=lk_lt (by decide) h101;obtain⟨s,hse⟩:∃s,sgn L (b+1)=s:=⟨_,rfl⟩
      have hsl:=sgn_le (L:=L) (k:=b+1) (by omega);rw[hse]at hsl;have hsg:=sign_mv L HC.1 (k:=b+1) (l:=l) (st:=st) HC.2.1 (by omega) w6 hz6.1.2;rw[hse]at hsg
      have hyes:(kd=0/\nu=0/\tx=⟨#[]⟩/\tn=s/\isD (lk L s)=false)\/(tn=en isD L s/\kd≠0/\k<tn/\tn<=L.length/\isD (lk L s)=true):=by
        cases hN with
        |bad _ nb=>
          cases nb with|bad g1 g2=>rw[hqa,hqb,hse]at g2;exact .inl ⟨rfl,rfl,rfl,by rw[hqa,hqb,hse],g2⟩
        |flt _ nb=>
          have hle:=nb.le hk;cases nb with
          |frac g1 g2=>rw[hqa,hqb]at g2;exact(g2 h101).elim
          |exp g1 g2=>rw[hqa,hqb,hse]at g2;exact .inr ⟨by rw[hqa,hqb,hse],by decide,hle.1,hle.2,g2⟩
        |int _ v nb hv=>
          cases nb with
          |plain g1 g2=>
            rw[hqa]at g1 g2;have:b=a:=by rw[<-hqb];unfold q2;rw[g1,if_neg (by decide)]
            rw[this]at h101;exact(g2 h101).elim
        |big _ nb hv=>
          cases nb with
          |plain g1 g2=>
            rw[hqa]at g1 g2;have:b=a:=by rw[<-hqb];unfold q2;rw[g1,if_neg (by decide)]
            rw[this]at h101;exact(g2 h101).elim
      have HQ6:Hid (Mz B w.heap.size T ((b+1:Nat):Int) l st w w6):=hz6;have HY:Hid ((kd=0/\nu=0/\tx=⟨#[]⟩/\tn=s/\isD (lk L s)=false)\/(tn=en isD L s/\kd≠0/\k<tn/\tn<=L.length/\isD (lk L s)=true)):=hyes;clear hqa hqb hd hz6 HZ6 hN hse h101 hyes;go_wp2_with fail;refine hsg.mono ?_;rintro e w7 ⟨⟨z7,rfl⟩,m7⟩;have HQ7:Hid (Mz B w.heap.size T (s:Int) l st w w7):=(uh HQ6).trans m7 hnB;clear hsg m7 HQ6;have hdg:=impl_digits L HC.1 (k:=s) 10 (by decide) HC.2.1 hsl.2 w7 HQ7.1.2;rw[en_ten]at hdg;rcases(uh HY)with⟨y1,y2,y3,y4,y5⟩|⟨y1,y2,y3,y4,y5⟩
      · rw[en_no y5,ext_emptyD]at hdg;have HYY:Hid (kd=0/\nu=0/\tx=⟨#[]⟩/\tn=s):=(⟨y1,y2,y3,y4⟩:_/\_/\_/\_)
        clear y1 y2 y3 y4 y5 HY;go_wp2_with fail;refine hdg.mono ?_;rintro e w8 ⟨rfl,m8⟩;have HQ8:Hid (Mz B w.heap.size T (s:Int) l st w w8):=(uh HQ7).trans m8 hnB;clear hdg m8 HQ7;go_upto_region 12 with fail
        rename_i Kr hKr
        have HKR:Hid (∀(a:Act) (w1:World),bodyPost Tryz.prog Tryz.f162 (ImP B T kd tn nu tx l st w) Exit.ret a w1->Kr a w1):=(λa w1 h=>hKr a w1 (wp_ret h):∀(a:Act) (w1:World),bodyPost Tryz.prog Tryz.f162 (ImP B T kd tn nu tx l st w) Exit.ret a w1->Kr a w1)
        go_light
        have z3:=HQ8.2;obtain⟨g0,g1,g2,g3,g4,g5,v0,v1,v2,v3,v4,v5,e0,e1,e2,e3,e4,e5⟩:=z3.all;have HM4:Hid (Mv B T (s:Int) l st w w8):=HQ8.1;clear z3 HQ8;go_wp2_with fail;refine(uh HKR) _ _ (bodyPost_ret (by simp[results,Tryz.results162,go_sem,e0,e1,e2,e3,e4,e5];rfl) rfl ?_);obtain⟨y1,y2,y3,y4⟩:=(uh HYY)
        subst y1 y2 y3 y4;exact⟨rfl,st6_mv HM4 (Nat.le_refl _) hnB _ _ _ _ _ _⟩
      · have hne : (T.extract s (en isD L s)).toList.isEmpty = false := by
          obtain⟨q1,q2⟩:=en_at isD_zero y5;have:=en_ge isD L (s+1);exact ext_someD T s _ (by omega) (by rw[hs];exact en_le _ _ _ (by omega))
        rw[<-y1]at hdg hne;have HYY:Hid (kd≠0/\k<tn/\tn<=L.length):=(⟨y2,y3,y4⟩:_/\_/\_)
        clear y1 y2 y3 y4 y5 HY;generalize T.extract s tn=X at*;go_wp2_with fail;refine hdg.mono ?_;rintro e w8 ⟨rfl,m8⟩;have HQ8:Hid (Mz B w.heap.size T (tn:Int) l st w w8):=(uh HQ7).trans m8 hnB;clear hdg m8 HQ7;go_wp2_with fail
        go_meet
        case rel=>exact⟨HQ8,HYY⟩
    · rw[if_neg h101]at hz6;rw[decide_eq_false h101]
      have hno:tn=b/\kd≠0/\k<tn/\tn<=L.length:=by
        cases hN with
        |bad _ nb=>cases nb with|bad g1 g2=>rw[hqa,hqb]at g1;exact(h101 g1).elim
        |flt _ nb=>
          have hle:=nb.le hk;cases nb with
          |frac g1 g2=>exact⟨by rw[hqa,hqb],by decide,hle.1,hle.2⟩
          |exp g1 g2=>rw[hqa,hqb]at g1;exact(h101 g1).elim
        |int _ v nb hv=>
          have hle:=nb.le hk;cases nb with
          |plain g1 g2=>
            rw[hqa]at g1;exact⟨by rw[hqa,<-hqb];unfold q2;rw[g1,if_neg (by decide)],by decide,hle.1,hle.2⟩
        |big _ nb hv=>
          have hle:=nb.le hk;cases nb with
          |plain g1 g2=>
            rw[hqa]at g1;exact⟨by rw[hqa,<-hqb];unfold q2;rw[g1,if_neg (by decide)],by decide,hle.1,hle.2⟩
      have HQ:Hid (Mz B w.heap.size T (tn:Int) l st w w6/\kd≠0/\k<tn/\tn<=L.length):=by rw[hno.1];exact⟨hz6,hno.2.1,by omega,by omega⟩
      clear hqa hqb hd hz6 HZ6 hN h101 hno;go_wp2_with fail
      go_meet
      case rel=>exact HQ
  case rest=>
  obtain⟨hcz,hkd0,hkt,htL⟩:=hcut;obtain⟨W7,hW7⟩:∃W7,wc=W7:=⟨_,rfl⟩
  rw[hW7]at hcz⊢;clear hW7 HZ6;obtain⟨q,hread,hans⟩:=read_num T L HC.1 (by rw[<-hs];exact HC.2.1) k HC.2.2.2 (uh HN) hkd0;have htM:(tn:Int)<=M:=by omega
  have hsl:∀W:World,(Instr.slice 9 (.string T) (some (.int .i64 k)) (some (.int .i64 tn)) none).run Tryz.prog W=.ok (.string (T.extract k tn)) W:=by
    intro W;rw[run_slice_string (P:=Tryz.prog) W 9 T .i64 .i64 (k:Int) (tn:Int) Tryz.underlying9 (by omega) (by omega) (by omega)]
    simp
  have hsize:(T.extract k tn).size<=281474976710656:=by rw[ByteArray.size_extract];have:=HC.2.1;omega
  have hcl:=λW=>clone_run (T.extract k tn) hsize W;have hgd:∀m,Gd (W7.drewN m):=λm=>(uh HG).kb HC.2.2.1 (hcz.drewN m).1.1;have HZ7:Hid (∀m,Mz B w.heap.size T (tn:Int) l st w (W7.drewN m)):=(λm=>hcz.drewN m:∀m,Mz B w.heap.size T (tn:Int) l st w (W7.drewN m))
  have HGD:Hid (∀m,∃te pe,(W7.drewN m).cell? ⟨11,0,none⟩=some (.iface te pe)):=(λm=>(hgd m).err7:∀m,∃te pe,(W7.drewN m).cell? ⟨11,0,none⟩=some (.iface te pe))
  have b0:=hcz.1.2.c0;have b1:=hcz.1.2.c1;have HANS:Hid ((kd=2/\q=(0,nu)/\tx=⟨#[]⟩)\/(kd=3/\q.1≠0/\nu=0/\tx=T.extract k tn)):=hans;have hnW:w.heap.size<W7.heap.size:=hcz.2.lt;clear hcz hans hsize hgd HG HN HC HA haL hbL hkd0;generalize T.extract k tn=X at*;obtain⟨q1,q2⟩:=q;go_upto_region 13 with fail
  go_quiet (fail)
  clear hsl b0 b1;obtain⟨te,pe,h7⟩:=(uh HGD) nq;have hrd:=hread (W7.drewN nq) te pe h7;have HZ8:Hid (Mz B w.heap.size T (tn:Int) l st w (W7.drewN nq)):=HZ7 nq;clear hread h7 HGD HZ7;have hnW8:w.heap.size<(W7.drewN nq).heap.size:=hnW;clear hnW;generalize W7.drewN nq=W8 at*;unfold Rd.whole at hrd;go_wp2_with fail;refine hrd.mono ?_;rintro e w9 ⟨rfl,k9⟩
  have HZ9:Hid (Mz B w.heap.size T (tn:Int) l st w w9):=by
    have hz:=(uh HZ8)
    have hk9:Kb B W8 w9:=Kb.of_kept k9;have hk8:Kb W8.heap.size W8 w9:=Kb.of_kept k9;have hlt:=hz.1.2.lt;exact hz.trans ⟨hk9,(hk8.block B hlt (by omega)).trans hz.1.2⟩ hnB
  clear hrd k9 HZ8
  obtain⟨W10,hW10,HZ10,cA,cB⟩:∃W10,W10=w9.alloc (.cells #[.int .i64 q1,.int .i64 q2] 203)/\Hid (Mz B w.heap.size T (tn:Int) l st w W10)/\W10.cell? ⟨w9.heap.size,0,none⟩=some (.int .i64 q1)/\W10.cell? ⟨w9.heap.size,1,none⟩=some (.int .i64 q2):=
    ⟨_,rfl,(uh HZ9).trans (Mv.below HZ9.1.2 ((Below.refl _ w9).alloc (Nat.le_refl _) _) (Nat.le_refl _)) hnB,by simp,by simp⟩
  go_upto_region 15 with fail;rw[<-hW10];clear hW10 HZ9;rcases(uh HANS)with⟨y1,y2,y3⟩|⟨y1,y2,y3,y4⟩
  · have HYY:Hid (kd=2/\nu=q2/\tx=⟨#[]⟩):=(⟨y1,(congrArg Prod.snd y2).symm,y3⟩:_/\_/\_)
    have e10:q1=0:=congrArg Prod.fst y2;rw[e10]at cA;clear y1 y2 y3 e10 HANS hcl;go_upto_region 16 with fail
    rename_i Kr hKr
    have HKR:Hid (∀(a:Act) (w1:World),bodyPost Tryz.prog Tryz.f162 (ImP B T kd tn nu tx l st w) Exit.ret a w1->Kr a w1):=(λa w1 h=>hKr a w1 (wp_ret h):∀(a:Act) (w1:World),bodyPost Tryz.prog Tryz.f162 (ImP B T kd tn nu tx l st w) Exit.ret a w1->Kr a w1)
    go_light
    have z3:=HZ10.2;obtain⟨g0,g1,g2,g3,g4,g5,v0,v1,v2,v3,v4,v5,e0,e1,e2,e3,e4,e5⟩:=z3.all;have HM4:Hid (Mv B T (tn:Int) l st w W10):=HZ10.1;clear z3 HZ10;go_wp2_with fail;refine(uh HKR) _ _ (bodyPost_ret (by simp[results,Tryz.results162,go_sem,e0,e1,e2,e3,e4,e5];rfl) rfl ?_);obtain⟨y1,y2,y3⟩:=(uh HYY)
    subst y1 y2 y3;exact⟨rfl,st6_mv HM4 (Nat.le_refl _) hnB _ _ _ _ _ _⟩
  · have HYY:Hid (kd=3/\nu=0/\tx=X):=(⟨y1,y3,y4⟩:_/\_/\_)
    have e10:(q1==0)=false:=by simpa using y2
    have hc:=hcl W10;clear y1 y2 y3 y4 HANS hcl cB;go_upto_region 17 with fail
    rename_i Kr hKr
    have HKR:Hid (∀(a:Act) (w1:World),bodyPost Tryz.prog Tryz.f162 (ImP B T kd tn nu tx l st w) Exit.ret a w1->Kr a w1):=(λa w1 h=>hKr a w1 (wp_ret h):∀(a:Act) (w1:World),bodyPost Tryz.prog Tryz.f162 (ImP B T kd tn nu tx l st w) Exit.ret a w1->Kr a w1)
    go_light
    clear cA;go_wp2_with fail;refine hc.mono ?_;rintro e W11 ⟨rfl,hb11⟩;have HZ11:Hid (Mz B w.heap.size T (tn:Int) l st w W11):=(uh HZ10).trans (Mv.below HZ10.1.2 hb11 (Nat.le_refl _)) hnB;have z3:=HZ11.2;obtain⟨g0,g1,g2,g3,g4,g5,v0,v1,v2,v3,v4,v5,e0,e1,e2,e3,e4,e5⟩:=z3.all;have HM4:Hid (Mv B T (tn:Int) l st w W11):=HZ11.1;clear z3 HZ10 HZ11 hc hb11;go_wp2_with fail;refine(uh HKR) _ _ (bodyPost_ret (by simp[results,Tryz.results162,go_sem,e0,e1,e2,e3,e4,e5];rfl) rfl ?_);obtain⟨y1,y2,y3⟩:=(uh HYY)
    subst y1 y2 y3;exact⟨rfl,st6_mv HM4 (Nat.le_refl _) hnB _ _ _ _ _ _⟩
