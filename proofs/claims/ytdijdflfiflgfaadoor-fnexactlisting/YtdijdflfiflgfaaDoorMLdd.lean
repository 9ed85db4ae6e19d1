import Derived.Test.YtdijdflfiflgfaaDoorMLdc
import Derived.Deep.RegionHeldLaw
import Derived.Laws.StructEq
set_option maxHeartbeats 16000000
namespace Go.Proofs.YtdijdflfiflgfaaDoor.Fo
open Go.ChangeShapes Go.WideShapes Go.ChangeAt Go.RowKit
set_option linter.unusedVariables false
set_option maxRecDepth 100000
theorem im_listing {va : Value} {np : Nat} {F : Nat → Pd} (w : World) (hgd : Gd w) (hgn : Gn w) (hpw : Pw w) (ha : RowP 0 w va np F) (hb : Bd np F) :
    Calls Tryd.prog 7 #[.agg #[va]] w fun e w'=>∃ T,e = .returned (.string T) ∧ Lst np F T ∧ Kb 0 w w':=by
  have ha0:=ha
  obtain ⟨pa,ca,rfl,ha2⟩:=ha
  have hnI : (np : Int) ≤ 1048576:=by have:=hb.hnp;omega
  obtain ⟨w1,hw1⟩ : ∃ w1,w1 = w.alloc (.cells #[.slice pa np ca] 29):=⟨_,rfl⟩
  have k1 : Kb 0 w w1:=by rw [hw1];exact kb_alloc _ _ _
  have b1 : w1.cell? ⟨w.heap.size,0,none⟩ = some (.slice pa np ca):=by rw [hw1];exact cell_of (alloc_new _ _ _) rfl
  have HSH : Hid (Calls Tryd.prog 15 #[.agg #[.slice pa np ca]] w1 fun e w'=>∃ c f n : Nat,e = .returned (.agg #[.int .i64 (c : Int),.int .i64 (f : Int),.int .i64 (n : Int)]) ∧ Ans 7 np F c f n ∧ Kb 0 w1 w'):=im_shape w1 (hgd.keep k1) (ha0.keep k1) hb
  have HR : Hid ((0 < np → ∃ A : Addr,pa = some A ∧ np ≤ ca ∧ 0 ≤ A.block ∧ ∀ i,i < np → ProC 0 w (A.add (i * 9)) (F i)) ∧ Bd np F ∧ Kb 0 w w1 ∧ w1.cell? ⟨w.heap.size,0,none⟩ = some (.slice pa np ca) ∧ Gn w ∧ Pw w):=(⟨ha2,hb,k1,b1,hgn,hpw⟩ : _ ∧ _)
  have HW1 : Hid (w1 = w.alloc (.cells #[.slice pa np ca] 29)):=hw1
  clear ha2 hb k1 b1 hw1 hgd hgn hpw ha0
  go_enter Tryd.func7,Tryd.ntmps7
  go_wp2_with fail
  rw [← (show w1 = _ from HW1)]
  clear HW1
  refine (show Calls Tryd.prog 15 #[.agg #[.slice pa np ca]] w1 (fun e w'=>∃ c f n : Nat,e = .returned (.agg #[.int .i64 (c : Int),.int .i64 (f : Int),.int .i64 (n : Int)]) ∧ Ans 7 np F c f n ∧ Kb 0 w1 w') from HSH).mono ?_
  rintro e w2 ⟨c,f,n,rfl,hans,k2⟩
  clear HSH
  obtain ⟨ha2,hb,k1,b1,hgn,hpw⟩:=(show _ ∧ _ ∧ _ ∧ _ ∧ _ ∧ _ from HR)
  clear HR
  have k3 : Kb 0 w w2:=k1.trans k2
  have b3 : w2.cell? ⟨w.heap.size,0,none⟩ = some (.slice pa np ca):=k2.cell b1
  by_cases c0 : c = 0
  case neg =>
    have HL : Hid (Lst np F ⟨#[]⟩):=(⟨c,f,n,hans,by rw [if_neg c0]⟩ : ∃ c f n,_ ∧ _)
    have HB3 : Hid (Kb 0 w w2):=k3
    have hc : ((c : Int) == 0) = false:=beq_eq_false_iff_ne.2 (by omega)
    clear k1 k2 b1 ha2 hb hans c0 k3 b3 hgn hpw
    go_wp2_with fail
    go_ret
    exact ⟨_,rfl,HL,HB3⟩
  subst c0
  obtain ⟨rfl,rfl⟩ : f = 0 ∧ n = 0:=by
    rcases hans with ⟨h1,_⟩ | ⟨_,h1,_⟩ | ⟨_,_,h2,h3,_⟩
    · omega
    · omega
    · exact ⟨h2,h3⟩
  have HL : Hid (Lst np F ⟨(lsP F np).toArray⟩):=(⟨0,0,0,hans,by rw [if_pos rfl]⟩ : ∃ c f n,_ ∧ _)
  have HXX : Hid ((0 < np → ∃ A : Addr,pa = some A ∧ np ≤ ca ∧ 0 ≤ A.block ∧ ∀ i,i < np → ProC 0 w (A.add (i * 9)) (F i)) ∧ Sok np F ∧ Bd np F ∧ Kb 0 w w2 ∧ Gn w2 ∧ Pw w2):=(⟨ha2,sok_of hans,hb,k3,hgn.keep k3,pw_keep hpw k3⟩ : _ ∧ _)
  clear k1 k2 b1 ha2 hb hans k3 hgn hpw
  go_upto_region 4 with fail
  obtain ⟨w3,hw3⟩ : ∃ w3,w3 = w2.alloc (.cells #[.pointer none,.slice none 0 0] 53):=⟨_,rfl⟩
  have b4 : w3.cell? ⟨w.heap.size,0,none⟩ = some (.slice pa np ca):=by rw [hw3];exact (kb_alloc 0 _ _).cell b3
  have HBK : Hid (BK w2 [] w3):=by rw [hw3];exact bk_new w2
  obtain ⟨bb,hbb⟩ : ∃ bb,bb = w2.heap.size:=⟨_,rfl⟩
  rw [← hw3,← hbb]
  have HBB : Hid (bb = w2.heap.size):=hbb
  clear hw3 b3 hbb
  go_wp2_with fail
  clear b4
  go_loopw [17] (fun s17 wr=>∃ (p : Nat),p ≤ np ∧ s17 = .int .i64 (p : Int) ∧ Hid (BK w2 (lsP F p) wr)) (fun s17 _=>np - (intOf s17).toNat)
  case atStart=>exact ⟨0,by omega,rfl,HBK⟩
  case round =>
    clear HBK
    obtain ⟨p,hp,rfl,HQ⟩:=hrel
    obtain ⟨ha2,hok,hb,k3,hgn,hpw⟩:=(show _ ∧ _ ∧ _ ∧ _ ∧ _ ∧ _ from HXX)
    have kr:=(show BK w2 (lsP F p) wr from HQ).2
    by_cases hpn : p < np
    · have hI : (p : Int) < (np : Int):=by omega
      obtain ⟨a,rfl,hca,-,hrw⟩:=ha2 (by omega)
      obtain ⟨vu,vc,vn,vd,hcel,hvu,hvc,hvn,hvd⟩:=(hrw p hpn).keep (Nat.zero_le _) k3
      obtain ⟨d0,d1,d2,d3,d4,d5,d6,d7,d8⟩:=hcel.keep (Nat.zero_le _) kr
      obtain ⟨pu,cu,rfl,-⟩:=hvu
      obtain ⟨pc,cc,rfl,-⟩:=hvc
      have hvn2:=hvn
      obtain ⟨pn,cn,rfl,-⟩:=hvn
      obtain ⟨pm,cm,rfl,-⟩:=hvd
      have hlnI : ((F p).n : Int) ≤ 1048576:=by have:=hb.hn p hpn;omega
      obtain ⟨w6,hw6⟩ : ∃ w6,w6 = wr.alloc (.cells #[.string (F p).x,.int .i64 (F p).l,.int .i64 (F p).m,.bool (F p).r,.int .i64 (F p).g,.slice pu (F p).u cu,.slice pc (F p).c cc,.slice pn (F p).n cn,.slice pm (F p).d cm] 43):=⟨_,rfl⟩
      have k6 : Kb 0 wr w6:=by rw [hw6];exact kb_alloc _ _ _
      have HY : Hid (BK w2 (lsP F p ++ lsI p (F p).N 0) w6):=by
        rw [show lsI p (F p).N 0 = [] from rfl,List.append_nil]
        exact (show BK w2 (lsP F p) wr from HQ).call k6
      have HRI : Hid (RowI 0 w2 (.slice pn (F p).n cn) (F p).n (F p).N):=hvn2
      have HW6 : Hid (w6 = wr.alloc (.cells #[.string (F p).x,.int .i64 (F p).l,.int .i64 (F p).m,.bool (F p).r,.int .i64 (F p).g,.slice pu (F p).u cu,.slice pc (F p).c cc,.slice pn (F p).n cn,.slice pm (F p).d cm] 43)):=hw6
      clear hw6 k6 hvn2 kr k3 ha2 hok hb hrw HQ hcel hgn hpw
      go_wp2_with fail
      rw [← (show w6 = _ from HW6)]
      clear HW6 d0 d1 d2 d3 d4 d5 d6 d7 d8
      go_loopw [25] (fun s25 wr=>∃ (j : Nat),j ≤ (F p).n ∧ s25 = .int .i64 (j : Int) ∧ Hid (BK w2 (lsP F p ++ lsI p (F p).N j) wr)) (fun s25 _=>(F p).n - (intOf s25).toNat)
      case atStart=>exact ⟨0,by omega,rfl,HY⟩
      case round =>
        clear HY
        obtain ⟨j,hj,rfl,HY⟩:=hrel
        have hq:=(show BK w2 (lsP F p ++ lsI p (F p).N j) wr from HY)
        have hri : RowI 0 wr (.slice pn (F p).n cn) (F p).n (F p).N:=(show RowI 0 w2 (.slice pn (F p).n cn) (F p).n (F p).N from HRI).keep hq.2
        obtain ⟨ha2,hok,hb,k3,hgn,hpw⟩:=(show _ ∧ _ ∧ _ ∧ _ ∧ _ ∧ _ from HXX)
        by_cases hjn : j < (F p).n
        · have hJ : (j : Int) < ((F p).n : Int):=by omega
          have hish:=hok.ish hpn hjn
          obtain ⟨pn',cn',e1,hr2⟩:=id hri
          obtain ⟨rfl,-,rfl⟩ : pn = pn' ∧ (F p).n = (F p).n ∧ cn = cn':=by simpa using e1
          obtain ⟨b,rfl,hcb,-,hrb⟩:=hr2 (by omega)
          obtain ⟨q0,q1,q2,q3,q4⟩:=hrb j hjn
          obtain ⟨oo,hoo⟩ : ∃ oo : Nat,((F p).N j).o = (oo : Int):=⟨((F p).N j).o.toNat,by have:=hish.o1;omega⟩
          rw [hoo] at q0
          obtain ⟨w7,hw7⟩ : ∃ w7,w7 = wr.alloc (.cells #[.int .i64 (oo : Int),.int .i64 ((F p).N j).a,.int .i64 ((F p).N j).b,.int .i64 ((F p).N j).c,.int .i64 ((F p).N j).d] 45):=⟨_,rfl⟩
          have k7 : Kb 0 wr w7:=by rw [hw7];exact kb_alloc _ _ _
          have b7 : w7.heap[wr.heap.size]? = some (.cells #[.int .i64 (oo : Int),.int .i64 ((F p).N j).a,.int .i64 ((F p).N j).b,.int .i64 ((F p).N j).c,.int .i64 ((F p).N j).d] 45 (0,0)):=by rw [hw7];exact alloc_new _ _ _
          obtain ⟨g7,hg7⟩ : ∃ g7,g7 = wr.heap.size:=⟨_,rfl⟩
          rw [← hg7] at b7
          have HG7 : Hid (g7 = wr.heap.size):=hg7
          have HW7 : Hid (w7 = wr.alloc (.cells #[.int .i64 (oo : Int),.int .i64 ((F p).N j).a,.int .i64 ((F p).N j).b,.int .i64 ((F p).N j).c,.int .i64 ((F p).N j).d] 45)):=hw7
          have ho43 : oo < 43:=by have:=hish.o2;omega
          have hg7b : g7 ≠ w2.heap.size:=by
            have h1:=hq.2.size
            have h2 : w2.heap.size < wr.heap.size:=by
              rcases hq.1 with ⟨_,v,e,_⟩ | ⟨_,v,e,_⟩ <;> exact (Array.getElem?_eq_some_iff.1 e).1
            omega
          have hq7:=hq.call k7
          have hoI : (oo : Int) < 43:=by omega
          have hoN : ¬ (oo : Int) < 0:=by omega
          have c0 : w7.cell? ⟨g7,0,none⟩ = some (.int .i64 (oo : Int)):=cell_of b7 rfl
          have c1 : w7.cell? ⟨0,oo,none⟩ = some (.string (opn oo)):=(hq7.2).cell (hgn oo ho43)
          have HKS : Hid (∀ W,Kb 0 w7 W → W.cell? ⟨g7,0,none⟩ = some (.int .i64 (oo : Int)) ∧ W.cell? ⟨0,oo,none⟩ = some (.string (opn oo))):=(fun W k=>⟨k.cell c0,k.cell c1⟩ : ∀ W,_)
          have HI1 : Hid (∀ W,Kb 0 w7 W → Calls Tryd.prog 17 #[.int .i64 (p : Int)] W fun e w'=>e = .returned (.string (itx (p : Int))) ∧ Kb 0 W w'):=(fun W k=>im_itoa _ (by omega) (by omega) W (pw_keep hpw (hq7.2.trans k)) : ∀ W,_)
          have HI2 : Hid (∀ W,Kb 0 w7 W → Calls Tryd.prog 17 #[.int .i64 (j : Int)] W fun e w'=>e = .returned (.string (itx (j : Int))) ∧ Kb 0 W w'):=(fun W k=>im_itoa _ (by omega) (by omega) W (pw_keep hpw (hq7.2.trans k)) : ∀ W,_)
          have hle : (lsP F p ++ lsI p (F p).N j).length ≤ 400000000:=by
            obtain ⟨-,-,z6⟩:=hok.sz
            have y1:=lsP_len hb.hnp hb.hn (fun p hp j hj=>hok.ish hp hj) p (by omega)
            have y2:=lsI_len (p:=p) (N:=(F p).N) (by omega) j (by omega) (fun i hi=>hok.ish hpn (by omega))
            have y3:=sm_mono (fun i=>(F i).n) hp
            rw [List.length_append]
            omega
          have HL0 : Hid (lnj p j ((F p).N j) 0 = (((itx (p : Int) ++ ⟨#[58]⟩) ++ itx (j : Int)) ++ ⟨#[32]⟩) ++ opn oo):=by
            show ln0 p j ((F p).N j).o.toNat = _
            rw [hoo];rfl
          have z2:=lnj_len (p:=p) (i:=j) (by omega) (by omega) hish 0 (by omega)
          rw [show lnj p j ((F p).N j) 0 = _ from HL0] at z2
          have HWS : Hid (∀ W,Kb 0 w7 W → Calls Tryd.prog 16 #[.pointer (some ⟨bb,0,none⟩),.string ((((itx (p : Int) ++ ⟨#[58]⟩) ++ itx (j : Int)) ++ ⟨#[32]⟩) ++ opn oo)] W fun e w'=>e = .returned (.tuple #[.int .i64 (((((itx (p : Int) ++ ⟨#[58]⟩) ++ itx (j : Int)) ++ ⟨#[32]⟩) ++ opn oo).size : Int),.nilIface]) ∧ BK w2 ((lsP F p ++ lsI p (F p).N j) ++ (lnj p j ((F p).N j) 0).data.toList) w' ∧ w'.heap[g7]? = some (.cells #[.int .i64 (oo : Int),.int .i64 ((F p).N j).a,.int .i64 ((F p).N j).b,.int .i64 ((F p).N j).c,.int .i64 ((F p).N j).d] 45 (0,0)) ∧ w'.cell? ⟨0,oo,none⟩ = some (.string (opn oo))):=(fun W k=>by
            rw [show bb = _ from HBB]
            refine ((hq7.call k).write _ (by omega)).mono ?_
            rintro e w' ⟨rfl,h1,h2⟩
            rw [show lnj p j ((F p).N j) 0 = _ from HL0]
            exact ⟨rfl,h1,h2 g7 _ ((k.block g7 (Nat.zero_le _) (Array.getElem?_eq_some_iff.1 b7).1).trans b7) (by simpa using hg7b) (fun c fz=>by simp),h1.2.cell (hgn oo ho43)⟩ : ∀ W,_)
          have HQ7 : Hid (Ish ((F p).N j) ∧ ((F p).N j).o = (oo : Int) ∧ (lsP F p ++ lsI p (F p).N j).length ≤ 400000000 ∧ Pw w2):=(⟨hish,hoo,hle,hpw⟩ : _ ∧ _)
          have z1:=itx_len (p : Int) (by omega) (by omega)
          have z3:=itx_len (j : Int) (by omega) (by omega)
          have z4:=opn_len oo ho43
          clear hq hq7 hri hr2 hrb b7 hg7 hw7 k7 hish ha2 hok hb k3 hoo ho43 HY hgn hpw hle HL0 hg7b z2
          generalize itx (p : Int) = IP at *
          generalize itx (j : Int) = IJ at *
          generalize opn oo = ON at *
          have u1 : ¬ 9223372036854775807 < IP.size + 1:=by omega
          have u2 : ¬ 9223372036854775807 < IP.size + 1 + IJ.size:=by omega
          have u3 : ¬ 9223372036854775807 < IP.size + 1 + IJ.size + 1:=by omega
          have u4 : ¬ 9223372036854775807 < IP.size + 1 + IJ.size + 1 + ON.size:=by omega
          clear z1 z3 z4
          go_upto_region 10 with fail
          rw [← (show w7 = _ from HW7)]
          try rw [← (show g7 = _ from HG7)]
          clear HW7 HG7 q0 q1 q2 q3 q4
          go_region_held_law (fun W'=>W'.cell? ⟨g7,0,none⟩ = some (.int .i64 (oo : Int)) ∧ W'.cell? ⟨0,oo,none⟩ = some (.string ON)) (first | exact s12 | exact s11 | exact s10 | exact ⟨c0,c1⟩)
            (first
              | (go_at_call 17;refine ((show ∀ W,Kb 0 w7 W → _ from HI1) _ (by exact Kb.drewN (Kb.refl _ _) 1)).mono ?_;rintro e w10 ⟨rfl,k10⟩;have K10 : Kb 0 w7 w10:=⟨k10.os,k10.output,k10.size,k10.block⟩;have s10:=(show ∀ W,Kb 0 w7 W → _ from HKS) w10 K10)
              | (go_at_call 17;refine ((show ∀ W,Kb 0 w7 W → _ from HI2) _ K10).mono ?_;rintro e w11 ⟨rfl,k11⟩;have K11 : Kb 0 w7 w11:=K10.trans k11;have s11:=(show ∀ W,Kb 0 w7 W → _ from HKS) w11 K11)
              | (go_at_call 16;refine ((show ∀ W,Kb 0 w7 W → _ from HWS) _ K11).mono ?_;rintro e w12 ⟨rfl,h12,n12,m12⟩;have s12 : w12.cell? ⟨g7,0,none⟩ = some (.int .i64 (oo : Int)) ∧ w12.cell? ⟨0,oo,none⟩ = some (.string ON):=⟨cell_of n12 rfl,m12⟩))
          obtain ⟨hish,hoo,hle,hpw⟩:=(show _ ∧ _ ∧ _ ∧ _ from HQ7)
          clear HI1 HI2 HWS HKS s10 s11 s12 m12 k10 k11 K10 K11 HQ7 u1 u2 u3 u4 c0 c1 hoI hoN
          have m0 : w12.cell? ⟨g7,0,none⟩ = some (.int .i64 (oo : Int)):=cell_of n12 rfl
          have m1 : w12.cell? ⟨g7,1,none⟩ = some (.int .i64 ((F p).N j).a):=cell_of n12 rfl
          have m2 : w12.cell? ⟨g7,2,none⟩ = some (.int .i64 ((F p).N j).b):=cell_of n12 rfl
          have m3 : w12.cell? ⟨g7,3,none⟩ = some (.int .i64 ((F p).N j).c):=cell_of n12 rfl
          have m4 : w12.cell? ⟨g7,4,none⟩ = some (.int .i64 ((F p).N j).d):=cell_of n12 rfl
          have HF : Hid (Calls Tryd.prog 18 #[.agg #[.int .i64 (oo : Int),.int .i64 ((F p).N j).a,.int .i64 ((F p).N j).b,.int .i64 ((F p).N j).c,.int .i64 ((F p).N j).d]] w12 fun e w'=>e = .returned (.agg #[.int .i64 ((F p).N j).a,.int .i64 ((F p).N j).b,.int .i64 ((F p).N j).c,.int .i64 ((F p).N j).d]) ∧ Kb 0 w12 w'):=by
            have:=im_fieldsof ((F p).N j) w12
            unfold insv at this
            rw [hoo] at this
            exact this
          have HB12 : Hid (BK w2 ((lsP F p ++ lsI p (F p).N j) ++ (lnj p j ((F p).N j) 0).data.toList) w12):=h12
          have HQ8 : Hid (Ish ((F p).N j) ∧ (lsP F p ++ lsI p (F p).N j).length ≤ 400000000 ∧ Pw w2):=(⟨hish,hle,hpw⟩ : _ ∧ _)
          clear n12 h12 hish hle hpw hoo
          go_wp2_with fail
          refine (show Calls Tryd.prog 18 #[.agg #[.int .i64 (oo : Int),.int .i64 ((F p).N j).a,.int .i64 ((F p).N j).b,.int .i64 ((F p).N j).c,.int .i64 ((F p).N j).d]] w12 (fun e w'=>e = .returned (.agg #[.int .i64 ((F p).N j).a,.int .i64 ((F p).N j).b,.int .i64 ((F p).N j).c,.int .i64 ((F p).N j).d]) ∧ Kb 0 w12 w') from HF).mono ?_
          rintro e w13 ⟨rfl,k13⟩
          have HB13 : Hid (BK w2 ((lsP F p ++ lsI p (F p).N j) ++ (lnj p j ((F p).N j) 0).data.toList) w13):=(show BK w2 _ w12 from HB12).call k13
          clear HF m0 m1 m2 m3 m4 HB12 k13
          have hpI : p ≤ 1048576:=by omega
          have hjI : j ≤ 1048576:=by omega
          go_wp2_with fail
          go_loopw [45] (fun s45 wr=>∃ f : Nat,f ≤ 4 ∧ s45 = .int .i64 (f : Int) ∧ Hid (BK w2 ((lsP F p ++ lsI p (F p).N j) ++ (lnj p j ((F p).N j) f).data.toList) wr)) (fun s45 _=>4 - (intOf s45).toNat)
          case atStart=>exact ⟨0,by omega,rfl,HB13⟩
          case round =>
            clear HB13
            obtain ⟨f,hf,rfl,HK⟩:=hrel
            have hbk:=(show BK w2 ((lsP F p ++ lsI p (F p).N j) ++ (lnj p j ((F p).N j) f).data.toList) wr from HK)
            obtain ⟨hish,hle,hpw⟩:=(show _ ∧ _ ∧ _ from HQ8)
            have z2:=lnj_len hpI hjI hish f hf
            by_cases hf4 : f < 4
            · have hfI : (f : Int) < 4:=by omega
              have hfn : ¬ (f : Int) < 0:=by omega
              have hfl:=hish.f f hf4
              have hix:=ixf ((F p).N j).a ((F p).N j).b ((F p).N j).c ((F p).N j).d f hf4 (fld ((F p).N j) f) (by
                rcases (by omega : f = 0 ∨ f = 1 ∨ f = 2 ∨ f = 3) with rfl | rfl | rfl | rfl <;> rfl)
              have HC:=im_itoa (fld ((F p).N j) f) hfl.1 hfl.2 wr (pw_keep hpw hbk.2)
              have z1:=itx_len (fld ((F p).N j) f) hfl.1 hfl.2
              have e2 : (⟨#[32]⟩ : ByteArray).size = 1:=rfl
              have HWS : Hid (∀ W,Kb 0 wr W → Calls Tryd.prog 16 #[.pointer (some ⟨bb,0,none⟩),.string (⟨#[32]⟩ ++ itx (fld ((F p).N j) f))] W fun e w'=>e = .returned (.tuple #[.int .i64 ((⟨#[32]⟩ ++ itx (fld ((F p).N j) f)).size : Int),.nilIface]) ∧ BK w2 ((lsP F p ++ lsI p (F p).N j) ++ (lnj p j ((F p).N j) (f + 1)).data.toList) w'):=(fun W k=>by
                rw [show bb = _ from HBB]
                refine ((hbk.call k).write _ (by rw [List.length_append,sz_len,ba_len,e2];omega)).mono ?_
                rintro e w' ⟨rfl,h1,h2⟩
                refine ⟨rfl,?_⟩
                rw [show lnj p j ((F p).N j) (f + 1) = lnj p j ((F p).N j) f ++ (⟨#[32]⟩ ++ itx (fld ((F p).N j) f)) from rfl]
                rw [List.append_assoc] at h1
                simpa using h1 : ∀ W,_)
              clear hbk hish hle hpw z2 HK hfl HQ8 e2
              generalize itx (fld ((F p).N j) f) = X1 at *
              generalize fld ((F p).N j) f = xf at *
              have u1 : ¬ 9223372036854775807 < 1 + X1.size:=by omega
              clear z1
              go_wp2_with fail
              refine HC.mono ?_
              rintro e w14 ⟨rfl,k14⟩
              have HWS2:=(show ∀ W,Kb 0 wr W → _ from HWS) w14 k14
              clear HC k14 HWS hix
              go_wp2_with fail
              refine HWS2.mono ?_
              rintro e w15 ⟨rfl,h15⟩
              have HN : Hid (BK w2 ((lsP F p ++ lsI p (F p).N j) ++ (lnj p j ((F p).N j) (f + 1)).data.toList) w15):=h15
              clear HWS2 h15
              go_wp2_with fail
              go_roundw
              case rel=>exact ⟨f + 1,by omega,by go_num,HN⟩
              case measure=>simp [intOf];omega
            · obtain rfl : f = 4:=by omega
              have hfI : ¬ (4 : Int) < 4:=by omega
              have HWS : Hid (Calls Tryd.prog 16 #[.pointer (some ⟨bb,0,none⟩),.string ⟨#[10]⟩] wr fun e w'=>e = .returned (.tuple #[.int .i64 1,.nilIface]) ∧ BK w2 (lsP F p ++ lsI p (F p).N (j + 1)) w'):=by
                rw [show bb = _ from HBB]
                refine (hbk.write ⟨#[10]⟩ (by rw [List.length_append,sz_len];show _ + 1 ≤ _;omega)).mono ?_
                rintro e w' ⟨rfl,h1,h2⟩
                refine ⟨rfl,?_⟩
                rw [show lsI p (F p).N (j + 1) = lsI p (F p).N j ++ lnI p j ((F p).N j) from rfl,show lnI p j ((F p).N j) = (lnj p j ((F p).N j) 4).data.toList ++ [10] from rfl,← List.append_assoc,← List.append_assoc]
                exact h1
              clear hbk hish hle hpw z2 HK HQ8
              go_wp2_with fail
              refine (show Calls Tryd.prog 16 #[.pointer (some ⟨bb,0,none⟩),.string ⟨#[10]⟩] wr (fun e w'=>e = .returned (.tuple #[.int .i64 1,.nilIface]) ∧ BK w2 (lsP F p ++ lsI p (F p).N (j + 1)) w') from HWS).mono ?_
              rintro e w15 ⟨rfl,h15⟩
              have HN : Hid (BK w2 (lsP F p ++ lsI p (F p).N (j + 1)) w15):=h15
              clear HWS h15
              go_wp2_with fail
              go_roundw
              case rel=>exact ⟨j + 1,by omega,by go_num,HN⟩
              case measure=>simp [intOf];omega
        · obtain rfl : j = (F p).n:=by omega
          have hJ : ¬ ((F p).n : Int) < ((F p).n : Int):=by omega
          have HN : Hid (BK w2 (lsP F (p + 1)) wr):=hq
          clear hq hri ha2 hok hb k3 HY HXX HL hgn hpw
          go_wp2_with fail
          go_roundw
          case rel=>exact ⟨p + 1,by omega,by go_num,HN⟩
          case measure=>simp [intOf];omega
    · obtain rfl : p = np:=by omega
      have hI : ¬ (p : Int) < (p : Int):=by omega
      have HT:=(show BK w2 (lsP F p) wr from HQ).text
      rw [← (show bb = _ from HBB)] at HT
      have HB : Hid (Kb 0 w w2):=k3
      clear ha2 hok hb k3 kr HQ HXX hgn hpw
      go_wp2_with fail
      refine HT.mono ?_
      rintro e w14 ⟨rfl,k14⟩
      have HB2 : Hid (Kb 0 w w14):=(show Kb 0 w w2 from HB).trans k14
      clear HT k14 HB
      go_wp2_with fail
      go_ret
      exact ⟨_,rfl,HL,HB2⟩
end Go.Proofs.YtdijdflfiflgfaaDoor.Fo
