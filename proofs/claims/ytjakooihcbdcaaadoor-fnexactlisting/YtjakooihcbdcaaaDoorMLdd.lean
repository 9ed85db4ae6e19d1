import Derived.Test.YtjakooihcbdcaaaDoorMLfl
import Derived.Deep.RegionHeldLaw
import Derived.Laws.StructEq
set_option maxHeartbeats 16000000
namespace Go.Proofs.YtjakooihcbdcaaaDoor.Fo
open Go.ChangeShapes Go.WideShapes Go.ChangeAt Go.RowKit
set_option linter.unusedVariables false
set_option maxRecDepth 100000
theorem im_listing {va : Value} {np : Nat} {F : Nat → Pd} (w : World) (hgd : Gd w) (hgn : Gn w) (hpw : Pw w) (ha : RowP 0 w va np F) (hb : Bd np F) :
    Calls Tryd.prog 7 #[.agg #[va]] w fun e w'=>∃ T,e = .returned (.string T) ∧ Lst np F T ∧ Kb 0 w w':=by
  have ha0:=ha
  obtain ⟨pa,ca,rfl,ha2⟩:=ha
  have hnI : (np : Int) ≤ 1048576:=by have:=hb.hnp;omega
  obtain ⟨w1,hw1⟩ : ∃ w1,w1 = w.alloc (.cells #[.slice pa np ca] 29):=⟨_,rfl⟩
  have k1 : Kb 0 w w1:=by rw [hw1];exact kb_alloc _ _ _
  have b1 : w1.cell? ⟨w.heap.size,0,none⟩ = some (.slice pa np ca):=by rw [hw1];exact cell_of (alloc_new _ _ _) rfl
  have HSH : Hid (Calls Tryd.prog 15 #[.agg #[.slice pa np ca]] w1 fun e w'=>∃ c f n : Nat,e = .returned (.agg #[.int .i64 (c : Int),.int .i64 (f : Int),.int .i64 (n : Int)]) ∧ Ans 7 np F c f n ∧ Kb 0 w1 w'):=im_shape w1 (hgd.keep k1) (ha0.keep k1) hb
  have HR : Hid ((0 < np → ∃ A : Addr,pa = some A ∧ np ≤ ca ∧ 0 ≤ A.block ∧ ∀ i,i < np → ProC 0 w (A.add (i * 9)) (F i)) ∧ Bd np F ∧ Kb 0 w w1 ∧ w1.cell? ⟨w.heap.size,0,none⟩ = some (.slice pa np ca) ∧ Gn w ∧ Pw w):=(⟨ha2,hb,k1,b1,hgn,hpw⟩ : _ ∧ _)
  have HW1 : Hid (w1 = w.alloc (.cells #[.slice pa np ca] 29)):=hw1
  clear ha2 hb k1 b1 hw1 hgd hgn hpw ha0
  go_enter Tryd.func7,Tryd.ntmps7
  go_wp2_with fail
  rw [← (show w1 = _ from HW1)]
  clear HW1
  refine (show Calls Tryd.prog 15 #[.agg #[.slice pa np ca]] w1 (fun e w'=>∃ c f n : Nat,e = .returned (.agg #[.int .i64 (c : Int),.int .i64 (f : Int),.int .i64 (n : Int)]) ∧ Ans 7 np F c f n ∧ Kb 0 w1 w') from HSH).mono ?_
  rintro e w2 ⟨c,f,n,rfl,hans,k2⟩
  clear HSH
  obtain ⟨ha2,hb,k1,b1,hgn,hpw⟩:=(show _ ∧ _ ∧ _ ∧ _ ∧ _ ∧ _ from HR)
  clear HR
  have k3 : Kb 0 w w2:=k1.trans k2
  have b3 : w2.cell? ⟨w.heap.size,0,none⟩ = some (.slice pa np ca):=k2.cell b1
  by_cases c0 : c = 0
  case neg =>
    have HL : Hid (Lst np F ⟨#[]⟩):=(⟨c,f,n,hans,by rw [if_neg c0]⟩ : ∃ c f n,_ ∧ _)
    have HB3 : Hid (Kb 0 w w2):=k3
    have hc : ((c : Int) == 0) = false:=beq_eq_false_iff_ne.2 (by omega)
    clear k1 k2 b1 ha2 hb hans c0 k3 b3 hgn hpw
    go_wp2_with fail
    go_ret
    exact ⟨_,rfl,HL,HB3⟩
  subst c0
  obtain ⟨rfl,rfl⟩ : f = 0 ∧ n = 0:=by
    rcases hans with ⟨h1,_⟩ | ⟨_,h1,_⟩ | ⟨_,_,h2,h3,_⟩
    · omega
    · omega
    · exact ⟨h2,h3⟩
  have HL : Hid (Lst np F ⟨(lsP F np).toArray⟩):=(⟨0,0,0,hans,by rw [if_pos rfl]⟩ : ∃ c f n,_ ∧ _)
  have HXX : Hid ((0 < np → ∃ A : Addr,pa = some A ∧ np ≤ ca ∧ 0 ≤ A.block ∧ ∀ i,i < np → ProC 0 w (A.add (i * 9)) (F i)) ∧ Sok np F ∧ Bd np F ∧ Kb 0 w w2 ∧ Gn w2 ∧ Pw w2):=(⟨ha2,sok_of hans,hb,k3,hgn.keep k3,pw_keep hpw k3⟩ : _ ∧ _)
  clear k1 k2 b1 ha2 hb hans k3 hgn hpw
  go_upto_region 4 with fail
  obtain ⟨w3,hw3⟩ : ∃ w3,w3 = w2.alloc (.cells #[.pointer none,.slice none 0 0] 53):=⟨_,rfl⟩
  have b4 : w3.cell? ⟨w.heap.size,0,none⟩ = some (.slice pa np ca):=by rw [hw3];exact (kb_alloc 0 _ _).cell b3
  have HBK : Hid (BK w2 [] w3):=by rw [hw3];exact bk_new w2
  obtain ⟨bb,hbb⟩ : ∃ bb,bb = w2.heap.size:=⟨_,rfl⟩
  rw [← hw3,← hbb]
  have HBB : Hid (bb = w2.heap.size):=hbb
  clear hw3 b3 hbb
  go_wp2_with fail
  clear b4
  go_loopw [15] (fun s17 wr=>∃ (p : Nat),p ≤ np ∧ s17 = .int .i64 (p : Int) ∧ Hid (BK w2 (lsP F p) wr)) (fun s17 _=>np - (intOf s17).toNat)
  case atStart=>exact ⟨0,by omega,rfl,HBK⟩
  case round =>
    clear HBK
    obtain ⟨p,hp,rfl,HQ⟩:=hrel
    obtain ⟨ha2,hok,hb,k3,hgn,hpw⟩:=(show _ ∧ _ ∧ _ ∧ _ ∧ _ ∧ _ from HXX)
    have kr:=(show BK w2 (lsP F p) wr from HQ).2
    by_cases hpn : p < np
    · have hI : (p : Int) < (np : Int):=by omega
      obtain ⟨a,rfl,hca,-,hrw⟩:=ha2 (by omega)
      obtain ⟨vu,vc,vn,vd,hcel,hvu,hvc,hvn,hvd⟩:=(hrw p hpn).keep (Nat.zero_le _) k3
      obtain ⟨d0,d1,d2,d3,d4,d5,d6,d7,d8⟩:=hcel.keep (Nat.zero_le _) kr
      obtain ⟨pu,cu,rfl,-⟩:=hvu
      obtain ⟨pc,cc,rfl,-⟩:=hvc
      have hvn2:=hvn
      obtain ⟨pn,cn,rfl,-⟩:=hvn
      obtain ⟨pm,cm,rfl,-⟩:=hvd
      have hlnI : ((F p).n : Int) ≤ 1048576:=by have:=hb.hn p hpn;omega
      obtain ⟨w6,hw6⟩ : ∃ w6,w6 = wr.alloc (.cells #[.string (F p).x,.int .i64 (F p).l,.int .i64 (F p).m,.bool (F p).r,.int .i64 (F p).g,.slice pu (F p).u cu,.slice pc (F p).c cc,.slice pn (F p).n cn,.slice pm (F p).d cm] 43):=⟨_,rfl⟩
      have k6 : Kb 0 wr w6:=by rw [hw6];exact kb_alloc _ _ _
      have HY : Hid (BK w2 (lsP F p ++ lsI p (F p).N 0) w6):=by
        rw [show lsI p (F p).N 0 = [] from rfl,List.append_nil]
        exact (show BK w2 (lsP F p) wr from HQ).call k6
      have HRI : Hid (RowI 0 w2 (.slice pn (F p).n cn) (F p).n (F p).N):=hvn2
      have HW6 : Hid (w6 = wr.alloc (.cells #[.string (F p).x,.int .i64 (F p).l,.int .i64 (F p).m,.bool (F p).r,.int .i64 (F p).g,.slice pu (F p).u cu,.slice pc (F p).c cc,.slice pn (F p).n cn,.slice pm (F p).d cm] 43)):=hw6
      clear hw6 k6 hvn2 kr k3 ha2 hok hb hrw HQ hcel hgn hpw
      go_wp2_with fail
      rw [← (show w6 = _ from HW6)]
      clear HW6 d0 d1 d2 d3 d4 d5 d6 d7 d8
      go_loopw [23] (fun s25 wr=>∃ (j : Nat),j ≤ (F p).n ∧ s25 = .int .i64 (j : Int) ∧ Hid (BK w2 (lsP F p ++ lsI p (F p).N j) wr)) (fun s25 _=>(F p).n - (intOf s25).toNat)
      case atStart=>exact ⟨0,by omega,rfl,HY⟩
      case round =>
        clear HY
        obtain ⟨j,hj,rfl,HY⟩:=hrel
        have hq:=(show BK w2 (lsP F p ++ lsI p (F p).N j) wr from HY)
        have hri : RowI 0 wr (.slice pn (F p).n cn) (F p).n (F p).N:=(show RowI 0 w2 (.slice pn (F p).n cn) (F p).n (F p).N from HRI).keep hq.2
        obtain ⟨ha2,hok,hb,k3,hgn,hpw⟩:=(show _ ∧ _ ∧ _ ∧ _ ∧ _ ∧ _ from HXX)
        by_cases hjn : j < (F p).n
        · have hJ : (j : Int) < ((F p).n : Int):=by omega
          have hish:=hok.ish hpn hjn
          obtain ⟨pn',cn',e1,hr2⟩:=id hri
          obtain ⟨rfl,-,rfl⟩ : pn = pn' ∧ (F p).n = (F p).n ∧ cn = cn':=by simpa using e1
          obtain ⟨b,rfl,hcb,-,hrb⟩:=hr2 (by omega)
          obtain ⟨q0,q1,q2,q3,q4⟩:=hrb j hjn
          obtain ⟨oo,hoo⟩ : ∃ oo : Nat,((F p).N j).o = (oo : Int):=⟨((F p).N j).o.toNat,by have:=hish.o1;omega⟩
          rw [hoo] at q0
          obtain ⟨w7,hw7⟩ : ∃ w7,w7 = wr.alloc (.cells #[.int .i64 (oo : Int),.int .i64 ((F p).N j).a,.int .i64 ((F p).N j).b,.int .i64 ((F p).N j).c,.int .i64 ((F p).N j).d] 45):=⟨_,rfl⟩
          have k7 : Kb 0 wr w7:=by rw [hw7];exact kb_alloc _ _ _
          have b7 : w7.heap[wr.heap.size]? = some (.cells #[.int .i64 (oo : Int),.int .i64 ((F p).N j).a,.int .i64 ((F p).N j).b,.int .i64 ((F p).N j).c,.int .i64 ((F p).N j).d] 45 (0,0)):=by rw [hw7];exact alloc_new _ _ _
          obtain ⟨g7,hg7⟩ : ∃ g7,g7 = wr.heap.size:=⟨_,rfl⟩
          rw [← hg7] at b7
          have HG7 : Hid (g7 = wr.heap.size):=hg7
          have HW7 : Hid (w7 = wr.alloc (.cells #[.int .i64 (oo : Int),.int .i64 ((F p).N j).a,.int .i64 ((F p).N j).b,.int .i64 ((F p).N j).c,.int .i64 ((F p).N j).d] 45)):=hw7
          have ho43 : oo < 43:=by have:=hish.o2;omega
          have hg7b : g7 ≠ w2.heap.size:=by
            have h1:=hq.2.size
            have h2 : w2.heap.size < wr.heap.size:=by
              rcases hq.1 with ⟨_,v,e,_⟩ | ⟨_,v,e,_⟩ <;> exact (Array.getElem?_eq_some_iff.1 e).1
            omega
          have hq7:=hq.call k7
          have hoI : (oo : Int) < 43:=by omega
          have hoN : ¬ (oo : Int) < 0:=by omega
          have c0 : w7.cell? ⟨g7,0,none⟩ = some (.int .i64 (oo : Int)):=cell_of b7 rfl
          have c1 : w7.cell? ⟨0,oo,none⟩ = some (.string (opn oo)):=(hq7.2).cell (hgn oo ho43)
          have c1a : w7.cell? ⟨g7,1,none⟩ = some (.int .i64 ((F p).N j).a):=cell_of b7 rfl
          have c1b : w7.cell? ⟨g7,2,none⟩ = some (.int .i64 ((F p).N j).b):=cell_of b7 rfl
          have c1c : w7.cell? ⟨g7,3,none⟩ = some (.int .i64 ((F p).N j).c):=cell_of b7 rfl
          have c1d : w7.cell? ⟨g7,4,none⟩ = some (.int .i64 ((F p).N j).d):=cell_of b7 rfl
          have HKS : Hid (∀ W,Kb 0 w7 W → W.cell? ⟨g7,0,none⟩ = some (.int .i64 (oo : Int)) ∧ W.cell? ⟨0,oo,none⟩ = some (.string (opn oo)) ∧ W.cell? ⟨g7,1,none⟩ = some (.int .i64 ((F p).N j).a) ∧ W.cell? ⟨g7,2,none⟩ = some (.int .i64 ((F p).N j).b) ∧ W.cell? ⟨g7,3,none⟩ = some (.int .i64 ((F p).N j).c) ∧ W.cell? ⟨g7,4,none⟩ = some (.int .i64 ((F p).N j).d)):=(fun W k=>⟨k.cell c0,k.cell c1,k.cell c1a,k.cell c1b,k.cell c1c,k.cell c1d⟩ : ∀ W,_)
          have hle : (lsP F p ++ lsI p (F p).N j).length ≤ 400000000:=by
            obtain ⟨-,-,z6⟩:=hok.sz
            have y1:=lsP_len hb.hnp hb.hn (fun p hp j hj=>hok.ish hp hj) p (by omega)
            have y2:=lsI_len (p:=p) (N:=(F p).N) (by omega) j (by omega) (fun i hi=>hok.ish hpn (by omega))
            have y3:=sm_mono (fun i=>(F i).n) hp
            rw [List.length_append]
            omega
          have hln : lnf (lh (p : Int) (j : Int) (opn oo)) (fld ((F p).N j)) 4 = lnj p j ((F p).N j) 4:=by
            show _ ++ _ = _ ++ _
            have e0 : lh (p : Int) (j : Int) (opn oo) = ln0 p j ((F p).N j).o.toNat:=by rw [hoo];rfl
            rw [e0];rfl
          have z2:=lnj_len (p:=p) (i:=j) (by omega) (by omega) hish 4 (by omega)
          have HLI : Hid (∀ W,Kb 0 w7 W → Calls Tryd.prog 17 #[.int .i64 (p : Int),.int .i64 (j : Int),.string (opn oo),.slice (some ⟨W.heap.size,0,none⟩) 4 4] (W.alloc (.cells #[.int .i64 ((F p).N j).a,.int .i64 ((F p).N j).b,.int .i64 ((F p).N j).c,.int .i64 ((F p).N j).d] 3)) fun e w'=>e = .returned (.string (lnj p j ((F p).N j) 4 ++ ⟨#[10]⟩)) ∧ Kb 0 w7 w'):=(fun W k=>by
            have kA : Kb 0 w7 (W.alloc (.cells #[.int .i64 ((F p).N j).a,.int .i64 ((F p).N j).b,.int .i64 ((F p).N j).c,.int .i64 ((F p).N j).d] 3)):=k.trans (kb_alloc _ _ _)
            refine (im_listed (p : Int) (j : Int) (by omega) (by omega) (opn oo) (opn_len oo ho43) (fld ((F p).N j)) 4 (by omega) hish.f ⟨W.heap.size,0,none⟩ _ (pw_keep hpw (hq7.2.trans kA)) (fun t ht=>?_)).mono ?_
            · rcases (by omega : t = 0 ∨ t = 1 ∨ t = 2 ∨ t = 3) with rfl | rfl | rfl | rfl <;> exact cell_of (alloc_new _ _ _) rfl
            · rintro e w' ⟨rfl,k'⟩
              rw [hln]
              exact ⟨rfl,kA.trans k'⟩ : ∀ W,_)
          have HWS : Hid (∀ W,Kb 0 w7 W → Calls Tryd.prog 16 #[.pointer (some ⟨bb,0,none⟩),.string (lnj p j ((F p).N j) 4 ++ ⟨#[10]⟩)] W fun e w'=>e = .returned (.tuple #[.int .i64 ((lnj p j ((F p).N j) 4 ++ ⟨#[10]⟩).size : Int),.nilIface]) ∧ BK w2 (lsP F p ++ lsI p (F p).N (j + 1)) w' ∧ w'.cell? ⟨g7,0,none⟩ = some (.int .i64 (oo : Int)) ∧ w'.cell? ⟨0,oo,none⟩ = some (.string (opn oo)) ∧ w'.cell? ⟨g7,1,none⟩ = some (.int .i64 ((F p).N j).a) ∧ w'.cell? ⟨g7,2,none⟩ = some (.int .i64 ((F p).N j).b) ∧ w'.cell? ⟨g7,3,none⟩ = some (.int .i64 ((F p).N j).c) ∧ w'.cell? ⟨g7,4,none⟩ = some (.int .i64 ((F p).N j).d)):=(fun W k=>by
            rw [show bb = _ from HBB]
            have e1 : (lnj p j ((F p).N j) 4 ++ ⟨#[10]⟩).size = (lnj p j ((F p).N j) 4).size + 1:=ba_len _ _
            refine ((hq7.call k).write _ (by omega)).mono ?_
            rintro e w' ⟨rfl,h1,h2⟩
            have n12:=h2 g7 _ ((k.block g7 (Nat.zero_le _) (Array.getElem?_eq_some_iff.1 b7).1).trans b7) (by simpa using hg7b) (fun c fz=>by simp)
            refine ⟨rfl,?_,cell_of n12 rfl,h1.2.cell (hgn oo ho43),cell_of n12 rfl,cell_of n12 rfl,cell_of n12 rfl,cell_of n12 rfl⟩
            rw [show lsI p (F p).N (j + 1) = lsI p (F p).N j ++ lnI p j ((F p).N j) from rfl,show lnI p j ((F p).N j) = (lnj p j ((F p).N j) 4 ++ ⟨#[10]⟩).data.toList from by simp [lnI],← List.append_assoc]
            exact h1 : ∀ W,_)
          have kz : Kb 0 w7 w7.drew:=Kb.drewN (Kb.refl _ _) 1
          have HLZ:=(show ∀ W,Kb 0 w7 W → _ from HLI) _ kz
          have s9 : ∀ o,_:=fun o=>(show ∀ W,Kb 0 w7 W → _ from HKS) _ (kz.trans (kb_alloc 0 w7.drew o))
          clear hq hq7 hri hr2 hrb b7 hg7 hw7 k7 hish ha2 hok hb k3 hoo ho43 HY hgn hpw hle hg7b z2 hln HLI
          generalize lnj p j ((F p).N j) 4 ++ ⟨#[10]⟩ = LN at *
          generalize opn oo = ON at *
          go_upto_region 10 with fail
          rw [← (show w7 = _ from HW7)]
          try rw [← (show g7 = _ from HG7)]
          clear HW7 HG7 q0 q1 q2 q3 q4
          go_region_held_law (fun W'=>W'.cell? ⟨g7,0,none⟩ = some (.int .i64 (oo : Int)) ∧ W'.cell? ⟨0,oo,none⟩ = some (.string ON) ∧ W'.cell? ⟨g7,1,none⟩ = some (.int .i64 ((F p).N j).a) ∧ W'.cell? ⟨g7,2,none⟩ = some (.int .i64 ((F p).N j).b) ∧ W'.cell? ⟨g7,3,none⟩ = some (.int .i64 ((F p).N j).c) ∧ W'.cell? ⟨g7,4,none⟩ = some (.int .i64 ((F p).N j).d)) (first | exact s12 | exact s11 | exact s9 _ | exact ⟨c0,c1,c1a,c1b,c1c,c1d⟩)
            (first
              | (go_at_call 17;refine HLZ.mono ?_;rintro e w11 ⟨rfl,K11⟩;have s11:=(show ∀ W,Kb 0 w7 W → _ from HKS) w11 K11)
              | (go_at_call 16;refine ((show ∀ W,Kb 0 w7 W → _ from HWS) _ K11).mono ?_;rintro e w12 ⟨rfl,h12,s12⟩))
          have HN : Hid (BK w2 (lsP F p ++ lsI p (F p).N (j + 1)) w12):=h12
          clear HLZ HWS HKS s9 s11 s12 K11 kz c0 c1 c1a c1b c1c c1d hoI hoN h12
          go_wp2_with fail
          go_roundw
          case rel=>exact ⟨j + 1,by omega,by go_num,HN⟩
          case measure=>simp [intOf];omega
        · obtain rfl : j = (F p).n:=by omega
          have hJ : ¬ ((F p).n : Int) < ((F p).n : Int):=by omega
          have HN : Hid (BK w2 (lsP F (p + 1)) wr):=hq
          clear hq hri ha2 hok hb k3 HY HXX HL hgn hpw
          go_wp2_with fail
          go_roundw
          case rel=>exact ⟨p + 1,by omega,by go_num,HN⟩
          case measure=>simp [intOf];omega
    · obtain rfl : p = np:=by omega
      have hI : ¬ (p : Int) < (p : Int):=by omega
      have HT:=(show BK w2 (lsP F p) wr from HQ).text
      rw [← (show bb = _ from HBB)] at HT
      have HB : Hid (Kb 0 w w2):=k3
      clear ha2 hok hb k3 kr HQ HXX hgn hpw
      go_wp2_with fail
      refine HT.mono ?_
      rintro e w14 ⟨rfl,k14⟩
      have HB2 : Hid (Kb 0 w w14):=(show Kb 0 w w2 from HB).trans k14
      clear HT k14 HB
      go_wp2_with fail
      go_ret
      exact ⟨_,rfl,HL,HB2⟩
end Go.Proofs.YtjakooihcbdcaaaDoor.Fo
