import Derived.Test.YtnmeemjoodoalaaGreatDoorNEah
import Derived.Test.YtnmeemjoodoalaaGreatDoorNEag
import Derived.Test.YtnmeemjoodoalaaGreatDoorNCgd
set_option maxHeartbeats 16000000
namespace Go.Proofs.YtnmeemjoodoalaaGreatDoor.Fo
open Go.ChangeShapes Go.WideShapes Go.ChangeAt Go.RowKit
set_option linter.unusedVariables false
set_option maxRecDepth 100000
theorem sp_enc {va : Value} {np : Nat} {F : Nat → Pd} (HB : BitsC) (w : World) (ha : RowP 0 w va np F) (hb : Bd np F) (hps : Sok np F → ∀ p, p < np → Psh (F p)) :
    Calls Tryz.prog 6 #[.agg #[va]] w fun e w'=>∃ v R,e = .returned v ∧ Img np F R ∧ QK w R v w':=by
  obtain ⟨pa,ca,rfl,ha2⟩:=ha
  have hnI : (np : Int) ≤ 1048576:=by have:=hb.hnp;omega
  obtain ⟨w1,hw1⟩ : ∃ w1,w1 = w.alloc (.cells #[.slice pa np ca] 30):=⟨_,rfl⟩
  have k1 : Kb 0 w w1:=by rw [hw1];exact kb_alloc _ _ _
  have b1 : w1.heap[w.heap.size]? = some (.cells #[.slice pa np ca] 30 (0,0)):=by rw [hw1];exact alloc_new _ _ _
  have HSH : Hid (Calls Tryz.prog 19 #[.agg #[.slice pa np ca]] w1 fun e w'=>∃ c f n : Nat,e = .returned (.agg #[.int .i64 (c : Int),.int .i64 (f : Int),.int .i64 (n : Int)]) ∧ Ans 7 np F c f n ∧ Kb 0 w1 w'):=sp_shape w1 (fun h=>by
    obtain ⟨a,e1,e2,e0,e3⟩:=ha2 h
    exact ⟨a,e1,e2,e0,fun i hi=>(e3 i hi).keep (Nat.zero_le _) k1⟩) hb
  have HR : Hid ((0 < np → ∃ A : Addr,pa = some A ∧ np ≤ ca ∧ 0 ≤ A.block ∧ ∀ i,i < np → ProC 0 w (A.add (i * 9)) (F i)) ∧ Kb 0 w w1 ∧ w1.heap[w.heap.size]? = some (.cells #[.slice pa np ca] 30 (0,0)) ∧ (Sok np F → ∀ p,p < np → Psh (F p)) ∧ BitsC):=(⟨ha2,k1,b1,hps,HB⟩ : _ ∧ _)
  have HW1 : Hid (w1 = w.alloc (.cells #[.slice pa np ca] 30)):=hw1
  clear ha2 hb k1 b1 hw1 hps HB
  go_enter Tryz.func6,Tryz.ntmps6
  go_wp2_with fail
  rw [← (show w1 = _ from HW1)]
  clear HW1
  refine (show Calls Tryz.prog 19 #[.agg #[.slice pa np ca]] w1 (fun e w'=>∃ c f n : Nat,e = .returned (.agg #[.int .i64 (c : Int),.int .i64 (f : Int),.int .i64 (n : Int)]) ∧ Ans 7 np F c f n ∧ Kb 0 w1 w') from HSH).mono ?_
  rintro e w2 ⟨c,f,n,rfl,hans,k2⟩
  clear HSH
  obtain ⟨ha2,k1,b1,hps,HB⟩:=(show _ ∧ _ ∧ _ ∧ _ ∧ _ from HR)
  clear HR
  have b2 : w2.heap[w.heap.size]? = some (.cells #[.slice pa np ca] 30 (0,0)):=(k2.block _ (Nat.zero_le _) (Array.getElem?_eq_some_iff.1 b1).1).trans b1
  by_cases c0 : c = 0
  case neg =>
    have hc : ((c : Int) != 0) = true:=bne_iff_ne.2 (by omega)
    have HL : Hid (Img np F [] ∧ ∀ o,QK w [] (.slice none 0 0) (w2.alloc o)):=(⟨⟨c,f,n,hans,by rw [if_neg (fun h=>c0 h.1)]⟩,fun o=>(qk_nil w).call ((k1.trans k2).alloc o)⟩ : _ ∧ _)
    clear k1 k2 b1 ha2 hans c0 b2 hps HB
    go_wp2_with fail
    go_ret
    exact ⟨_,_,rfl,HL.1,(show _ ∧ ∀ o,_ from HL).2 _⟩
  subst c0
  have hok:=sok_of hans
  obtain ⟨w4,hw4⟩ : ∃ w4,w4 = (w2.alloc (.cells #[.int .i64 0,.int .i64 (f : Int),.int .i64 (n : Int)] 42)).alloc (.cells #[.int .u8 72,.int .u8 67,.int .u8 1] 5):=⟨_,rfl⟩
  obtain ⟨-,b4,s4,k4⟩:=two_newE w2 _ _ _ _ w4 hw4
  have k04 : Kb 0 w w4:=(k1.trans k2).trans k4
  have q4 : QK w [72,67,1] (.slice (some ⟨w2.heap.size + 1,0,none⟩) 3 3) w4:=⟨⟨rfl,.inr ⟨_,3,_,rfl,by have:=(k1.trans k2).size;omega,b4,by decide,by unfold maxLen;omega,rfl,rfl⟩⟩,k04⟩
  have HXX : Hid ((0 < np → ∃ A : Addr,pa = some A ∧ np ≤ ca ∧ 0 ≤ A.block ∧ ∀ i,i < np → ProC 0 w (A.add (i * 9)) (F i)) ∧ Sok np F ∧ (∀ p,p < np → Psh (F p)) ∧ BitsC ∧ (∀ R,R = (if (eb F np).length ≤ 1000000 then eb F np else []) → Img np F R)):=(⟨ha2,hok,hps hok,HB,fun R hR=>⟨0,f,n,hans,by rw [hR];simp⟩⟩ : _ ∧ _)
  have HBX : Hid (∀ W',Lib.OthersKept 5 none w4 W' → W'.heap[w.heap.size]? = some (.cells #[.slice pa np ca] 30 (0,0))):=(fun W' k=>ok_cells k ((k4.block _ (Nat.zero_le _) (Array.getElem?_eq_some_iff.1 b2).1).trans b2) (by simp) (by decide) : ∀ W',_)
  have HN1:=sp_num (np : Int) (by omega) (by omega) q4 (by decide)
  have c4 : w4.cell? ⟨w.heap.size,0,none⟩ = some (.slice pa np ca):=cell_of ((show ∀ W',Lib.OthersKept 5 none w4 W' → _ from HBX) w4 (Lib.OthersKept.refl _ _ _)) rfl
  have hz : (3 : Nat) = 3:=rfl
  have HW4 : Hid (w4 = (w2.alloc (.cells #[.int .i64 0,.int .i64 (f : Int),.int .i64 (n : Int)] 42)).alloc (.cells #[.int .u8 72,.int .u8 67,.int .u8 1] 5)):=hw4
  have hnp2 : np ≤ 200:=hok.sz.2.1
  have hnp0 : 0 < np:=hok.sz.1
  clear k1 k2 b1 ha2 hans b2 hps HB b4 s4 k4 k04 q4 hw4 hok hz
  go_upto_region 5 with fail
  rw [← (show w4 = _ from HW4)]
  clear HW4
  go_wp2_with fail
  refine HN1.mono ?_
  rintro e w5 ⟨v5,rfl,q5,o5⟩
  have c5 : w5.cell? ⟨w.heap.size,0,none⟩ = some (.slice pa np ca):=cell_of ((show ∀ W',Lib.OthersKept 5 none w4 W' → _ from HBX) w5 o5) rfl
  have HS : Hid (QK w (([72,67,1] ++ nb (np : Int)) ++ ct (fun i=>pb (F i)) 0) v5 w5):=by
    rw [show ct (fun i=>pb (F i)) 0 = [] from rfl,List.append_nil];exact q5
  clear HN1 c4 q5 o5 HBX
  go_wp2_with fail
  clear c5
  go_loopw [4,21] (fun s4 s21 wr=>∃ (p : Nat) (v : Value),p ≤ np ∧ s21 = .int .i64 (p : Int) ∧ v = s4 ∧ Hid (QK w (([72,67,1] ++ nb (np : Int)) ++ ct (fun i=>pb (F i)) p) v wr ∧ (0 < p → (([72,67,1] ++ nb (np : Int)) ++ ct (fun i=>pb (F i)) p).length ≤ 1000000))) (fun _ s21 _=>np - (intOf s21).toNat)
  case atStart=>exact ⟨0,_,by omega,rfl,rfl,(⟨HS,fun h=>by omega⟩ : _ ∧ _)⟩
  case round =>
    clear HS
    obtain ⟨p,v,hp,rfl,hv,HQ⟩:=hrel
    subst hv
    obtain ⟨hq,hlp⟩:=(show _ ∧ _ from HQ)
    obtain ⟨ha2,hok,hps,HB,hImg⟩:=(show _ ∧ _ ∧ _ ∧ _ ∧ _ from HXX)
    by_cases hpn : p < np
    · have hI : (p : Int) < (np : Int):=by omega
      obtain ⟨a,rfl,hca,-,hrw⟩:=ha2 (by omega)
      obtain ⟨vu,vc,vn,vd,hcel,hvu,hvc,hvn,hvd⟩:=hrw p hpn
      obtain ⟨d0,d1,d2,d3,d4,d5,d6,d7,d8⟩:=hcel.keep (Nat.zero_le _) hq.2
      have hvu2:=hvu
      have hvc2:=hvc
      have hvn2:=hvn
      have hvd2:=hvd
      obtain ⟨pu,cu,rfl,-⟩:=hvu
      obtain ⟨pc,cc,rfl,-⟩:=hvc
      obtain ⟨pn,cn,rfl,-⟩:=hvn
      obtain ⟨pm,cm,rfl,-⟩:=hvd
      obtain ⟨w6,hw6⟩ : ∃ w6,w6 = wr.alloc (.cells #[.string (F p).x,.int .i64 (F p).l,.int .i64 (F p).m,.bool (F p).r,.int .i64 (F p).g,.slice pu (F p).u cu,.slice pc (F p).c cc,.slice pn (F p).n cn,.slice pm (F p).d cm] 50):=⟨_,rfl⟩
      have k6 : Kb 0 wr w6:=by rw [hw6];exact kb_alloc _ _ _
      have b6 : w6.heap[wr.heap.size]? = some (.cells #[.string (F p).x,.int .i64 (F p).l,.int .i64 (F p).m,.bool (F p).r,.int .i64 (F p).g,.slice pu (F p).u cu,.slice pc (F p).c cc,.slice pn (F p).n cn,.slice pm (F p).d cm] 50 (0,0)):=by rw [hw6];exact alloc_new _ _ _
      have hct : (ct (fun i=>pb (F i)) p).length ≤ p * 1100000000:=ct_len p (fun i hi=>pb_len (hps i (by omega)))
      have hnl:=nb_len (n:=(np : Int)) (by omega) (by omega)
      have hpl:=pb_len (hps p hpn)
      have hl1 : (([72,67,1] ++ nb (np : Int)) ++ ct (fun i=>pb (F i)) p).length ≤ 1000000000000:=by
        rw [List.length_append,List.length_append]
        simp only [List.length_cons,List.length_nil]
        omega
      have HC:=sp_pro HB (hps p hpn) hvu2 hvc2 hvn2 hvd2 (hq.call k6) (by omega)
      have HG : Hid ((([72,67,1] ++ nb (np : Int)) ++ ct (fun i=>pb (F i)) p) ++ pb (F p) = (([72,67,1] ++ nb (np : Int)) ++ ct (fun i=>pb (F i)) (p + 1)) ∧ ((([72,67,1] ++ nb (np : Int)) ++ ct (fun i=>pb (F i)) p) ++ pb (F p)).length ≤ 2000000000000):=(⟨by rw [List.append_assoc];rfl,by rw [List.length_append];omega⟩ : _ ∧ _)
      obtain ⟨g6,hg6⟩ : ∃ g6,g6 = wr.heap.size:=⟨_,rfl⟩
      rw [← hg6] at b6
      have e0 : w6.cell? ⟨g6,0,none⟩ = some (.string (F p).x):=cell_of b6 rfl
      have e1 : w6.cell? ⟨g6,1,none⟩ = some (.int .i64 (F p).l):=cell_of b6 rfl
      have e2 : w6.cell? ⟨g6,2,none⟩ = some (.int .i64 (F p).m):=cell_of b6 rfl
      have e3 : w6.cell? ⟨g6,3,none⟩ = some (.bool (F p).r):=cell_of b6 rfl
      have e4 : w6.cell? ⟨g6,4,none⟩ = some (.int .i64 (F p).g):=cell_of b6 rfl
      have e5 : w6.cell? ⟨g6,5,none⟩ = some (.slice pu (F p).u cu):=cell_of b6 rfl
      have e6 : w6.cell? ⟨g6,6,none⟩ = some (.slice pc (F p).c cc):=cell_of b6 rfl
      have e7 : w6.cell? ⟨g6,7,none⟩ = some (.slice pn (F p).n cn):=cell_of b6 rfl
      have e8 : w6.cell? ⟨g6,8,none⟩ = some (.slice pm (F p).d cm):=cell_of b6 rfl
      have HW6 : Hid (w6 = wr.alloc (.cells #[.string (F p).x,.int .i64 (F p).l,.int .i64 (F p).m,.bool (F p).r,.int .i64 (F p).g,.slice pu (F p).u cu,.slice pc (F p).c cc,.slice pn (F p).n cn,.slice pm (F p).d cm] 50) ∧ g6 = wr.heap.size):=(⟨hw6,hg6⟩ : _ ∧ _)
      clear hw6 k6 b6 hg6 hq hlp HQ ha2 hok hps HB hImg hrw hcel hvu2 hvc2 hvn2 hvd2 hct hnl hpl hl1
      go_upto_region 9 with fail
      rw [← (show w6 = _ ∧ _ from HW6).1]
      try rw [← (show w6 = _ ∧ _ from HW6).2]
      clear HW6 d0 d1 d2 d3 d4 d5 d6 d7 d8
      go_upto_region 10 with (go_at_call 21;refine HC.mono ?_;rintro e w7 ⟨v7,rfl,q7,o7⟩)
      clear HC e0 e1 e2 e3 e4 e5 e6 e7 e8
      obtain ⟨hE,hlen⟩:=(show _ ∧ _ from HG)
      rw [hE] at q7 hlen
      obtain ⟨p7,c7,rfl⟩:=q7.slice
      obtain ⟨NN,hNN⟩ : ∃ NN,NN = (([72,67,1] ++ nb (np : Int)) ++ ct (fun i=>pb (F i)) (p + 1)).length:=⟨_,rfl⟩
      rw [← hNN] at hlen
      rw [← hNN] at q7
      rw [← hNN]
      by_cases hbig : 1000000 < NN
      · have hB1 : (1000000 : Int) < (NN : Int):=by omega
        have HR : Hid (Img np F [] ∧ QK w [] (.slice none 0 0) w7):=by
          obtain ⟨ha2,hok,hps,HB,hImg⟩:=(show _ ∧ _ ∧ _ ∧ _ ∧ _ from HXX)
          refine (⟨hImg [] ?_,(qk_nil w).call q7.2⟩ : _ ∧ _)
          rw [if_neg]
          rw [eb_eq,List.length_append]
          have:=ct_mono (fun i=>pb (F i)) (show p + 1 ≤ np by omega)
          rw [hNN,List.length_append] at hbig
          omega
        clear HG hE hlen q7 HXX hNN hbig
        go_wp2_with fail
        go_ret
        first | exact ⟨_,_,rfl,HR.1,HR.2⟩ | exact ⟨_,rfl,_,HR.1,HR.2⟩
      · have hB1 : ¬ (1000000 : Int) < (NN : Int):=by omega
        have HN : Hid (QK w (([72,67,1] ++ nb (np : Int)) ++ ct (fun i=>pb (F i)) (p + 1)) (.slice p7 NN c7) w7 ∧ (0 < p + 1 → (([72,67,1] ++ nb (np : Int)) ++ ct (fun i=>pb (F i)) (p + 1)).length ≤ 1000000)):=(⟨q7,fun _=>by rw [← hNN];omega⟩ : _ ∧ _)
        clear HG hE hlen q7 hNN hbig
        go_wp2_with fail
        go_roundw
        case rel=>exact ⟨p + 1,_,by omega,by go_num,rfl,HN⟩
        case measure=>simp [intOf];omega
    · obtain rfl : p = np:=by omega
      have hI : ¬ (p : Int) < (p : Int):=by omega
      rw [← eb_eq] at hq hlp
      obtain ⟨pv,cv,rfl⟩:=hq.slice
      obtain ⟨nv,hnv⟩ : ∃ nv,nv = (eb F p).length:=⟨_,rfl⟩
      rw [← hnv] at hq
      rw [← hnv]
      have HR : Hid (Img p F (eb F p) ∧ QK w (eb F p) (.slice pv nv cv) wr):=by
        exact (⟨hImg _ (by rw [if_pos (hlp hnp0)]),hq⟩ : _ ∧ _)
      clear hq hlp HQ ha2 hok hps HB hImg HXX hnv
      go_wp2_with fail
      go_ret
      first | exact ⟨_,_,rfl,HR.1,HR.2⟩ | exact ⟨_,rfl,_,HR.1,HR.2⟩
end Go.Proofs.YtnmeemjoodoalaaGreatDoor.Fo
