import Derived.Test.YtnmeemjoodoalaaGreatDoorMEah
import Derived.Test.YtnmeemjoodoalaaGreatDoorMEaf
import Derived.Test.YtnmeemjoodoalaaGreatDoorMCgd
import Derived.Test.YtnmeemjoodoalaaGreatDoorMEge
set_option maxHeartbeats 16000000
namespace Go.Proofs.YtnmeemjoodoalaaGreatDoor.Fo
open Go.ChangeShapes Go.WideShapes Go.ChangeAt Go.RowKit
set_option linter.unusedVariables false
set_option maxRecDepth 100000
theorem sp_enc {va : Value} {np : Nat} {F : Nat → Pd} (HB : BitsC) (w : World) (ha : RowP 0 w va np F) (hb : Bd np F) (hps : Sok np F → ∀ p, p < np → Psh (F p)) :
    Calls Tryz.prog 6 #[.agg #[va]] w fun e w'=>∃ v R,e = .returned v ∧ Img np F R ∧ QK w R v w':=by
  obtain ⟨pa,ca,rfl,ha2⟩:=ha
  have hnI : (np : Int) ≤ 1048576:=by have:=hb.hnp;omega
  obtain ⟨w1,hw1⟩ : ∃ w1,w1 = w.alloc (.cells #[.slice pa np ca] 30):=⟨_,rfl⟩
  have k1 : Kb 0 w w1:=by rw [hw1];exact kb_alloc _ _ _
  have b1 : w1.heap[w.heap.size]? = some (.cells #[.slice pa np ca] 30 (0,0)):=by rw [hw1];exact alloc_new _ _ _
  have HSH : Hid (Calls Tryz.prog 19 #[.agg #[.slice pa np ca]] w1 fun e w'=>∃ c f n : Nat,e = .returned (.agg #[.int .i64 (c : Int),.int .i64 (f : Int),.int .i64 (n : Int)]) ∧ Ans 7 np F c f n ∧ Kb 0 w1 w'):=sp_shape w1 (fun h=>by
    obtain ⟨a,e1,e2,e0,e3⟩:=ha2 h
    exact ⟨a,e1,e2,e0,fun i hi=>(e3 i hi).keep (Nat.zero_le _) k1⟩) hb
  have HR : Hid ((0 < np → ∃ A : Addr,pa = some A ∧ np ≤ ca ∧ 0 ≤ A.block ∧ ∀ i,i < np → ProC 0 w (A.add (i * 9)) (F i)) ∧ Kb 0 w w1 ∧ w1.heap[w.heap.size]? = some (.cells #[.slice pa np ca] 30 (0,0)) ∧ (Sok np F → ∀ p,p < np → Psh (F p)) ∧ BitsC):=(⟨ha2,k1,b1,hps,HB⟩ : _ ∧ _)
  have HW1 : Hid (w1 = w.alloc (.cells #[.slice pa np ca] 30)):=hw1
  clear ha2 hb k1 b1 hw1 hps HB
  go_enter Tryz.func6,Tryz.ntmps6
  go_wp2_with fail
  rw [← (show w1 = _ from HW1)]
  clear HW1
  refine (show Calls Tryz.prog 19 #[.agg #[.slice pa np ca]] w1 (fun e w'=>∃ c f n : Nat,e = .returned (.agg #[.int .i64 (c : Int),.int .i64 (f : Int),.int .i64 (n : Int)]) ∧ Ans 7 np F c f n ∧ Kb 0 w1 w') from HSH).mono ?_
  rintro e w2 ⟨c,f,n,rfl,hans,k2⟩
  clear HSH
  obtain ⟨ha2,k1,b1,hps,HB⟩:=(show _ ∧ _ ∧ _ ∧ _ ∧ _ from HR)
  clear HR
  have b2 : w2.heap[w.heap.size]? = some (.cells #[.slice pa np ca] 30 (0,0)):=(k2.block _ (Nat.zero_le _) (Array.getElem?_eq_some_iff.1 b1).1).trans b1
  by_cases c0 : c = 0
  case neg =>
    have hc : ((c : Int) != 0) = true:=bne_iff_ne.2 (by omega)
    have HL : Hid (Img np F [] ∧ ∀ o,QK w [] (.slice none 0 0) (w2.alloc o)):=(⟨⟨c,f,n,hans,by rw [if_neg (fun h=>c0 h.1)]⟩,fun o=>(qk_nil w).call ((k1.trans k2).alloc o)⟩ : _ ∧ _)
    clear k1 k2 b1 ha2 hans c0 b2 hps HB
    go_wp2_with fail
    go_ret
    exact ⟨_,_,rfl,HL.1,(show _ ∧ ∀ o,_ from HL).2 _⟩
  subst c0
  have hok:=sok_of hans
  obtain ⟨w4,hw4⟩ : ∃ w4,w4 = (w2.alloc (.cells #[.int .i64 0,.int .i64 (f : Int),.int .i64 (n : Int)] 42)).alloc (.cells #[.int .u8 72,.int .u8 67,.int .u8 1] 5):=⟨_,rfl⟩
  obtain ⟨-,b4,s4,k4⟩:=two_newE w2 _ _ _ _ w4 hw4
  have k04 : Kb 0 w w4:=(k1.trans k2).trans k4
  have q4 : QK w [72,67,1] (.slice (some ⟨w2.heap.size + 1,0,none⟩) 3 3) w4:=⟨⟨rfl,.inr ⟨_,3,_,rfl,by have:=(k1.trans k2).size;omega,b4,by decide,by unfold maxLen;omega,rfl,rfl⟩⟩,k04⟩
  have HXX : Hid ((0 < np → ∃ A : Addr,pa = some A ∧ np ≤ ca ∧ 0 ≤ A.block ∧ ∀ i,i < np → ProC 0 w (A.add (i * 9)) (F i)) ∧ Sok np F ∧ (∀ p,p < np → Psh (F p)) ∧ BitsC ∧ (∀ R,R = (if (eb F np).length ≤ 1000000 then eb F np else []) → Img np F R)):=(⟨ha2,hok,hps hok,HB,fun R hR=>⟨0,f,n,hans,by rw [hR];simp⟩⟩ : _ ∧ _)
  have HBX : Hid (∀ W',Lib.OthersKept 5 none w4 W' → W'.heap[w.heap.size]? = some (.cells #[.slice pa np ca] 30 (0,0))):=(fun W' k=>ok_cells k ((k4.block _ (Nat.zero_le _) (Array.getElem?_eq_some_iff.1 b2).1).trans b2) (by simp) (by decide) : ∀ W',_)
  have HN1:=sp_num (np : Int) (by omega) (by omega) q4 (by decide)
  have c4 : w4.cell? ⟨w.heap.size,0,none⟩ = some (.slice pa np ca):=cell_of ((show ∀ W',Lib.OthersKept 5 none w4 W' → _ from HBX) w4 (Lib.OthersKept.refl _ _ _)) rfl
  have hz : (3 : Nat) = 3:=rfl
  have HW4 : Hid (w4 = (w2.alloc (.cells #[.int .i64 0,.int .i64 (f : Int),.int .i64 (n : Int)] 42)).alloc (.cells #[.int .u8 72,.int .u8 67,.int .u8 1] 5)):=hw4
  have hnp2 : np ≤ 200:=hok.sz.2.1
  have hnp0 : 0 < np:=hok.sz.1
  clear k1 k2 b1 ha2 hans b2 hps HB b4 s4 k4 k04 q4 hw4 hok hz
  go_upto_region 5 with fail
  rw [← (show w4 = _ from HW4)]
  clear HW4
  go_wp2_with fail
  refine HN1.mono ?_
  rintro e w5 ⟨v5,rfl,q5,o5⟩
  have c5 : w5.cell? ⟨w.heap.size,0,none⟩ = some (.slice pa np ca):=cell_of ((show ∀ W',Lib.OthersKept 5 none w4 W' → _ from HBX) w5 o5) rfl
  have HS : Hid (QK w (([72,67,1] ++ nb (np : Int)) ++ ct (fun i=>pb (F i)) 0) v5 w5):=by
    rw [show ct (fun i=>pb (F i)) 0 = [] from rfl,List.append_nil];exact q5
  clear HN1 c4 q5 o5 HBX
  go_wp2_with fail
  clear c5
  go_loopw [4,21] (fun s4 s21 wr=>∃ (p : Nat) (v : Value),p ≤ np ∧ s21 = .int .i64 (p : Int) ∧ v = s4 ∧ Hid (QK w (([72,67,1] ++ nb (np : Int)) ++ ct (fun i=>pb (F i)) p) v wr ∧ (0 < p → (([72,67,1] ++ nb (np : Int)) ++ ct (fun i=>pb (F i)) p).length ≤ 1000000))) (fun _ s21 _=>np - (intOf s21).toNat)
  case atStart=>exact ⟨0,_,by omega,rfl,rfl,(⟨HS,fun h=>by omega⟩ : _ ∧ _)⟩
  case round =>
    clear HS
    obtain ⟨p,v,hp,rfl,hv,HQ⟩:=hrel
    subst hv
    obtain ⟨hq,hlp⟩:=(show _ ∧ _ from HQ)
    obtain ⟨ha2,hok,hps,HB,hImg⟩:=(show _ ∧ _ ∧ _ ∧ _ ∧ _ from HXX)
    by_cases hpn : p < np
    · have hI : (p : Int) < (np : Int):=by omega
      obtain ⟨a,rfl,hca,-,hrw⟩:=ha2 (by omega)
      obtain ⟨vu,vc,vn,vd,hcel,hvu,hvc,hvn,hvd⟩:=hrw p hpn
      obtain ⟨d0,d1,d2,d3,d4,d5,d6,d7,d8⟩:=hcel.keep (Nat.zero_le _) hq.2
      have hvu2:=hvu
      have hvc2:=hvc
      have hvn2:=hvn
      have hvd2:=hvd
      obtain ⟨pu,cu,rfl,-⟩:=hvu
      obtain ⟨pc,cc,rfl,-⟩:=hvc
      obtain ⟨pn,cn,rfl,-⟩:=hvn
      obtain ⟨pm,cm,rfl,-⟩:=hvd
      obtain ⟨w6,hw6⟩ : ∃ w6,w6 = wr.alloc (.cells #[.string (F p).x,.int .i64 (F p).l,.int .i64 (F p).m,.bool (F p).r,.int .i64 (F p).g,.slice pu (F p).u cu,.slice pc (F p).c cc,.slice pn (F p).n cn,.slice pm (F p).d cm] 50):=⟨_,rfl⟩
      have k6 : Kb 0 wr w6:=by rw [hw6];exact kb_alloc _ _ _
      have b6 : w6.heap[wr.heap.size]? = some (.cells #[.string (F p).x,.int .i64 (F p).l,.int .i64 (F p).m,.bool (F p).r,.int .i64 (F p).g,.slice pu (F p).u cu,.slice pc (F p).c cc,.slice pn (F p).n cn,.slice pm (F p).d cm] 50 (0,0)):=by rw [hw6];exact alloc_new _ _ _
      have hct : (ct (fun i=>pb (F i)) p).length ≤ p * 1100000000:=ct_len p (fun i hi=>pb_len (hps i (by omega)))
      have hnl:=nb_len (n:=(np : Int)) (by omega) (by omega)
      have hpl:=pb_len (hps p hpn)
      have hl1 : (([72,67,1] ++ nb (np : Int)) ++ ct (fun i=>pb (F i)) p).length ≤ 1000000000000:=by
        rw [List.length_append,List.length_append]
        simp only [List.length_cons,List.length_nil]
        omega
      have HC:=sp_pro HB (hps p hpn) hvu2 hvc2 hvn2 hvd2 (hq.call k6) (by omega)
      have HG : Hid ((([72,67,1] ++ nb (np : Int)) ++ ct (fun i=>pb (F i)) p) ++ pb (F p) = (([72,67,1] ++ nb (np : Int)) ++ ct (fun i=>pb (F i)) (p + 1)) ∧ ((([72,67,1] ++ nb (np : Int)) ++ ct (fun i=>pb (F i)) p) ++ pb (F p)).length ≤ 2000000000000):=(⟨by rw [List.append_assoc];rfl,by rw [List.length_append];omega⟩ : _ ∧ _)
      obtain ⟨g6,hg6⟩ : ∃ g6,g6 = wr.heap.size:=⟨_,rfl⟩
      rw [← hg6] at b6
      have e0 : w6.cell? ⟨g6,0,none⟩ = some (.string (F p).x):=cell_of b6 rfl
      have e1 : w6.cell? ⟨g6,1,none⟩ = some (.int .i64 (F p).l):=cell_of b6 rfl
      have e2 : w6.cell? ⟨g6,2,none⟩ = some (.int .i64 (F p).m):=cell_of b6 rfl
      have e3 : w6.cell? ⟨g6,3,none⟩ = some (.bool (F p).r):=cell_of b6 rfl
      have e4 : w6.cell? ⟨g6,4,none⟩ = some (.int .i64 (F p).g):=cell_of b6 rfl
      have e5 : w6.cell? ⟨g6,5,none⟩ = some (.slice pu (F p).u cu):=cell_of b6 rfl
      have e6 : w6.cell? ⟨g6,6,none⟩ = some (.slice pc (F p).c cc):=cell_of b6 rfl
      have e7 : w6.cell? ⟨g6,7,none⟩ = some (.slice pn (F p).n cn):=cell_of b6 rfl
      have e8 : w6.cell? ⟨g6,8,none⟩ = some (.slice pm (F p).d cm):=cell_of b6 rfl
      have HW6 : Hid (w6 = wr.alloc (.cells #[.string (F p).x,.int .i64 (F p).l,.int .i64 (F p).m,.bool (F p).r,.int .i64 (F p).g,.slice pu (F p).u cu,.slice pc (F p).c cc,.slice pn (F p).n cn,.slice pm (F p).d cm] 50) ∧ g6 = wr.heap.size):=(⟨hw6,hg6⟩ : _ ∧ _)
      clear hw6 k6 b6 hg6 hq hlp HQ ha2 hok hps HB hImg hrw hcel hvu2 hvc2 hvn2 hvd2 hct hnl hpl hl1
      go_upto_region 9 with fail
      rw [← (show w6 = _ ∧ _ from HW6).1]
      try rw [← (show w6 = _ ∧ _ from HW6).2]
      clear HW6 d0 d1 d2 d3 d4 d5 d6 d7 d8
      go_upto_region 10 with (go_at_call 21;refine HC.mono ?_;rintro e w7 ⟨v7,rfl,q7,o7⟩)
      clear HC e0 e1 e2 e3 e4 e5 e6 e7 e8
      obtain ⟨hE,hlen⟩:=(show _ ∧ _ from HG)
      rw [hE] at q7 hlen
      obtain ⟨p7,c7,rfl⟩:=q7.slice
      obtain ⟨NN,hNN⟩ : ∃ NN,NN = (([72,67,1] ++ nb (np : Int)) ++ ct (fun i=>pb (F i)) (p + 1)).length:=⟨_,rfl⟩
      rw [← hNN] at hlen
      rw [← hNN] at q7
      rw [← hNN]
      by_cases hbig : 1000000 < NN
      · have hB1 : (1000000 : Int) < (NN : Int):=by omega
        have HR : Hid (Img np F [] ∧ QK w [] (.slice none 0 0) w7):=by
          obtain ⟨ha2,hok,hps,HB,hImg⟩:=(show _ ∧ _ ∧ _ ∧ _ ∧ _ from HXX)
          refine (⟨hImg [] ?_,(qk_nil w).call q7.2⟩ : _ ∧ _)
          rw [if_neg]
          rw [eb_eq,List.length_append]
          have:=ct_mono (fun i=>pb (F i)) (show p + 1 ≤ np by omega)
          rw [hNN,List.length_append] at hbig
          omega
        clear HG hE hlen q7 HXX hNN hbig
        go_wp2_with fail
        go_ret
        first | exact ⟨_,_,rfl,HR.1,HR.2⟩ | exact ⟨_,rfl,_,HR.1,HR.2⟩
      · have hB1 : ¬ (1000000 : Int) < (NN : Int):=by omega
        have HN : Hid (QK w (([72,67,1] ++ nb (np : Int)) ++ ct (fun i=>pb (F i)) (p + 1)) (.slice p7 NN c7) w7 ∧ (0 < p + 1 → (([72,67,1] ++ nb (np : Int)) ++ ct (fun i=>pb (F i)) (p + 1)).length ≤ 1000000)):=(⟨q7,fun _=>by rw [← hNN];omega⟩ : _ ∧ _)
        clear HG hE hlen q7 hNN hbig
        go_wp2_with fail
        go_roundw
        case rel=>exact ⟨p + 1,_,by omega,by go_num,rfl,HN⟩
        case measure=>simp [intOf];omega
    · obtain rfl : p = np:=by omega
      have hI : ¬ (p : Int) < (p : Int):=by omega
      rw [← eb_eq] at hq hlp
      obtain ⟨pv,cv,rfl⟩:=hq.slice
      obtain ⟨nv,hnv⟩ : ∃ nv,nv = (eb F p).length:=⟨_,rfl⟩
      rw [← hnv] at hq
      rw [← hnv]
      have HR : Hid (Img p F (eb F p) ∧ QK w (eb F p) (.slice pv nv cv) wr):=by
        exact (⟨hImg _ (by rw [if_pos (hlp hnp0)]),hq⟩ : _ ∧ _)
      clear hq hlp HQ ha2 hok hps HB hImg HXX hnv
      go_wp2_with fail
      go_ret
      first | exact ⟨_,_,rfl,HR.1,HR.2⟩ | exact ⟨_,rfl,_,HR.1,HR.2⟩
structure Kz (b : Nat) (W w' : World) : Prop where
  os : w'.os = W.os
  output : w'.output = W.output
  size : w'.heap.size = W.heap.size
  block : ∀ k,k ≠ b → w'.heap[k]? = W.heap[k]?
theorem Kz.set {b : Nat} {W w' : World} (h : Kz b W w') (j : Nat) (v : Value) : Kz b W (w'.setCell ⟨b,j,none⟩ v) :=
  ⟨h.os,h.output,by simp [World.setCell,h.size],fun k hk=>(Below.heap_setCell _ _ _ _ hk).trans (h.block k hk)⟩
theorem Kz.refl (b : Nat) (W : World) : Kz b W W:=⟨rfl,rfl,rfl,fun _ _=>rfl⟩
theorem Kz.ok {b : Nat} {W w' : World} (h : Kz b W w') : Lib.OthersKept 5 (some b) W w':=fun k o hk hb _=>(h.block k (fun e=>hb (by rw [e]))).trans hk
theorem ps_lost {W : World} {b : Nat} {im : Value} (lf n : Int) (h : W.heap[b]? = some (.cells #[im, .int .i64 lf, .bool true] 57 (0, 0))) :
    Calls Tryz.prog 52 #[.pointer (some ⟨b,0,none⟩),.int .i64 n] W fun e w'=>e = .returned (.bool false) ∧ w'.heap[b]? = some (.cells #[im,.int .i64 lf,.bool true] 57 (0,0)) ∧ Kz b W w':=by
  have c1 : W.cell? ⟨b,1,none⟩ = some (.int .i64 lf):=cell_of h rfl
  have c2 : W.cell? ⟨b,2,none⟩ = some (.bool true):=cell_of h rfl
  have f1 : W.frozen? ⟨b,1,none⟩ = false:=frozen_of h
  have f2 : W.frozen? ⟨b,2,none⟩ = false:=frozen_of h
  have HH : Hid (W.heap[b]? = some (.cells #[im,.int .i64 lf,.bool true] 57 (0,0))):=h
  clear h
  go_enter Tryz.func52,Tryz.ntmps52
  go_wp2_with fail
  go_ret
  exact ⟨rfl,by rw [set_known _ (show W.heap[b]? = _ from HH)];rfl,(Kz.refl _ _).set _ _⟩
theorem ps_fits {W : World} {b : Nat} {im : Value} (lf n : Int) (h : W.heap[b]? = some (.cells #[im, .int .i64 lf, .bool false] 57 (0, 0))) (h0 : 0 ≤ n) (h1 : n ≤ lf) (hr : lf ≤ 1000000) :
    Calls Tryz.prog 52 #[.pointer (some ⟨b,0,none⟩),.int .i64 n] W fun e w'=>e = .returned (.bool true) ∧ w'.heap[b]? = some (.cells #[im,.int .i64 (lf - n),.bool false] 57 (0,0)) ∧ Kz b W w':=by
  have c1 : W.cell? ⟨b,1,none⟩ = some (.int .i64 lf):=cell_of h rfl
  have c2 : W.cell? ⟨b,2,none⟩ = some (.bool false):=cell_of h rfl
  have f1 : W.frozen? ⟨b,1,none⟩ = false:=frozen_of h
  have f2 : W.frozen? ⟨b,2,none⟩ = false:=frozen_of h
  have HH : Hid (W.heap[b]? = some (.cells #[im,.int .i64 lf,.bool false] 57 (0,0))):=h
  clear h
  have g0 : ¬ n < 0:=by omega
  have g1 : ¬ lf < n:=by omega
  have hs : wrap64 (lf - n) = lf - n:=by unfold wrap64;omega
  clear h0 h1 hr
  go_enter Tryz.func52,Tryz.ntmps52
  go_wp2_with fail
  go_ret
  exact ⟨rfl,by rw [set_known _ (set_known _ (show W.heap[b]? = _ from HH))];rfl,((Kz.refl _ _).set _ _).set _ _⟩
theorem ps_long {W : World} {b : Nat} {im : Value} (lf n : Int) (h : W.heap[b]? = some (.cells #[im, .int .i64 lf, .bool false] 57 (0, 0))) (h0 : 0 ≤ n) (h1 : lf < n) :
    Calls Tryz.prog 52 #[.pointer (some ⟨b,0,none⟩),.int .i64 n] W fun e w'=>e = .returned (.bool false) ∧ w'.heap[b]? = some (.cells #[im,.int .i64 lf,.bool true] 57 (0,0)) ∧ Kz b W w':=by
  have c1 : W.cell? ⟨b,1,none⟩ = some (.int .i64 lf):=cell_of h rfl
  have c2 : W.cell? ⟨b,2,none⟩ = some (.bool false):=cell_of h rfl
  have f1 : W.frozen? ⟨b,1,none⟩ = false:=frozen_of h
  have f2 : W.frozen? ⟨b,2,none⟩ = false:=frozen_of h
  have HH : Hid (W.heap[b]? = some (.cells #[im,.int .i64 lf,.bool false] 57 (0,0))):=h
  clear h
  have g0 : ¬ n < 0:=by omega
  clear h0
  go_enter Tryz.func52,Tryz.ntmps52
  go_wp2_with fail
  go_ret
  exact ⟨rfl,by rw [set_known _ (show W.heap[b]? = _ from HH)];rfl,(Kz.refl _ _).set _ _⟩
def WS (w0 : World) (l : List UInt8) (W : World) : Prop:=Kb 0 w0 W ∧ ∃ im lf lo,W.heap[w0.heap.size]? = some (.cells #[im,.int .i64 lf,.bool lo] 57 (0,0)) ∧ ((l.length ≤ 1000000 ∧ lo = false ∧ lf = 1000000 - (l.length : Int) ∧ W.ownsRow (w0.heap.size + 1) 5 1 im l.length (Lib.byteCells l)) ∨ (1000000 < l.length ∧ lo = true ∧ ∃ p n c,im = .slice p n c))
def WP (w0 W : World) (l : List UInt8) (e : Ending) (w' : World) : Prop:=e = .returned (.tuple #[]) ∧ WS w0 l w' ∧ Lib.OthersKept 5 (some w0.heap.size) W w'
theorem own_keep {W W' : World} {B n : Nat} {e : TypeId} {v : Value} {xs : List Value} (h : W.ownsRow B e 1 v n xs) (k : ∀ g,B ≤ g → g < W.heap.size → W'.heap[g]? = W.heap[g]?) : W'.ownsRow B e 1 v n xs:=by
  refine ⟨h.1,?_⟩
  rcases h.2 with h1 | ⟨g,cap,cur,h1,h2,h3,h4⟩
  · exact .inl h1
  · exact .inr ⟨g,cap,cur,h1,h2,(k g h2 (Array.getElem?_eq_some_iff.1 h3).1).trans h3,h4⟩
theorem own_slice {W : World} {B n : Nat} {e : TypeId} {v : Value} {xs : List Value} (h : W.ownsRow B e 1 v n xs) : ∃ p c,v = .slice p n c:=by
  rcases h.2 with ⟨h1,h2⟩ | ⟨g,cap,cur,h1,_⟩
  · exact ⟨none,0,by rw [h2];exact h1⟩
  · exact ⟨_,cap,h1⟩
theorem WS.call {w0 W W' : World} {l : List UInt8} (h : WS w0 l W) (k : Kb 0 W W') : WS w0 l W':=by
  obtain ⟨h1,im,lf,lo,h2,h3⟩:=h
  refine ⟨h1.trans k,im,lf,lo,(k.block _ (Nat.zero_le _) (Array.getElem?_eq_some_iff.1 h2).1).trans h2,?_⟩
  rcases h3 with ⟨a,b,c,d⟩ | h3
  · exact .inl ⟨a,b,c,own_keep d (fun g _ hg=>k.block g (Nat.zero_le _) hg)⟩
  · exact .inr h3
theorem Kz.kb {w0 W w' : World} (h : Kb 0 w0 W) (k : Kz w0.heap.size W w') : Kb 0 w0 w':=⟨k.os.trans h.os,k.output.trans h.output,by rw [k.size];exact h.size,fun i _ hi=>(k.block i (by omega)).trans (h.block i (Nat.zero_le _) hi)⟩
theorem WS.lt {w0 W : World} {l : List UInt8} (h : WS w0 l W) : w0.heap.size < W.heap.size:=by
  obtain ⟨h1,im,lf,lo,h2,h3⟩:=h
  exact (Array.getElem?_eq_some_iff.1 h2).1
theorem im_put {w0 W : World} {l : List UInt8} {ad : Addr} {c : Nat} (xs : List UInt8) (hw : WS w0 l W) (had : ad.block ≠ w0.heap.size) (hx : ∀ j u, (Lib.byteCells xs)[j]? = some u → W.cell? (ad.add j) = some u) (hl : xs.length ≤ 1048576) :
    Calls Tryz.prog 24 #[.pointer (some ⟨w0.heap.size,0,none⟩),.slice (some ad) xs.length c] W (WP w0 W (l ++ xs)):=by
  obtain ⟨h1,im,lf,lo,h2,h3⟩:=hw
  obtain ⟨m,hm⟩ : ∃ m,m = xs.length:=⟨_,rfl⟩
  rw [← hm]
  rcases h3 with ⟨a,rfl,rfl,d⟩ | ⟨a,rfl,p,n,c2,rfl⟩
  · by_cases hf : (m : Int) ≤ 1000000 - (l.length : Int)
    · have HC:=ps_fits (1000000 - (l.length : Int)) (m : Int) h2 (by omega) hf (by omega)
      obtain ⟨i0,hi0,hz0,hz1,hz2⟩:=info_parts info5
      have HI0 : Hid (Tryz.prog.info? 5 = some i0):=hi0
      have HZ : Hid (∀ w1 : World,w1.heap[w0.heap.size]? = some (.cells #[im,.int .i64 (1000000 - (l.length : Int) - (m : Int)),.bool false] 57 (0,0)) → Kz w0.heap.size W w1 → w1.cell? ⟨w0.heap.size,0,none⟩ = some im ∧ w1.ownsRow (w0.heap.size + 1) 5 1 im l.length (Lib.byteCells l) ∧ (∀ j u,(Lib.byteCells xs)[j]? = some u → w1.cell? (ad.add j) = some u) ∧ w0.heap.size + 1 ≤ w1.heap.size ∧ ∀ v2 w2,w2.ownsRow (w0.heap.size + 1) 5 1 v2 (l.length + m) (Lib.byteCells l ++ Lib.byteCells xs) → w1.grownBy w2 im.ownBlock → (w2.cell? ⟨w0.heap.size,0,none⟩ = some im ∧ w2.frozen? ⟨w0.heap.size,0,none⟩ = false) ∧ WS w0 (l ++ xs) (w2.setCell ⟨w0.heap.size,0,none⟩ v2) ∧ Lib.OthersKept 5 (some w0.heap.size) W (w2.setCell ⟨w0.heap.size,0,none⟩ v2)):=by
        show ∀ w1 : World,_
        intro w1 b1 k1
        have d1:=own_keep d (fun g hg _=>k1.block g (by omega))
        have hlt:=(Array.getElem?_eq_some_iff.1 b1).1
        refine ⟨cell_of b1 rfl,d1,fun j u hu=>?_,by omega,fun v2 w2 ho hg=>?_⟩
        · rw [World.cell?_of_block (w:=W) (by rw [add_block];exact k1.block _ had)]
          exact hx j u hu
        · have hne : some w0.heap.size ≠ im.ownBlock:=fun e=>by have:=(d1.lt _ e.symm).1;omega
          have b2:=(hg.block _ hlt hne).trans b1
          have b3:=set_known (j:=0) v2 b2
          refine ⟨⟨cell_of b2 rfl,frozen_of b2⟩,⟨?_,v2,_,_,b3,.inl ⟨?_,rfl,?_,?_⟩⟩,?_⟩
          · have kw:=Kz.kb h1 k1
            exact ⟨hg.os.trans kw.os,hg.output.trans kw.output,by rw [World.setCell,Array.size_modify];exact Nat.le_trans kw.size hg.size,fun i _ hi=>by
              rw [Below.heap_setCell _ _ _ _ (show i ≠ w0.heap.size by omega),hg.block i (by omega) (fun e=>by have:=(d1.lt _ e.symm).1;omega)]
              exact kw.block i (Nat.zero_le _) hi⟩
          · rw [List.length_append];omega
          · rw [List.length_append];omega
          · rw [List.length_append,bc_append,← hm]
            exact own_keep ho (fun g hg _=>Below.heap_setCell _ _ _ _ (show g ≠ w0.heap.size by omega))
          · refine ((k1.ok).trans ?_).setCell _ rfl _
            exact (Lib.OthersKept.refl _ _ w1).grown hg (fun g e=>by
              rcases d1.2 with ⟨q1,_⟩ | ⟨g',cap,cur,q1,_,q3,_⟩
              · rw [q1] at e;simp [Value.ownBlock] at e
              · rw [q1] at e
                have : g' = g:=by simpa [Value.ownBlock] using e
                subst this
                exact ⟨_,_,q3⟩)
      have hlm : l.length + m ≤ 1000000:=by omega
      have hbl : (Lib.byteCells xs).length = m * 1:=by simp [Lib.byteCells,hm]
      clear hi0 h1 h2 d hx had hl hm hf a
      go_enter Tryz.func24,Tryz.ntmps24
      go_wp2_with fail
      refine HC.mono ?_
      rintro e w1 ⟨rfl,b1,k1⟩
      obtain ⟨c0,d1,hx1,hs1,hA⟩:=(show ∀ w1 : World,_ from HZ) w1 b1 k1
      have HA : Hid (∀ v2 w2,w2.ownsRow (w0.heap.size + 1) 5 1 v2 (l.length + m) (Lib.byteCells l ++ Lib.byteCells xs) → w1.grownBy w2 im.ownBlock → _):=hA
      clear HC HZ b1 k1 hA
      go_wp2_with (at_builtin;refine wpList_append_own _ rfl (.tmp 15) (.tmp 16) 26 rfl (w0.heap.size + 1) 5 i0 (.int .u8 0) 1 1 Tryz.underlying26 HI0 hz0 hz1 hz2 rfl (by decide) _ _ _ rfl d1 ad m c (Lib.byteCells xs) rfl hbl hx1 (bc_one xs) (by unfold maxLen;omega) (by omega) hs1 ?_;intro v2 w2 hown1 hgrow1 _;obtain ⟨⟨e2,f2⟩,y1,y2⟩:=(show ∀ v2 w2,_ → _ → _ from HA) v2 w2 hown1 hgrow1;obtain ⟨p2,c2,hv2⟩:=own_slice hown1;subst hv2)
      have HN : Hid _:=(⟨y1,y2⟩ : _ ∧ _)
      clear y1 y2 HA hown1 hgrow1 d1 hx1 hs1
      go_wp2_with fail
      exact ⟨rfl,.tuple #[],by simp [results,Tryz.results24],rfl,(show _ ∧ _ from HN).1,(show _ ∧ _ from HN).2⟩
    · have HC:=ps_long (1000000 - (l.length : Int)) (m : Int) h2 (by omega) (by omega)
      have HZ : Hid (∀ w1 : World,w1.heap[w0.heap.size]? = some (.cells #[im,.int .i64 (1000000 - (l.length : Int)),.bool true] 57 (0,0)) → Kz w0.heap.size W w1 → WS w0 (l ++ xs) w1 ∧ Lib.OthersKept 5 (some w0.heap.size) W w1):=(fun w1 b1 k1=>⟨⟨Kz.kb h1 k1,im,_,_,b1,.inr ⟨by rw [List.length_append];omega,rfl,by obtain ⟨p,c,e⟩:=own_slice d;exact ⟨p,_,c,e⟩⟩⟩,k1.ok⟩ : ∀ w1 : World,_)
      clear h1 h2 d hx had hl hm hf a
      go_enter Tryz.func24,Tryz.ntmps24
      go_wp2_with fail
      refine HC.mono ?_
      rintro e w1 ⟨rfl,b1,k1⟩
      have HN : Hid _:=(show ∀ w1 : World,_ from HZ) w1 b1 k1
      clear HC HZ b1 k1
      go_wp2_with fail
      exact ⟨rfl,.tuple #[],by simp [results,Tryz.results24],rfl,(show _ ∧ _ from HN).1,(show _ ∧ _ from HN).2⟩
  · have HC:=ps_lost lf (m : Int) h2
    have HZ : Hid (∀ w1 : World,w1.heap[w0.heap.size]? = some (.cells #[(.slice p n c2),.int .i64 lf,.bool true] 57 (0,0)) → Kz w0.heap.size W w1 → WS w0 (l ++ xs) w1 ∧ Lib.OthersKept 5 (some w0.heap.size) W w1):=(fun w1 b1 k1=>⟨⟨Kz.kb h1 k1,_,_,_,b1,.inr ⟨by rw [List.length_append];omega,rfl,p,n,c2,rfl⟩⟩,k1.ok⟩ : ∀ w1 : World,_)
    clear h1 h2 hx had hl hm a
    go_enter Tryz.func24,Tryz.ntmps24
    go_wp2_with fail
    refine HC.mono ?_
    rintro e w1 ⟨rfl,b1,k1⟩
    have HN : Hid _:=(show ∀ w1 : World,_ from HZ) w1 b1 k1
    clear HC HZ b1 k1
    go_wp2_with fail
    exact ⟨rfl,.tuple #[],by simp [results,Tryz.results24],rfl,(show _ ∧ _ from HN).1,(show _ ∧ _ from HN).2⟩
theorem im_put1 {w0 W : World} {l : List UInt8} (hw : WS w0 l W) (c : UInt8) (b : Int) (hb : (c.toNat : Int) = b) :
    Calls Tryz.prog 24 #[.pointer (some ⟨w0.heap.size,0,none⟩),.slice (some ⟨W.heap.size,0,none⟩) 1 1] (W.alloc (.cells #[.int .u8 b] 5)) (WP w0 W (l ++ [c])):=by
  have hlt:=hw.lt
  refine (im_put (c:=1) (ad:=⟨W.heap.size,0,none⟩) [c] (hw.call (kb_alloc 0 W (.cells #[.int .u8 b] 5))) (by show W.heap.size ≠ _;omega) (fun j u hu=>?_) (by simp)).mono ?_
  · refine qr_cells W #[.int .u8 b] 5 _ ?_ j u hu
    simp [Lib.byteCells,hb]
  · rintro e w' ⟨h1,h2,h3⟩
    exact ⟨h1,h2,(ok_kb (kb_alloc 0 W _) _).trans h3⟩
theorem im_groups {w0 W : World} {l : List UInt8} (U : Nat) (hU : U < 18446744073709551616) (hw : WS w0 l W) :
    Calls Tryz.prog 112 #[.pointer (some ⟨w0.heap.size,0,none⟩),.int .u64 (U : Int)] W (WP w0 W (l ++ vb U)):=by
  have HW : Hid (WS w0 l W):=hw
  clear hw
  go_enter Tryz.func112,Tryz.ntmps112
  go_wp2_with fail
  go_loopw [1] (fun s1 wr=>∃ (u : Nat) (acc : List UInt8),s1 = .int .u64 (u : Int) ∧ (u : Int) < 18446744073709551616 ∧ Hid (WS w0 (l ++ acc) wr ∧ Lib.OthersKept 5 (some w0.heap.size) W wr ∧ vb U = acc ++ vb u)) (fun s1 _=>(intOf s1).toNat)
  case atStart=>exact ⟨U,[],rfl,by omega,(⟨by rw [List.append_nil];exact HW,Lib.OthersKept.refl _ _ _,rfl⟩ : _ ∧ _)⟩
  case round =>
    clear HW
    obtain ⟨u,acc,rfl,hu,HX⟩:=hrel
    obtain ⟨hw,hok,hvb⟩:=(show _ ∧ _ ∧ _ from HX)
    by_cases hc : u < 128
    · have hg : ¬ (128 : Int) ≤ (u : Int):=by omega
      have hcv : IntKind.u8.wrap (u : Int) = (u : Int):=by rw [wrap_u8];omega
      have HC:=im_put1 hw (UInt8.ofNat u) (u : Int) (by rw [UInt8.toNat_ofNat',Nat.mod_eq_of_lt (by omega)])
      have HO : Hid (Lib.OthersKept 5 (some w0.heap.size) W wr ∧ l ++ vb U = (l ++ acc) ++ [UInt8.ofNat u]):=(⟨hok,by rw [hvb,vb_lt hc,List.append_assoc]⟩ : _ ∧ _)
      clear hw hok hvb HX hU hc
      go_wp2_with fail
      refine HC.mono ?_
      rintro e w2 ⟨rfl,y1,y2⟩
      obtain ⟨o1,o2⟩:=(show _ ∧ _ from HO)
      have HN : Hid (WS w0 (l ++ vb U) w2 ∧ Lib.OthersKept 5 (some w0.heap.size) W w2):=(⟨by rw [o2];exact y1,o1.trans y2⟩ : _ ∧ _)
      clear HC y1 y2 HO o1 o2
      go_wp2_with fail
      exact ⟨rfl,.tuple #[],by simp [results,Tryz.results112],rfl,(show _ ∧ _ from HN).1,(show _ ∧ _ from HN).2⟩
    · have hg : (128 : Int) ≤ (u : Int):=by omega
      obtain ⟨r7,hr7⟩ : ∃ r7 : Int,r7 = (u : Int) % 128:=⟨_,rfl⟩
      have hmod : Int.tmod (u : Int) 128 = r7:=by rw [hr7];exact Int.tmod_eq_emod_of_nonneg (by omega)
      have hwr : IntKind.u64.wrap (128 + r7) = 128 + r7:=by rw [wrap_u64];omega
      have hcv : IntKind.u8.wrap (128 + r7) = 128 + r7:=by rw [wrap_u8];omega
      obtain ⟨u2,hu2⟩ : ∃ u2,u2 = u / 128:=⟨_,rfl⟩
      have hdv : Int.tdiv (u : Int) 128 = (u2 : Int):=by rw [Int.tdiv_eq_ediv_of_nonneg (by omega)];omega
      have hdv2 : (u : Int) / 128 = (u2 : Int):=by omega
      have hmod2 : (u : Int) % 128 = r7:=hr7.symm
      have HC:=im_put1 hw (UInt8.ofNat (128 + u % 128)) (128 + r7) (by rw [UInt8.toNat_ofNat',Nat.mod_eq_of_lt (by omega)];omega)
      have HO : Hid (Lib.OthersKept 5 (some w0.heap.size) W wr ∧ vb U = (acc ++ [UInt8.ofNat (128 + u % 128)]) ++ vb u2 ∧ u2 < u ∧ (u2 : Int) < 18446744073709551616):=(⟨hok,by rw [hvb,vb_ge hc,List.append_assoc,hu2];rfl,by omega,by omega⟩ : _ ∧ _)
      clear hw hok hvb HX hU hc hu2 hr7
      go_wp2_with fail
      refine HC.mono ?_
      rintro e w2 ⟨rfl,y1,y2⟩
      obtain ⟨o1,o2,o3,o4⟩:=(show _ ∧ _ ∧ _ ∧ _ from HO)
      have HN : Hid (WS w0 (l ++ (acc ++ [UInt8.ofNat (128 + u % 128)])) w2 ∧ Lib.OthersKept 5 (some w0.heap.size) W w2 ∧ vb U = (acc ++ [UInt8.ofNat (128 + u % 128)]) ++ vb u2):=(⟨by rw [← List.append_assoc];exact y1,o1.trans y2,o2⟩ : _ ∧ _)
      have HL : Hid (u2 < u ∧ (u2 : Int) < 18446744073709551616):=(⟨o3,o4⟩ : _ ∧ _)
      clear HC y1 y2 HO o1 o2 o3 o4
      go_wp2_with fail
      go_roundw
      case rel=>exact ⟨u2,_,rfl,HL.2,HN⟩
      case measure=>exact (show u2 < u ∧ _ from HL).1
end Go.Proofs.YtnmeemjoodoalaaGreatDoor.Fo
