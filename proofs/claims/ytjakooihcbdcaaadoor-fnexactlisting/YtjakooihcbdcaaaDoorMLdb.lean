import Derived.Test.YtjakooihcbdcaaaDoorMLde
import Derived.Test.YtjakooihcbdcaaaDoorMCgd
import Derived.Test.YtjakooihcbdcaaaDoorMCha
set_option maxHeartbeats 16000000
namespace Go.Proofs.YtjakooihcbdcaaaDoor.Fo
open Go.ChangeShapes Go.WideShapes Go.ChangeAt Go.RowKit
set_option linter.unusedVariables false
set_option maxRecDepth 100000
theorem ix (T : ByteArray) (k : Nat) (c : UInt8) (h : T.data.toList[k]? = some c) (w : World) : (Instr.index 9 (.string T) (.int .i64 (k : Int))).run Tryd.prog w = .ok (.int .u8 (c.toNat : Int)) w:=by
  have hk : k < T.size:=by
    have:=(List.getElem?_eq_some_iff.1 h).1
    rw [sz_len] at this
    exact this
  rw [run_index_string w 9 T .i64 _ Tryd.underlying9,dif_pos ⟨by omega,by omega⟩]
  have e : T[k] = c:=by
    have h2:=(List.getElem?_eq_some_iff.1 h).2
    rw [← h2]
    rfl
  simp [e]
theorem lsP_ne {np : Nat} {F : Nat → Pd} (h : Sok np F) : lsP F np ≠ []:=by
  obtain ⟨z0,_,_⟩:=h.sz
  have h1 : ∀ p,lsP F (p + 1) = lsP F p ++ lsI p (F p).N (F p).n:=fun _=>rfl
  have h2 : ∀ p i,lsI p (F p).N (i + 1) = lsI p (F p).N i ++ lnI p i ((F p).N i):=fun _ _=>rfl
  have h3:=h.nz (np - 1) (by omega)
  intro e
  rw [show np = np - 1 + 1 by omega,h1,show (F (np - 1)).n = (F (np - 1)).n - 1 + 1 by omega,h2] at e
  have:=congrArg List.length e
  unfold lnI at this
  simp at this
theorem sp_dec' (n : Int) (h0 : -9223372036854775808 ≤ n) (h1 : n ≤ 9223372036854775807) (w : World) : Calls Tryd.prog 11 #[.int .i64 n] w fun e w'=>e = .returned (.string (itx n)) ∧ Kb 0 w w' :=
  (sp_dec n h0 h1 w).mono fun _ _ ⟨e,g⟩=>⟨e,Kb.of_grown g g.2.2 0⟩
theorem sp_listing {va : Value} {np : Nat} {F : Nat → Pd} (w : World) (ha : RowP 0 w va np F) (hb : Bd np F) :
    Calls Tryd.prog 5 #[.agg #[va]] w fun e w'=>∃ T,e = .returned (.string T) ∧ Lst np F T ∧ Kb 0 w w':=by
  obtain ⟨pa,ca,rfl,ha2⟩:=ha
  have hnI : (np : Int) ≤ 1048576:=by have:=hb.hnp;omega
  obtain ⟨i0,hi0,hz0,hz1,hz2⟩:=info_parts info5
  have HI0 : Hid (Tryd.prog.info? 5 = some i0):=hi0
  obtain ⟨w1,hw1⟩ : ∃ w1,w1 = w.alloc (.cells #[.slice pa np ca] 29):=⟨_,rfl⟩
  have k1 : Kb 0 w w1:=by rw [hw1];exact kb_alloc _ _ _
  have b1 : w1.cell? ⟨w.heap.size,0,none⟩ = some (.slice pa np ca):=by rw [hw1];exact cell_of (alloc_new _ _ _) rfl
  have HSH : Hid (Calls Tryd.prog 10 #[.agg #[.slice pa np ca]] w1 fun e w'=>∃ c f n : Nat,e = .returned (.agg #[.int .i64 (c : Int),.int .i64 (f : Int),.int .i64 (n : Int)]) ∧ Ans 7 np F c f n ∧ Kb 0 w1 w'):=sp_shape w1 (fun h=>by
    obtain ⟨a,e1,e2,e0,e3⟩:=ha2 h
    exact ⟨a,e1,e2,e0,fun i hi=>(e3 i hi).keep (Nat.zero_le _) k1⟩) hb
  have HR : Hid ((0 < np → ∃ A : Addr,pa = some A ∧ np ≤ ca ∧ 0 ≤ A.block ∧ ∀ i,i < np → ProC 0 w (A.add (i * 9)) (F i)) ∧ Bd np F ∧ Kb 0 w w1 ∧ w1.cell? ⟨w.heap.size,0,none⟩ = some (.slice pa np ca)):=(⟨ha2,hb,k1,b1⟩ : _ ∧ _)
  have HW1 : Hid (w1 = w.alloc (.cells #[.slice pa np ca] 29)):=hw1
  clear hi0 ha2 hb k1 b1 hw1
  go_enter Tryd.func5,Tryd.ntmps5
  go_wp2_with fail
  rw [← (show w1 = _ from HW1)]
  clear HW1
  refine (show Calls Tryd.prog 10 #[.agg #[.slice pa np ca]] w1 (fun e w'=>∃ c f n : Nat,e = .returned (.agg #[.int .i64 (c : Int),.int .i64 (f : Int),.int .i64 (n : Int)]) ∧ Ans 7 np F c f n ∧ Kb 0 w1 w') from HSH).mono ?_
  rintro e w2 ⟨c,f,n,rfl,hans,k2⟩
  clear HSH
  obtain ⟨ha2,hb,k1,b1⟩:=(show (0 < np → ∃ A : Addr,pa = some A ∧ np ≤ ca ∧ 0 ≤ A.block ∧ ∀ i,i < np → ProC 0 w (A.add (i * 9)) (F i)) ∧ Bd np F ∧ Kb 0 w w1 ∧ w1.cell? ⟨w.heap.size,0,none⟩ = some (.slice pa np ca) from HR)
  clear HR
  obtain ⟨w3,hw3⟩ : ∃ w3,w3 = w2.alloc (.cells #[.int .i64 (c : Int),.int .i64 (f : Int),.int .i64 (n : Int)] 35):=⟨_,rfl⟩
  have k3 : Kb 0 w w3:=by rw [hw3];exact (k1.trans k2).alloc _
  have b3 : w3.cell? ⟨w.heap.size,0,none⟩ = some (.slice pa np ca):=by rw [hw3];exact (k2.alloc _).cell b1
  have HW3 : Hid (w3 = w2.alloc (.cells #[.int .i64 (c : Int),.int .i64 (f : Int),.int .i64 (n : Int)] 35)):=hw3
  have HB3 : Hid (Kb 0 w w3 ∧ w3.cell? ⟨w.heap.size,0,none⟩ = some (.slice pa np ca)):=(⟨k3,b3⟩ : _ ∧ _)
  by_cases c0 : c = 0
  case neg =>
    have hc : ((c : Int) != 0) = true:=bne_iff_ne.2 (by omega)
    have HL : Hid (Lst np F ⟨#[]⟩):=(⟨c,f,n,hans,by rw [if_neg c0]⟩ : ∃ c f n,_ ∧ _)
    clear hw3 k1 k2 b1 ha2 hb hans c0 k3 b3
    go_wp2_with fail
    rw [← (show w3 = _ from HW3)]
    go_ret
    exact ⟨_,rfl,HL,HB3.1⟩
  subst c0
  have HL : Hid (Lst np F ⟨(lsP F np).toArray⟩):=(⟨0,f,n,hans,by rw [if_pos rfl]⟩ : ∃ c f n,_ ∧ _)
  have HXX : Hid ((0 < np → ∃ A : Addr,pa = some A ∧ np ≤ ca ∧ 0 ≤ A.block ∧ ∀ i,i < np → ProC 0 w (A.add (i * 9)) (F i)) ∧ Sok np F ∧ Bd np F ∧ Kb 0 w w3):=(⟨ha2,sok_of hans,hb,k3⟩ : _ ∧ _)
  clear hw3 k1 k2 b1 ha2 hb hans k3
  replace HW3 : Hid (w3 = w2.alloc (.cells #[.int .i64 0,.int .i64 (f : Int),.int .i64 (n : Int)] 35)):=HW3
  go_upto_region 5 with fail
  rw [← (show w3 = _ from HW3)]
  clear HW3
  go_wp2_with fail
  clear b3
  go_loopw [4,21] (fun s4 s21 wr=>∃ (p : Nat) (v : Value),p ≤ np ∧ s21 = .int .i64 (p : Int) ∧ v = s4 ∧ Hid (QK w3 (lsP F p) v wr)) (fun _ s21 _=>np - (intOf s21).toNat)
  case atStart=>exact ⟨0,_,by omega,rfl,rfl,qk_nil _⟩
  case round =>
    obtain ⟨p,v,hp,rfl,hv,HQ⟩:=hrel
    subst hv
    obtain ⟨ha2,hok,hb,k3⟩:=(show _ ∧ _ ∧ _ ∧ _ from HXX)
    have kr:=(show QK w3 (lsP F p) v wr from HQ).2
    by_cases hpn : p < np
    · have hI : (p : Int) < (np : Int):=by omega
      obtain ⟨a,rfl,hca,-,hrw⟩:=ha2 (by omega)
      obtain ⟨vu,vc,vn,vd,hcel,hvu,hvc,hvn,hvd⟩:=(hrw p hpn).keep (Nat.zero_le _) k3
      obtain ⟨d0,d1,d2,d3,d4,d5,d6,d7,d8⟩:=hcel.keep (Nat.zero_le _) kr
      obtain ⟨pu,cu,rfl,-⟩:=hvu
      obtain ⟨pc,cc,rfl,-⟩:=hvc
      have hvn2:=hvn
      obtain ⟨pn,cn,rfl,-⟩:=hvn
      obtain ⟨pm,cm,rfl,-⟩:=hvd
      have hlnI : ((F p).n : Int) ≤ 1048576:=by have:=hb.hn p hpn;omega
      obtain ⟨w6,hw6⟩ : ∃ w6,w6 = wr.alloc (.cells #[.string (F p).x,.int .i64 (F p).l,.int .i64 (F p).m,.bool (F p).r,.int .i64 (F p).g,.slice pu (F p).u cu,.slice pc (F p).c cc,.slice pn (F p).n cn,.slice pm (F p).d cm] 43):=⟨_,rfl⟩
      have k6 : Kb 0 wr w6:=by rw [hw6];exact kb_alloc _ _ _
      have HY : Hid (QK w3 (lsP F p ++ lsI p (F p).N 0) v w6):=by
        rw [show lsI p (F p).N 0 = [] from rfl,List.append_nil]
        exact (show QK w3 (lsP F p) v wr from HQ).call k6
      have HRI : Hid (RowI 0 w3 (.slice pn (F p).n cn) (F p).n (F p).N):=hvn2
      have HW6 : Hid (w6 = wr.alloc (.cells #[.string (F p).x,.int .i64 (F p).l,.int .i64 (F p).m,.bool (F p).r,.int .i64 (F p).g,.slice pu (F p).u cu,.slice pc (F p).c cc,.slice pn (F p).n cn,.slice pm (F p).d cm] 43)):=hw6
      have HHQ : Hid (Kb 0 w3 w6):=(kr.trans k6)
      clear hw6 k6 hvn2 kr k3 ha2 hok hb hrw HQ hcel
      go_wp2_with fail
      rw [← (show w6 = _ from HW6)]
      clear HW6 d0 d1 d2 d3 d4 d5 d6 d7 d8
      go_loopw [4,29] (fun s4 s29 wr=>∃ (j : Nat) (v : Value),j ≤ (F p).n ∧ s29 = .int .i64 (j : Int) ∧ v = s4 ∧ Hid (QK w3 (lsP F p ++ lsI p (F p).N j) v wr)) (fun _ s29 _=>(F p).n - (intOf s29).toNat)
      case atStart=>exact ⟨0,_,by omega,rfl,rfl,HY⟩
      case round =>
        clear HY
        obtain ⟨j,v,hj,rfl,hv,HY⟩:=hrel
        subst hv
        have hq:=(show QK w3 (lsP F p ++ lsI p (F p).N j) v wr from HY)
        have hri : RowI 0 wr (.slice pn (F p).n cn) (F p).n (F p).N:=(show RowI 0 w3 (.slice pn (F p).n cn) (F p).n (F p).N from HRI).keep hq.2
        obtain ⟨ha2,hok,hb,k3⟩:=(show _ ∧ _ ∧ _ ∧ _ from HXX)
        by_cases hjn : j < (F p).n
        · have hJ : (j : Int) < ((F p).n : Int):=by omega
          have hish:=hok.ish hpn hjn
          obtain ⟨pn',cn',e1,hr2⟩:=id hri
          obtain ⟨rfl,-,rfl⟩ : pn = pn' ∧ (F p).n = (F p).n ∧ cn = cn':=by simpa using e1
          obtain ⟨b,rfl,hcb,-,hrb⟩:=hr2 (by omega)
          obtain ⟨q0,q1,q2,q3,q4⟩:=hrb j hjn
          obtain ⟨oo,hoo⟩ : ∃ oo : Nat,((F p).N j).o = (oo : Int):=⟨((F p).N j).o.toNat,by have:=hish.o1;omega⟩
          rw [hoo] at q0
          obtain ⟨w7,hw7⟩ : ∃ w7,w7 = wr.alloc (.cells #[.int .i64 (oo : Int),.int .i64 ((F p).N j).a,.int .i64 ((F p).N j).b,.int .i64 ((F p).N j).c,.int .i64 ((F p).N j).d] 45):=⟨_,rfl⟩
          have k7 : Kb 0 wr w7:=by rw [hw7];exact kb_alloc _ _ _
          have b7 : w7.heap[wr.heap.size]? = some (.cells #[.int .i64 (oo : Int),.int .i64 ((F p).N j).a,.int .i64 ((F p).N j).b,.int .i64 ((F p).N j).c,.int .i64 ((F p).N j).d] 45 (0,0)):=by rw [hw7];exact alloc_new _ _ _
          obtain ⟨g7,hg7⟩ : ∃ g7,g7 = wr.heap.size:=⟨_,rfl⟩
          rw [← hg7] at b7
          have HG7 : Hid (g7 = wr.heap.size):=hg7
          have HW7 : Hid (w7 = wr.alloc (.cells #[.int .i64 (oo : Int),.int .i64 ((F p).N j).a,.int .i64 ((F p).N j).b,.int .i64 ((F p).N j).c,.int .i64 ((F p).N j).d] 45)):=hw7
          have ei : ∀ q : KW w7,q.w.cell? ⟨g7,0,none⟩ = some (.int .i64 (oo : Int)):=fun q=>q.k.cell (cell_of b7 rfl)
          have C1 : ∀ q : KW w7,Calls Tryd.prog 11 #[.int .i64 (p : Int)] q.w fun e w'=>e = .returned (.string (itx (p : Int))) ∧ ∃ r : KW w7,w' = r.w:=fun q=>(sp_dec' _ (by omega) (by omega) q.w).mono fun _ w' ⟨e,k⟩=>⟨e,⟨w',q.k.trans k⟩,rfl⟩
          have C2 : ∀ q : KW w7,Calls Tryd.prog 11 #[.int .i64 (j : Int)] q.w fun e w'=>e = .returned (.string (itx (j : Int))) ∧ ∃ r : KW w7,w' = r.w:=fun q=>(sp_dec' _ (by omega) (by omega) q.w).mono fun _ w' ⟨e,k⟩=>⟨e,⟨w',q.k.trans k⟩,rfl⟩
          have ho43 : oo < 43:=by have:=hish.o2;omega
          have C3 : ∀ q : KW w7,Calls Tryd.prog 12 #[.int .i64 (oo : Int)] q.w fun e w'=>e = .returned (.string (opn oo)) ∧ ∃ r : KW w7,w' = r.w:=fun q=>(sp_name oo ho43 q.w).mono fun _ w' ⟨e,k⟩=>⟨e,⟨w',q.k.trans k⟩,rfl⟩
          have hne : Nonempty (KW w7):=⟨⟨w7,Kb.refl _ _⟩⟩
          have z1:=itx_len (p : Int) (by omega) (by omega)
          have z2:=itx_len (j : Int) (by omega) (by omega)
          have z3:=opn_len oo ho43
          have HL0 : Hid (lnj p j ((F p).N j) 0 = (((itx (p : Int) ++ ⟨#[58]⟩) ++ itx (j : Int)) ++ ⟨#[32]⟩) ++ opn oo):=by
            show ln0 p j ((F p).N j).o.toNat = _
            rw [hoo];rfl
          have HQ7 : Hid (Ish ((F p).N j) ∧ ((F p).N j).o = (oo : Int) ∧ w7.heap[g7]? = some (.cells #[.int .i64 (oo : Int),.int .i64 ((F p).N j).a,.int .i64 ((F p).N j).b,.int .i64 ((F p).N j).c,.int .i64 ((F p).N j).d] 45 (0,0)) ∧ QK w3 (lsP F p ++ lsI p (F p).N j) v w7 ∧ (lsP F p ++ lsI p (F p).N j).length ≤ 400000000):=(⟨hish,hoo,b7,hq.call k7,by
            obtain ⟨-,-,z6⟩:=hok.sz
            have y1:=lsP_len hb.hnp hb.hn (fun p hp j hj=>hok.ish hp hj) p (by omega)
            have y2:=lsI_len (p:=p) (N:=(F p).N) (by omega) j (by omega) (fun i hi=>hok.ish hpn (by omega))
            have y3:=sm_mono (fun i=>(F i).n) hp
            rw [List.length_append]
            omega⟩ : _ ∧ _)
          clear hq hri hr2 hrb b7 hg7 hw7 k7 hish ha2 hok hb k3 hoo ho43 HY HXX
          generalize itx (p : Int) = IP at *
          generalize itx (j : Int) = IJ at *
          generalize opn oo = ON at *
          have u1 : ¬ 9223372036854775807 < IP.size + 1:=by omega
          have u2 : ¬ 9223372036854775807 < IP.size + 1 + IJ.size:=by omega
          have u3 : ¬ 9223372036854775807 < IP.size + 1 + IJ.size + 1:=by omega
          have u4 : ¬ 9223372036854775807 < IP.size + 1 + IJ.size + 1 + ON.size:=by omega
          go_upto_region 11 with fail
          rw [← (show w7 = _ from HW7)]
          try rw [← (show g7 = _ from HG7)]
          clear HW7 HG7 q0 q1 q2 q3 q4
          refine wp_region_kb (by kernel_rfl) (by kernel_rfl) ?_
          go_big_quiet_step ((fail))
          go_big_quiet_step ((go_at_call 11;exact C1 _))
          go_big_quiet_step ((fail))
          go_big_quiet_step ((fail))
          go_big_quiet_step ((go_at_call 11;exact C2 _))
          go_big_quiet_step ((fail))
          go_big_quiet_step ((fail))
          go_big_quiet_step ((fail))
          go_big_quiet_step ((fail))
          go_big_quiet_step ((go_at_call 12;exact C3 _))
          go_big_quiet_step ((fail))
          go_big_quiet_step ((fail))
          refine wpQuiet_nil ?_
          intro w8 hw'
          have k8 : Kb 0 w7 w8:=by
            obtain ⟨q,hq⟩:=hw'
            rw [hq]
            exact q.k
          rw [← (show lnj p j ((F p).N j) 0 = _ from HL0)]
          clear hw' C1 C2 C3 ei hne HL0 u1 u2 u3 u4 z1 z2 z3
          obtain ⟨hish,hoo,b7,hq,hle⟩:=(show _ ∧ _ ∧ _ ∧ _ ∧ _ from HQ7)
          clear HQ7
          have m0 : w8.cell? ⟨g7,0,none⟩ = some (.int .i64 (oo : Int)):=k8.cell (cell_of b7 rfl)
          have m1 : w8.cell? ⟨g7,1,none⟩ = some (.int .i64 ((F p).N j).a):=k8.cell (cell_of b7 rfl)
          have m2 : w8.cell? ⟨g7,2,none⟩ = some (.int .i64 ((F p).N j).b):=k8.cell (cell_of b7 rfl)
          have m3 : w8.cell? ⟨g7,3,none⟩ = some (.int .i64 ((F p).N j).c):=k8.cell (cell_of b7 rfl)
          have m4 : w8.cell? ⟨g7,4,none⟩ = some (.int .i64 ((F p).N j).d):=k8.cell (cell_of b7 rfl)
          obtain ⟨w9,hw9⟩ : ∃ w9,w9 = (w8.alloc (.cells #[.int .i64 (oo : Int),.int .i64 ((F p).N j).a,.int .i64 ((F p).N j).b,.int .i64 ((F p).N j).c,.int .i64 ((F p).N j).d] 45)).alloc (.cells #[.int .i64 ((F p).N j).a,.int .i64 ((F p).N j).b,.int .i64 ((F p).N j).c,.int .i64 ((F p).N j).d] 3):=⟨_,rfl⟩
          obtain ⟨-,b9,-,k9⟩:=two_new w8 _ _ _ _ w9 hw9
          have HF : Hid (Calls Tryd.prog 13 #[.agg #[.int .i64 (oo : Int),.int .i64 ((F p).N j).a,.int .i64 ((F p).N j).b,.int .i64 ((F p).N j).c,.int .i64 ((F p).N j).d]] w8 fun e w'=>e = .returned (.slice (some ⟨w8.heap.size + 1,0,none⟩) 4 4) ∧ w' = w9):=by
            have:=sp_fields ((F p).N j) w8
            unfold insv at this
            rw [hoo] at this
            rw [hw9]
            exact this
          obtain ⟨g9,hg9⟩ : ∃ g9,g9 = w8.heap.size + 1:=⟨_,rfl⟩
          rw [← hg9] at b9 HF
          have HQ9 : Hid (QK w3 (lsP F p ++ lsI p (F p).N j) v w9 ∧ (lsP F p ++ lsI p (F p).N j).length ≤ 400000000 ∧ Ish ((F p).N j)):=(⟨(hq.call k8).call k9,hle,hish⟩ : _ ∧ _)
          have HB9 : Hid (∀ i,i < 4 → w9.cell? ⟨g9,i,none⟩ = some (.int .i64 (fld ((F p).N j) i))):=(fun i hi=>by
            rcases (by omega : i = 0 ∨ i = 1 ∨ i = 2 ∨ i = 3) with rfl | rfl | rfl | rfl <;> exact cell_of b9 rfl : ∀ i,_)
          clear hw9 b9 k9 hg9 b7 hq k8 hle
          go_wp2_with fail
          refine (show Calls Tryd.prog 13 #[.agg #[.int .i64 (oo : Int),.int .i64 ((F p).N j).a,.int .i64 ((F p).N j).b,.int .i64 ((F p).N j).c,.int .i64 ((F p).N j).d]] w8 (fun e w'=>e = .returned (.slice (some ⟨g9,0,none⟩) 4 4) ∧ w' = w9) from HF).mono ?_
          rintro e w9' ⟨rfl,hw9'⟩
          rw [hw9']
          clear hw9' w9' HF m0 m1 m2 m3 m4
          have hpI : p ≤ 1048576:=by omega
          have hjI : j ≤ 1048576:=by omega
          go_wp2_with fail
          go_loopw [9,48] (fun s9 s48 wr=>∃ f : Nat,f ≤ 4 ∧ s48 = .int .i64 (f : Int) ∧ s9 = .string (lnj p j ((F p).N j) f) ∧ Hid (Kb 0 w9 wr)) (fun _ s48 _=>4 - (intOf s48).toNat)
          case atStart=>exact ⟨0,by omega,rfl,rfl,Kb.refl _ _⟩
          case round =>
            obtain ⟨f,hf,rfl,rfl,HK⟩:=hrel
            by_cases hf4 : f < 4
            · have hfI : (f : Int) < 4:=by omega
              have hfn : ¬ (f : Int) < 0:=by omega
              have cc1 : wr.cell? ⟨g9,f,none⟩ = some (.int .i64 (fld ((F p).N j) f)):=(show Kb 0 w9 wr from HK).cell ((show ∀ i,i < 4 → _ from HB9) f hf4)
              have hfl:=hish.f f hf4
              have HC:=sp_dec' (fld ((F p).N j) f) hfl.1 hfl.2 wr
              have z1:=itx_len (fld ((F p).N j) f) hfl.1 hfl.2
              have z2:=lnj_len hpI hjI hish f hf
              have HE : Hid (lnj p j ((F p).N j) (f + 1) = lnj p j ((F p).N j) f ++ (⟨#[32]⟩ ++ itx (fld ((F p).N j) f))):=(rfl : lnj p j ((F p).N j) (f + 1) = _)
              generalize lnj p j ((F p).N j) f = L1 at *
              generalize itx (fld ((F p).N j) f) = X1 at *
              generalize fld ((F p).N j) f = xf at *
              have u1 : ¬ 9223372036854775807 < 1 + X1.size:=by omega
              have u2 : ¬ 9223372036854775807 < L1.size + (1 + X1.size):=by omega
              clear hfl HQ9 HB9 z1 z2 hish
              go_wp2_with fail
              refine HC.mono ?_
              rintro e w10 ⟨rfl,k10⟩
              have HK2 : Hid (Kb 0 w9 w10):=(show Kb 0 w9 wr from HK).trans k10
              clear HC k10 HK cc1
              go_wp2_with fail
              go_roundw
              case rel=>exact ⟨f + 1,by omega,by go_num,by rw [show lnj p j ((F p).N j) (f + 1) = _ from HE],HK2⟩
              case measure=>simp [intOf];omega
            · obtain rfl : f = 4:=by omega
              have hfI : ¬ (4 : Int) < 4:=by omega
              obtain ⟨hq,hle,-⟩:=(show _ ∧ _ ∧ _ from HQ9)
              have z2:=lnj_len hpI hjI hish 4 (by omega)
              have HE : Hid (lnI p j ((F p).N j) = (lnj p j ((F p).N j) 4).data.toList ++ [10]):=(rfl : lnI p j ((F p).N j) = _)
              have hk9:=(show Kb 0 w9 wr from HK)
              generalize lnj p j ((F p).N j) 4 = LL at *
              have HBY : Hid (∀ k,k ≤ LL.size → QK w3 ((lsP F p ++ lsI p (F p).N j) ++ LL.data.toList.take 0) v wr):=(fun k _=>by rw [List.take_zero,List.append_nil];exact hq.call hk9 : ∀ k,_)
              have hLI : (LL.size : Int) ≤ 150:=by omega
              clear hq HQ9 HB9 HK hk9 hish z2
              go_wp2_with fail
              go_loopw [4,12] (fun s4 s12 wr=>∃ (k : Nat) (v : Value),k ≤ LL.size ∧ s12 = .int .i64 (k : Int) ∧ v = s4 ∧ Hid (QK w3 ((lsP F p ++ lsI p (F p).N j) ++ LL.data.toList.take k) v wr)) (fun _ s12 _=>LL.size - (intOf s12).toNat)
              case atStart=>exact ⟨0,_,by omega,rfl,rfl,(show ∀ k,k ≤ LL.size → _ from HBY) 0 (by omega)⟩
              case round =>
                clear HBY
                obtain ⟨k,v,hk,rfl,hv,HB⟩:=hrel
                subst hv
                have hq:=(show QK w3 ((lsP F p ++ lsI p (F p).N j) ++ LL.data.toList.take k) v wr from HB)
                have hlen : ((lsP F p ++ lsI p (F p).N j) ++ LL.data.toList.take k).length ≤ 400000200:=by
                  rw [List.length_append,List.length_take]
                  omega
                by_cases hkl : k < LL.size
                · have hkI : (k : Int) < (LL.size : Int):=by omega
                  have hkc : LL.data.toList[k]? = some (LL.data.toList[k]'(by rw [sz_len];exact hkl)):=List.getElem?_eq_getElem _
                  obtain ⟨c,hcc⟩ : ∃ c,c = LL.data.toList[k]'(by rw [sz_len];exact hkl):=⟨_,rfl⟩
                  rw [← hcc] at hkc
                  have hix:=ix LL k c hkc
                  have htk : LL.data.toList.take (k + 1) = LL.data.toList.take k ++ [c]:=by
                    rw [List.take_add_one,hkc]
                    rfl
                  obtain ⟨pre,hpre⟩ : ∃ pre,pre = (lsP F p ++ lsI p (F p).N j) ++ LL.data.toList.take k:=⟨_,rfl⟩
                  rw [← hpre] at hq hlen
                  have HADD : Hid (∀ (o : Obj) (v' : Value) (w5 : World),w5.ownsRow w3.heap.size 5 1 v' (pre.length + 1) (Lib.byteCells pre ++ Lib.byteCells [c]) → (wr.alloc o).grownBy w5 v.ownBlock → QK w3 ((lsP F p ++ lsI p (F p).N j) ++ LL.data.toList.take (k + 1)) v' w5):=(fun o v' w5 ho hg=>by
                    have h1:=(hq.call (kb_alloc 0 wr o)).add (m:=[c]) rfl ho hg
                    rw [htk,← List.append_assoc,← hpre]
                    exact h1 : ∀ (o : Obj),_)
                  have howna : ∀ o : Obj,(wr.alloc o).ownsRow w3.heap.size 5 1 v pre.length (Lib.byteCells pre):=fun o=>hq.1.alloc o
                  have hsz:=hq.2.size
                  clear hq HB hkc hcc htk hpre HL hle
                  go_wp2_with (at_builtin;refine wpList_append_own _ rfl (.tmp 64) (.tmp 68) 37 rfl w3.heap.size 5 i0 (.int .u8 0) 1 1 Tryd.underlying37 HI0 hz0 hz1 hz2 rfl (by decide) _ _ _ rfl (howna _) ⟨wr.heap.size,0,none⟩ 1 1 (Lib.byteCells [c]) rfl rfl (qr_cells wr #[.int .u8 (c.toNat : Int)] 5 _ rfl) (bc_one [c]) (by unfold maxLen;omega) (by omega) (by simp;omega) ?_;intro v' w5 hown1 hgrow1 _)
                  have HN:=(show ∀ (o : Obj) (v' : Value) (w5 : World),w5.ownsRow w3.heap.size 5 1 v' (pre.length + 1) (Lib.byteCells pre ++ Lib.byteCells [c]) → (wr.alloc o).grownBy w5 v.ownBlock → _ from HADD) _ _ _ hown1 hgrow1
                  have HN2 : Hid (QK w3 ((lsP F p ++ lsI p (F p).N j) ++ LL.data.toList.take (k + 1)) v' w5):=HN
                  clear HADD hown1 hgrow1 howna HN hix
                  go_wp2_with fail
                  go_roundw
                  case rel=>exact ⟨k + 1,v',by omega,by go_num,rfl,HN2⟩
                  case measure=>simp [intOf];omega
                · obtain rfl : k = LL.size:=by omega
                  have hkI : ¬ (LL.size : Int) < (LL.size : Int):=by omega
                  obtain ⟨pre,hpre⟩ : ∃ pre,pre = (lsP F p ++ lsI p (F p).N j) ++ LL.data.toList.take LL.size:=⟨_,rfl⟩
                  rw [← hpre] at hq hlen
                  have hp2 : pre = (lsP F p ++ lsI p (F p).N j) ++ LL.data.toList:=by
                    rw [hpre,← sz_len,List.take_length]
                  have HADD : Hid (∀ (o : Obj) (v' : Value) (w5 : World),w5.ownsRow w3.heap.size 5 1 v' (pre.length + 1) (Lib.byteCells pre ++ Lib.byteCells [10]) → (wr.alloc o).grownBy w5 v.ownBlock → QK w3 (lsP F p ++ lsI p (F p).N (j + 1)) v' w5):=(fun o v' w5 ho hg=>by
                    have h1:=(hq.call (kb_alloc 0 wr o)).add (m:=[10]) rfl ho hg
                    rw [show lsI p (F p).N (j + 1) = lsI p (F p).N j ++ lnI p j ((F p).N j) from rfl,show lnI p j ((F p).N j) = _ from HE,← List.append_assoc,← List.append_assoc,← hp2]
                    exact h1 : ∀ (o : Obj),_)
                  have howna : ∀ o : Obj,(wr.alloc o).ownsRow w3.heap.size 5 1 v pre.length (Lib.byteCells pre):=fun o=>hq.1.alloc o
                  have hsz:=hq.2.size
                  clear hq HB hpre hp2 HL hle HE
                  go_wp2_with (at_builtin;refine wpList_append_own _ rfl (.tmp 70) (.tmp 71) 37 rfl w3.heap.size 5 i0 (.int .u8 0) 1 1 Tryd.underlying37 HI0 hz0 hz1 hz2 rfl (by decide) _ _ _ rfl (howna _) ⟨wr.heap.size,0,none⟩ 1 1 (Lib.byteCells [10]) rfl rfl (qr_cells wr #[.int .u8 10] 5 _ rfl) (bc_one [10]) (by unfold maxLen;omega) (by omega) (by simp;omega) ?_;intro v' w5 hown1 hgrow1 _)
                  have HN:=(show ∀ (o : Obj) (v' : Value) (w5 : World),w5.ownsRow w3.heap.size 5 1 v' (pre.length + 1) (Lib.byteCells pre ++ Lib.byteCells [10]) → (wr.alloc o).grownBy w5 v.ownBlock → _ from HADD) _ _ _ hown1 hgrow1
                  have HN2 : Hid (QK w3 (lsP F p ++ lsI p (F p).N (j + 1)) v' w5):=HN
                  clear HADD hown1 hgrow1 howna HN
                  go_wp2_with fail
                  go_roundw
                  case rel=>exact ⟨j + 1,v',by omega,by go_num,rfl,HN2⟩
                  case measure=>simp [intOf];omega
        · obtain rfl : j = (F p).n:=by omega
          have hJ : ¬ ((F p).n : Int) < ((F p).n : Int):=by omega
          have HN : Hid (QK w3 (lsP F (p + 1)) v wr):=hq
          clear hq hri ha2 hok hb k3 HY HXX HL
          go_wp2_with fail
          go_roundw
          case rel=>exact ⟨p + 1,v,by omega,by go_num,rfl,HN⟩
          case measure=>simp [intOf];omega
    · obtain rfl : p = np:=by omega
      have hI : ¬ (p : Int) < (p : Int):=by omega
      have hcv:=conv_row (lsP_ne hok) HQ
      have HB : Hid (Kb 0 w wr):=k3.trans kr
      clear ha2 hok hb k3 kr HQ HXX
      go_wp2_with fail
      go_ret
      exact ⟨_,rfl,HL,HB⟩
end Go.Proofs.YtjakooihcbdcaaaDoor.Fo
