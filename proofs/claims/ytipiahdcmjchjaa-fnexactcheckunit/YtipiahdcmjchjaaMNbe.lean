import Derived.Test.YtipiahdcmjchjaaMNbd
import Derived.Deep.RegionHeldLaw
set_option maxHeartbeats 8000000
namespace Go.Proofs.Ytipiahdcmjchjaa.Fo
open Go.ChangeShapes Go.WideShapes Go.ChangeAt Go.RowKit
set_option linter.unusedVariables false
set_option maxRecDepth 100000
theorem to_ups {va : Value} {n : Nat} {U : Nat → Bool × Int} (w : World) (ha : RowU 0 w va n U) (hn : n ≤ 1048576)  :
    Calls Try.prog 64 #[va] w fun e w'=>∃ v,e = .returned v ∧ RowU w.heap.size w' v n U ∧ Kb 0 w w':=by
  obtain ⟨pa,ca,rfl,ha2⟩:=ha
  have hnI : (n : Int) ≤ 1048576:=by omega
  have hmk:=run_make (P:=Try.prog) w 67 108 Try.t108 (.agg #[.bool false,.int .i64 0]) Try.underlying67 (by kernel_rfl) (by kernel_rfl) .i64 .i64 (n : Int) (n : Int) (by omega) (Int.le_refl _) (by show (16 : Int) * (n : Int) ≤ _;omega) (by omega)
  rw [Int.toNat_natCast] at hmk
  obtain ⟨w1,hw1⟩ : ∃ w1,w1 = w.alloc (.cells (madeCells (.agg #[.bool false,.int .i64 0] : Value).cells (n * 2)) 108):=⟨_,rfl⟩
  have hmk2:=hmk
  rw [show n * Try.t108.size = n * 2 from rfl,← hw1] at hmk2
  clear hmk
  have hk1 : Kb 0 w w1:=by rw [hw1];exact kb_alloc _ _ _
  obtain ⟨G,hG⟩ : ∃ G,G = w.heap.size:=⟨_,rfl⟩
  have HI0 : Hid (∃ E : Nat → List Value,Mk 2 w1 G n E 0 w1 ∧ ∀ j,j < 0 → E j = [.bool (U j).1,.int .i64 (U j).2]):=by
    refine ⟨fun _=>[],?_,fun j hj=>by omega⟩
    rw [hG,hw1]
    exact mk_zero w _ 2 _ n _ rfl
  have HA : Hid ((0 < n → ∃ a : Addr,pa = some a ∧ n ≤ ca ∧ 0 ≤ a.block ∧ ∀ i,i < n → UpC 0 w (a.add (i * 2)) (U i)) ∧ Kb 0 w w1 ∧ G = w.heap.size):=(⟨ha2,hk1,hG⟩ : _ ∧ _)
  rw [← hG] at hmk2
  clear ha2 hk1 hw1 hn hG
  go_enter Try.func64,Try.ntmps64
  go_wp2_with fail
  go_loopw [4] (fun s4 wr=>∃ i : Nat,s4 = .int .i64 (i : Int) ∧ i ≤ n ∧ Hid (∃ E : Nat → List Value,Mk 2 w1 G n E i wr ∧ ∀ j,j < i → E j = [.bool (U j).1,.int .i64 (U j).2])) (fun s4 _=>n - (intOf s4).toNat)
  case atStart=>exact ⟨0,rfl,Nat.zero_le _,HI0⟩
  case round =>
    clear HI0 hmk2
    obtain ⟨i,rfl,hin,HI⟩:=hrel
    obtain ⟨E,hM,hR⟩:=(show ∃ E : Nat → List Value,Mk 2 w1 G n E i wr ∧ ∀ j,j < i → E j = [.bool (U j).1,.int .i64 (U j).2] from HI)
    have hA:=(show (0 < n → ∃ a : Addr,pa = some a ∧ n ≤ ca ∧ 0 ≤ a.block ∧ ∀ i,i < n → UpC 0 w (a.add (i * 2)) (U i)) ∧ Kb 0 w w1 ∧ G = w.heap.size from HA)
    have hBW : Kb 0 w wr:=by
      have hG:=hA.2.2
      have hA2:=hA.2.1
      exact ⟨hM.os.trans hA2.os,hM.output.trans hA2.output,Nat.le_trans hA2.size hM.size,fun b _ hb=>(hM.block b (Nat.lt_of_lt_of_le hb hA2.size) (by omega)).trans (hA2.block b (Nat.zero_le _) hb)⟩
    rcases Nat.lt_or_ge i n with hi | hi
    · have hiI : (i : Int) < (n : Int):=by omega
      obtain ⟨a,rfl,hca,_,hra⟩:=hA.1 (by omega)
      obtain ⟨d0,d1⟩:=(hra i hi).keep (Nat.zero_le _) hBW
      have HT : Hid (Calls Try.prog 86 #[upv (U i)] wr fun e w'=>e = .returned (upv (U i)) ∧ Kb 0 wr w'):=to_up (U i) wr
      have HS : Hid (∀ w6 ,Kb 0 wr w6 → (∀ t,t < 2 → ∃ u,w6.cell? ⟨G,i * 2 + t,none⟩ = some u) ∧ (∀ j,w6.frozen? ⟨G,j,none⟩ = false) ∧ ∃ E : Nat → List Value,Mk 2 w1 G n E (i + 1) (setL w6 G (i * 2) [.bool (U i).1,.int .i64 (U i).2]) ∧ ∀ j,j < i + 1 → E j = [.bool (U j).1,.int .i64 (U j).2]):=by
        show ∀ w6 ,_
        intro w6  k6
        have h6:=hM.kb k6
        have hgl:=Nat.lt_of_lt_of_le hM.gl hM.size
        have kl : Kb (G + 1) w6 (setL w6 G (i * 2) [.bool (U i).1,.int .i64 (U i).2]):=⟨(setL_os _ _ _ _).1,(setL_os _ _ _ _).2,by rw [setL_size];exact Nat.le_refl _,fun k h1 _=>setL_block _ _ (by omega) _ _ _⟩
        refine ⟨h6.rest i (Nat.le_refl _) hi,h6.fz,_,h6.step hi rfl,fun j hj=>?_⟩
        by_cases e : j = i
        · subst e
          exact if_pos rfl
        · rw [if_neg e]
          exact hR j (by omega)
      clear hA HA hM hR HI hra hin hBW
      go_wp2_with fail
      refine (show Calls Try.prog 86 #[upv (U i)] wr fun e w'=>e = .returned (upv (U i)) ∧ Kb 0 wr w' from HT).mono ?_
      rintro e w6 ⟨rfl,k6⟩
      obtain ⟨hc,hf,hT⟩:=(show ∀ w6 ,_ from HS) w6 k6
      have HTT : Hid (∃ E : Nat → List Value,Mk 2 w1 G n E (i + 1) (setL w6 G (i * 2) [.bool (U i).1,.int .i64 (U i).2]) ∧ ∀ j,j < i + 1 → E j = [.bool (U j).1,.int .i64 (U j).2]):=hT
      obtain ⟨u0,h0⟩:=hc 0 (by omega)
      obtain ⟨u1,h1⟩:=hc 1 (by omega)
      rw [Nat.add_zero] at h0
      have e0:=hf (i * 2)
      have e1:=hf (i * 2 + 1)
      clear hc hf hT HS HT
      skip
      clear k6 d0 d1
      unfold upv
      go_wp2_with fail
      go_roundw
      case rel=>exact ⟨i + 1,by go_num,by omega,HTT⟩
      case measure=>simp [intOf];omega
    · obtain rfl : i = n:=by omega
      have HE : Hid (Mk 2 w1 G i E i wr ∧ (∀ j,j < i → E j = [.bool (U j).1,.int .i64 (U j).2]) ∧ Kb 0 w wr ∧ G = w.heap.size):=(⟨hM,hR,hBW,hA.2.2⟩ : _ ∧ _ ∧ _ ∧ _)
      clear HI hM hR hA HA hBW
      go_wp2_with fail
      go_ret
      obtain ⟨hM,hR,hB,hG⟩:=(show Mk 2 w1 G i E i wr ∧ (∀ j,j < i → E j = [.bool (U j).1,.int .i64 (U j).2]) ∧ Kb 0 w wr ∧ G = w.heap.size from HE)
      refine ⟨_,rfl,⟨_,_,rfl,fun _=>⟨⟨G,0,none⟩,rfl,Nat.le_refl _,(by show w.heap.size ≤ G;omega),fun j hj=>?_⟩⟩,hB⟩
      rw [addr0]
      have hce:=hM.ce j hj
      rw [hR j hj] at hce
      exact CelU.of hce
theorem to_nodes {va : Value} {n : Nat} {N : Nat → Nd} (w : World) (ha : RowN 0 w va n N) (hn : n ≤ 1048576) (hN : ∀ i, i < n → (N i).p ≤ 1048576 ∧ (N i).q ≤ 1048576) :
    Calls Try.prog 65 #[va] w fun e w'=>∃ v,e = .returned v ∧ RowN w.heap.size w' v n N ∧ Kb 0 w w':=by
  obtain ⟨pa,ca,rfl,ha2⟩:=ha
  have hnI : (n : Int) ≤ 1048576:=by omega
  have hmk:=run_make (P:=Try.prog) w 68 79 Try.t79 (.agg #[.int .i64 0,.int .i64 0,.int .i64 0,.int .i64 0,.float .f64 0,.string ⟨#[]⟩,.slice none 0 0,.slice none 0 0]) Try.underlying68 (by kernel_rfl) (by kernel_rfl) .i64 .i64 (n : Int) (n : Int) (by omega) (Int.le_refl _) (by show (104 : Int) * (n : Int) ≤ _;omega) (by omega)
  rw [Int.toNat_natCast] at hmk
  obtain ⟨w1,hw1⟩ : ∃ w1,w1 = w.alloc (.cells (madeCells (.agg #[.int .i64 0,.int .i64 0,.int .i64 0,.int .i64 0,.float .f64 0,.string ⟨#[]⟩,.slice none 0 0,.slice none 0 0] : Value).cells (n * 8)) 79):=⟨_,rfl⟩
  have hmk2:=hmk
  rw [show n * Try.t79.size = n * 8 from rfl,← hw1] at hmk2
  clear hmk
  have hk1 : Kb 0 w w1:=by rw [hw1];exact kb_alloc _ _ _
  obtain ⟨G,hG⟩ : ∃ G,G = w.heap.size:=⟨_,rfl⟩
  have HI0 : Hid (∃ E : Nat → List Value,Mk 8 w1 G n E 0 w1 ∧ ∀ j,j < 0 → ∃ vr vk,E j = [.int .i64 (N j).a.k,.int .i64 (N j).a.l,.int .i64 (N j).a.o,.int .i64 (N j).a.m,.float .f64 (N j).a.g,.string (N j).a.x,vr,vk] ∧ RowB (G + 1) w1 vr (N j).p (fun t=>.int .i64 ((N j).R t)) ∧ RowB (G + 1) w1 vk (N j).q (fun t=>.int .i64 ((N j).K t))):=by
    refine ⟨fun _=>[],?_,fun j hj=>by omega⟩
    rw [hG,hw1]
    exact mk_zero w _ 8 _ n _ rfl
  have HA : Hid ((0 < n → ∃ a : Addr,pa = some a ∧ n ≤ ca ∧ 0 ≤ a.block ∧ ∀ i,i < n → NodeC 0 w (a.add (i * 8)) (N i)) ∧ Kb 0 w w1 ∧ G = w.heap.size ∧ (∀ i,i < n → (N i).p ≤ 1048576 ∧ (N i).q ≤ 1048576)):=(⟨ha2,hk1,hG,hN⟩ : _ ∧ _)
  rw [← hG] at hmk2
  clear ha2 hk1 hw1 hn hG hN
  go_enter Try.func65,Try.ntmps65
  go_wp2_with fail
  go_loopw [4] (fun s4 wr=>∃ i : Nat,s4 = .int .i64 (i : Int) ∧ i ≤ n ∧ Hid (∃ E : Nat → List Value,Mk 8 w1 G n E i wr ∧ ∀ j,j < i → ∃ vr vk,E j = [.int .i64 (N j).a.k,.int .i64 (N j).a.l,.int .i64 (N j).a.o,.int .i64 (N j).a.m,.float .f64 (N j).a.g,.string (N j).a.x,vr,vk] ∧ RowB (G + 1) wr vr (N j).p (fun t=>.int .i64 ((N j).R t)) ∧ RowB (G + 1) wr vk (N j).q (fun t=>.int .i64 ((N j).K t)))) (fun s4 _=>n - (intOf s4).toNat)
  case atStart=>exact ⟨0,rfl,Nat.zero_le _,HI0⟩
  case round =>
    clear HI0 hmk2
    obtain ⟨i,rfl,hin,HI⟩:=hrel
    obtain ⟨E,hM,hR⟩:=(show ∃ E : Nat → List Value,Mk 8 w1 G n E i wr ∧ ∀ j,j < i → ∃ vr vk,E j = [.int .i64 (N j).a.k,.int .i64 (N j).a.l,.int .i64 (N j).a.o,.int .i64 (N j).a.m,.float .f64 (N j).a.g,.string (N j).a.x,vr,vk] ∧ RowB (G + 1) wr vr (N j).p (fun t=>.int .i64 ((N j).R t)) ∧ RowB (G + 1) wr vk (N j).q (fun t=>.int .i64 ((N j).K t)) from HI)
    have hA:=(show (0 < n → ∃ a : Addr,pa = some a ∧ n ≤ ca ∧ 0 ≤ a.block ∧ ∀ i,i < n → NodeC 0 w (a.add (i * 8)) (N i)) ∧ Kb 0 w w1 ∧ G = w.heap.size ∧ (∀ i,i < n → (N i).p ≤ 1048576 ∧ (N i).q ≤ 1048576) from HA)
    have hBW : Kb 0 w wr:=by
      have hG:=hA.2.2.1
      have hA2:=hA.2.1
      exact ⟨hM.os.trans hA2.os,hM.output.trans hA2.output,Nat.le_trans hA2.size hM.size,fun b _ hb=>(hM.block b (Nat.lt_of_lt_of_le hb hA2.size) (by omega)).trans (hA2.block b (Nat.zero_le _) hb)⟩
    rcases Nat.lt_or_ge i n with hi | hi
    · have hiI : (i : Int) < (n : Int):=by omega
      obtain ⟨a,rfl,hca,_,hra⟩:=hA.1 (by omega)
      obtain ⟨vr,vk,hcel,hvr,hvk⟩:=(hra i hi).keep (Nat.zero_le _) hBW
      obtain ⟨y1,y2⟩:=hA.2.2.2 i hi
      obtain ⟨d0,d1,d2,d3,d4,d5,d6,d7⟩:=hcel
      have HT : Hid (Calls Try.prog 87 #[ndv (N i).a vr vk] wr fun e w'=>∃ v0 v1,e = .returned (ndv (N i).a v0 v1) ∧ RowB wr.heap.size w' v0 (N i).p (fun t=>.int .i64 ((N i).R t)) ∧ RowB wr.heap.size w' v1 (N i).q (fun t=>.int .i64 ((N i).K t)) ∧ Kb 0 wr w'):=to_node wr (fun W k=>to_ints' W (hvr.keep k).row y1) (fun W k=>to_ints' W (hvk.keep k).row y2)
      have HS : Hid (∀ w6 (v0 v1 : Value),Kb 0 wr w6 → RowB wr.heap.size w6 v0 (N i).p (fun t=>.int .i64 ((N i).R t)) → RowB wr.heap.size w6 v1 (N i).q (fun t=>.int .i64 ((N i).K t)) → (∀ t,t < 8 → ∃ u,w6.cell? ⟨G,i * 8 + t,none⟩ = some u) ∧ (∀ j,w6.frozen? ⟨G,j,none⟩ = false) ∧ ∃ E : Nat → List Value,Mk 8 w1 G n E (i + 1) (setL w6 G (i * 8) [.int .i64 (N i).a.k,.int .i64 (N i).a.l,.int .i64 (N i).a.o,.int .i64 (N i).a.m,.float .f64 (N i).a.g,.string (N i).a.x,v0,v1]) ∧ ∀ j,j < i + 1 → ∃ vr vk,E j = [.int .i64 (N j).a.k,.int .i64 (N j).a.l,.int .i64 (N j).a.o,.int .i64 (N j).a.m,.float .f64 (N j).a.g,.string (N j).a.x,vr,vk] ∧ RowB (G + 1) (setL w6 G (i * 8) [.int .i64 (N i).a.k,.int .i64 (N i).a.l,.int .i64 (N i).a.o,.int .i64 (N i).a.m,.float .f64 (N i).a.g,.string (N i).a.x,v0,v1]) vr (N j).p (fun t=>.int .i64 ((N j).R t)) ∧ RowB (G + 1) (setL w6 G (i * 8) [.int .i64 (N i).a.k,.int .i64 (N i).a.l,.int .i64 (N i).a.o,.int .i64 (N i).a.m,.float .f64 (N i).a.g,.string (N i).a.x,v0,v1]) vk (N j).q (fun t=>.int .i64 ((N j).K t))):=by
        show ∀ w6 (v0 v1 : Value),_
        intro w6 v0 v1 k6 r0 r1
        have h6:=hM.kb k6
        have hgl:=Nat.lt_of_lt_of_le hM.gl hM.size
        have kl : Kb (G + 1) w6 (setL w6 G (i * 8) [.int .i64 (N i).a.k,.int .i64 (N i).a.l,.int .i64 (N i).a.o,.int .i64 (N i).a.m,.float .f64 (N i).a.g,.string (N i).a.x,v0,v1]):=⟨(setL_os _ _ _ _).1,(setL_os _ _ _ _).2,by rw [setL_size];exact Nat.le_refl _,fun k h1 _=>setL_block _ _ (by omega) _ _ _⟩
        refine ⟨h6.rest i (Nat.le_refl _) hi,h6.fz,_,h6.step hi rfl,fun j hj=>?_⟩
        by_cases e : j = i
        · subst e
          rw [if_pos rfl]
          exact ⟨v0,v1,rfl,(r0.mono (by omega)).keep kl,(r1.mono (by omega)).keep kl⟩
        · rw [if_neg e]
          obtain ⟨ur,uk,q1,q2,q3⟩:=hR j (by omega)
          exact ⟨ur,uk,q1,(q2.keep (k6.mono (Nat.zero_le _))).keep kl,(q3.keep (k6.mono (Nat.zero_le _))).keep kl⟩
      clear hA HA hM hR HI hra hin hBW hvr hvk y1 y2
      go_wp2_with fail
      refine (show Calls Try.prog 87 #[ndv (N i).a vr vk] wr fun e w'=>∃ v0 v1,e = .returned (ndv (N i).a v0 v1) ∧ RowB wr.heap.size w' v0 (N i).p (fun t=>.int .i64 ((N i).R t)) ∧ RowB wr.heap.size w' v1 (N i).q (fun t=>.int .i64 ((N i).K t)) ∧ Kb 0 wr w' from HT).mono ?_
      rintro e w6 ⟨v0,v1,rfl,r0,r1,k6⟩
      obtain ⟨hc,hf,hT⟩:=(show ∀ w6 (v0 v1 : Value),_ from HS) w6 v0 v1 k6 r0 r1
      have HTT : Hid (∃ E : Nat → List Value,Mk 8 w1 G n E (i + 1) (setL w6 G (i * 8) [.int .i64 (N i).a.k,.int .i64 (N i).a.l,.int .i64 (N i).a.o,.int .i64 (N i).a.m,.float .f64 (N i).a.g,.string (N i).a.x,v0,v1]) ∧ ∀ j,j < i + 1 → ∃ vr vk,E j = [.int .i64 (N j).a.k,.int .i64 (N j).a.l,.int .i64 (N j).a.o,.int .i64 (N j).a.m,.float .f64 (N j).a.g,.string (N j).a.x,vr,vk] ∧ RowB (G + 1) (setL w6 G (i * 8) [.int .i64 (N i).a.k,.int .i64 (N i).a.l,.int .i64 (N i).a.o,.int .i64 (N i).a.m,.float .f64 (N i).a.g,.string (N i).a.x,v0,v1]) vr (N j).p (fun t=>.int .i64 ((N j).R t)) ∧ RowB (G + 1) (setL w6 G (i * 8) [.int .i64 (N i).a.k,.int .i64 (N i).a.l,.int .i64 (N i).a.o,.int .i64 (N i).a.m,.float .f64 (N i).a.g,.string (N i).a.x,v0,v1]) vk (N j).q (fun t=>.int .i64 ((N j).K t))):=hT
      obtain ⟨u0,h0⟩:=hc 0 (by omega)
      obtain ⟨u1,h1⟩:=hc 1 (by omega)
      obtain ⟨u2,h2⟩:=hc 2 (by omega)
      obtain ⟨u3,h3⟩:=hc 3 (by omega)
      obtain ⟨u4,h4⟩:=hc 4 (by omega)
      obtain ⟨u5,h5⟩:=hc 5 (by omega)
      obtain ⟨u6,h6⟩:=hc 6 (by omega)
      obtain ⟨u7,h7⟩:=hc 7 (by omega)
      rw [Nat.add_zero] at h0
      have e0:=hf (i * 8)
      have e1:=hf (i * 8 + 1)
      have e2:=hf (i * 8 + 2)
      have e3:=hf (i * 8 + 3)
      have e4:=hf (i * 8 + 4)
      have e5:=hf (i * 8 + 5)
      have e6:=hf (i * 8 + 6)
      have e7:=hf (i * 8 + 7)
      clear hc hf hT HS HT
      obtain ⟨p0,l0,rfl,_⟩:=id r0
      obtain ⟨p1,l1,rfl,_⟩:=id r1
      clear k6 r0 r1 d0 d1 d2 d3 d4 d5 d6 d7
      have hst : ∀ (a : Addr) (n : Nat) (m : Mode) (w : World),(store a (.float .f64 n) m).run Try.prog w = stored Try.prog w a (.float .f64 n) m:=fun a n m w=>run_store _ _ _ _ _ rfl
      unfold ndv
      go_wp2_with fail
      go_roundw
      case rel=>exact ⟨i + 1,by go_num,by omega,HTT⟩
      case measure=>simp [intOf];omega
    · obtain rfl : i = n:=by omega
      have HE : Hid (Mk 8 w1 G i E i wr ∧ (∀ j,j < i → ∃ vr vk,E j = [.int .i64 (N j).a.k,.int .i64 (N j).a.l,.int .i64 (N j).a.o,.int .i64 (N j).a.m,.float .f64 (N j).a.g,.string (N j).a.x,vr,vk] ∧ RowB (G + 1) wr vr (N j).p (fun t=>.int .i64 ((N j).R t)) ∧ RowB (G + 1) wr vk (N j).q (fun t=>.int .i64 ((N j).K t))) ∧ Kb 0 w wr ∧ G = w.heap.size):=(⟨hM,hR,hBW,hA.2.2.1⟩ : _ ∧ _ ∧ _ ∧ _)
      clear HI hM hR hA HA hBW
      go_wp2_with fail
      go_ret
      obtain ⟨hM,hR,hB,hG⟩:=(show Mk 8 w1 G i E i wr ∧ (∀ j,j < i → ∃ vr vk,E j = [.int .i64 (N j).a.k,.int .i64 (N j).a.l,.int .i64 (N j).a.o,.int .i64 (N j).a.m,.float .f64 (N j).a.g,.string (N j).a.x,vr,vk] ∧ RowB (G + 1) wr vr (N j).p (fun t=>.int .i64 ((N j).R t)) ∧ RowB (G + 1) wr vk (N j).q (fun t=>.int .i64 ((N j).K t))) ∧ Kb 0 w wr ∧ G = w.heap.size from HE)
      refine ⟨_,rfl,⟨_,_,rfl,fun _=>⟨⟨G,0,none⟩,rfl,Nat.le_refl _,(by show w.heap.size ≤ G;omega),fun j hj=>?_⟩⟩,hB⟩
      rw [addr0]
      have hce:=hM.ce j hj
      obtain ⟨ur,uk,q1,q2,q3⟩:=hR j hj
      rw [q1] at hce
      exact ⟨ur,uk,CelN.of hce,q2.mono (by omega),q3.mono (by omega)⟩
theorem to_fns {va : Value} {n : Nat} {F : Nat → Fd} (w : World) (ha : RowF 0 w va n F) (hn : n ≤ 1048576) (hF : ∀ i, i < n → (F i).p ≤ 1048576 ∧ (F i).u ≤ 1048576 ∧ (F i).n ≤ 1048576 ∧ ∀ j, j < (F i).n → ((F i).N j).p ≤ 1048576 ∧ ((F i).N j).q ≤ 1048576) :
    Calls Try.prog 20 #[va] w fun e w'=>∃ v,e = .returned v ∧ RowF w.heap.size w' v n F ∧ Kb 0 w w':=by
  obtain ⟨pa,ca,rfl,ha2⟩:=ha
  have hnI : (n : Int) ≤ 1048576:=by omega
  have hmk:=run_make (P:=Try.prog) w 29 70 Try.t70 (.agg #[.string ⟨#[]⟩,.int .i64 0,.int .i64 0,.bool false,.slice none 0 0,.slice none 0 0,.slice none 0 0]) Try.underlying29 (by kernel_rfl) (by kernel_rfl) .i64 .i64 (n : Int) (n : Int) (by omega) (Int.le_refl _) (by show (112 : Int) * (n : Int) ≤ _;omega) (by omega)
  rw [Int.toNat_natCast] at hmk
  obtain ⟨w1,hw1⟩ : ∃ w1,w1 = w.alloc (.cells (madeCells (.agg #[.string ⟨#[]⟩,.int .i64 0,.int .i64 0,.bool false,.slice none 0 0,.slice none 0 0,.slice none 0 0] : Value).cells (n * 7)) 70):=⟨_,rfl⟩
  have hmk2:=hmk
  rw [show n * Try.t70.size = n * 7 from rfl,← hw1] at hmk2
  clear hmk
  have hk1 : Kb 0 w w1:=by rw [hw1];exact kb_alloc _ _ _
  obtain ⟨G,hG⟩ : ∃ G,G = w.heap.size:=⟨_,rfl⟩
  have HI0 : Hid (∃ E : Nat → List Value,Mk 7 w1 G n E 0 w1 ∧ ∀ j,j < 0 → ∃ vv vu vn,E j = [.string (F j).x,.int .i64 (F j).l,.int .i64 (F j).m,.bool (F j).r,vv,vu,vn] ∧ RowB (G + 1) w1 vv (F j).p (fun t=>.string ((F j).V t)) ∧ RowU (G + 1) w1 vu (F j).u (F j).U ∧ RowN (G + 1) w1 vn (F j).n (F j).N):=by
    refine ⟨fun _=>[],?_,fun j hj=>by omega⟩
    rw [hG,hw1]
    exact mk_zero w _ 7 _ n _ rfl
  have HA : Hid ((0 < n → ∃ a : Addr,pa = some a ∧ n ≤ ca ∧ 0 ≤ a.block ∧ ∀ i,i < n → FnC 0 w (a.add (i * 7)) (F i)) ∧ Kb 0 w w1 ∧ G = w.heap.size ∧ (∀ i,i < n → (F i).p ≤ 1048576 ∧ (F i).u ≤ 1048576 ∧ (F i).n ≤ 1048576 ∧ ∀ j,j < (F i).n → ((F i).N j).p ≤ 1048576 ∧ ((F i).N j).q ≤ 1048576)):=(⟨ha2,hk1,hG,hF⟩ : _ ∧ _)
  rw [← hG] at hmk2
  clear ha2 hk1 hw1 hn hG hF
  go_enter Try.func20,Try.ntmps20
  go_wp2_with fail
  go_loopw [4] (fun s4 wr=>∃ i : Nat,s4 = .int .i64 (i : Int) ∧ i ≤ n ∧ Hid (∃ E : Nat → List Value,Mk 7 w1 G n E i wr ∧ ∀ j,j < i → ∃ vv vu vn,E j = [.string (F j).x,.int .i64 (F j).l,.int .i64 (F j).m,.bool (F j).r,vv,vu,vn] ∧ RowB (G + 1) wr vv (F j).p (fun t=>.string ((F j).V t)) ∧ RowU (G + 1) wr vu (F j).u (F j).U ∧ RowN (G + 1) wr vn (F j).n (F j).N)) (fun s4 _=>n - (intOf s4).toNat)
  case atStart=>exact ⟨0,rfl,Nat.zero_le _,HI0⟩
  case round =>
    clear HI0 hmk2
    obtain ⟨i,rfl,hin,HI⟩:=hrel
    obtain ⟨E,hM,hR⟩:=(show ∃ E : Nat → List Value,Mk 7 w1 G n E i wr ∧ ∀ j,j < i → ∃ vv vu vn,E j = [.string (F j).x,.int .i64 (F j).l,.int .i64 (F j).m,.bool (F j).r,vv,vu,vn] ∧ RowB (G + 1) wr vv (F j).p (fun t=>.string ((F j).V t)) ∧ RowU (G + 1) wr vu (F j).u (F j).U ∧ RowN (G + 1) wr vn (F j).n (F j).N from HI)
    have hA:=(show (0 < n → ∃ a : Addr,pa = some a ∧ n ≤ ca ∧ 0 ≤ a.block ∧ ∀ i,i < n → FnC 0 w (a.add (i * 7)) (F i)) ∧ Kb 0 w w1 ∧ G = w.heap.size ∧ (∀ i,i < n → (F i).p ≤ 1048576 ∧ (F i).u ≤ 1048576 ∧ (F i).n ≤ 1048576 ∧ ∀ j,j < (F i).n → ((F i).N j).p ≤ 1048576 ∧ ((F i).N j).q ≤ 1048576) from HA)
    have hBW : Kb 0 w wr:=by
      have hG:=hA.2.2.1
      have hA2:=hA.2.1
      exact ⟨hM.os.trans hA2.os,hM.output.trans hA2.output,Nat.le_trans hA2.size hM.size,fun b _ hb=>(hM.block b (Nat.lt_of_lt_of_le hb hA2.size) (by omega)).trans (hA2.block b (Nat.zero_le _) hb)⟩
    rcases Nat.lt_or_ge i n with hi | hi
    · have hiI : (i : Int) < (n : Int):=by omega
      obtain ⟨a,rfl,hca,_,hra⟩:=hA.1 (by omega)
      obtain ⟨vv,vu,vn,hcel,hvv,hvu,hvn⟩:=(hra i hi).keep (Nat.zero_le _) hBW
      obtain ⟨y1,y2,y3,y4⟩:=hA.2.2.2 i hi
      obtain ⟨d0,d1,d2,d3,d4,d5,d6⟩:=hcel
      have HT : Hid (Calls Try.prog 43 #[fnv (F i) vv vu vn] wr fun e w'=>∃ v0 v1 v2,e = .returned (fnv (F i) v0 v1 v2) ∧ RowB wr.heap.size w' v0 (F i).p (fun t=>.string ((F i).V t)) ∧ RowU wr.heap.size w' v1 (F i).u (F i).U ∧ RowN wr.heap.size w' v2 (F i).n (F i).N ∧ Kb 0 wr w'):=to_fn wr (fun W k=>to_strs' W (hvv.keep k).row y1) (fun W k=>to_ups W (hvu.keep k) y2) (fun W k=>to_nodes W (hvn.keep k) y3 y4)
      have HS : Hid (∀ w6 (v0 v1 v2 : Value),Kb 0 wr w6 → RowB wr.heap.size w6 v0 (F i).p (fun t=>.string ((F i).V t)) → RowU wr.heap.size w6 v1 (F i).u (F i).U → RowN wr.heap.size w6 v2 (F i).n (F i).N → (∀ t,t < 7 → ∃ u,w6.cell? ⟨G,i * 7 + t,none⟩ = some u) ∧ (∀ j,w6.frozen? ⟨G,j,none⟩ = false) ∧ ∃ E : Nat → List Value,Mk 7 w1 G n E (i + 1) (setL w6 G (i * 7) [.string (F i).x,.int .i64 (F i).l,.int .i64 (F i).m,.bool (F i).r,v0,v1,v2]) ∧ ∀ j,j < i + 1 → ∃ vv vu vn,E j = [.string (F j).x,.int .i64 (F j).l,.int .i64 (F j).m,.bool (F j).r,vv,vu,vn] ∧ RowB (G + 1) (setL w6 G (i * 7) [.string (F i).x,.int .i64 (F i).l,.int .i64 (F i).m,.bool (F i).r,v0,v1,v2]) vv (F j).p (fun t=>.string ((F j).V t)) ∧ RowU (G + 1) (setL w6 G (i * 7) [.string (F i).x,.int .i64 (F i).l,.int .i64 (F i).m,.bool (F i).r,v0,v1,v2]) vu (F j).u (F j).U ∧ RowN (G + 1) (setL w6 G (i * 7) [.string (F i).x,.int .i64 (F i).l,.int .i64 (F i).m,.bool (F i).r,v0,v1,v2]) vn (F j).n (F j).N):=by
        show ∀ w6 (v0 v1 v2 : Value),_
        intro w6 v0 v1 v2 k6 r0 r1 r2
        have h6:=hM.kb k6
        have hgl:=Nat.lt_of_lt_of_le hM.gl hM.size
        have kl : Kb (G + 1) w6 (setL w6 G (i * 7) [.string (F i).x,.int .i64 (F i).l,.int .i64 (F i).m,.bool (F i).r,v0,v1,v2]):=⟨(setL_os _ _ _ _).1,(setL_os _ _ _ _).2,by rw [setL_size];exact Nat.le_refl _,fun k h1 _=>setL_block _ _ (by omega) _ _ _⟩
        refine ⟨h6.rest i (Nat.le_refl _) hi,h6.fz,_,h6.step hi rfl,fun j hj=>?_⟩
        by_cases e : j = i
        · subst e
          rw [if_pos rfl]
          exact ⟨v0,v1,v2,rfl,(r0.mono (by omega)).keep kl,(r1.mono (by omega)).keep kl,(r2.mono (by omega)).keep kl⟩
        · rw [if_neg e]
          obtain ⟨uv,uu,un,q1,q2,q3,q4⟩:=hR j (by omega)
          exact ⟨uv,uu,un,q1,(q2.keep (k6.mono (Nat.zero_le _))).keep kl,(q3.keep (k6.mono (Nat.zero_le _))).keep kl,(q4.keep (k6.mono (Nat.zero_le _))).keep kl⟩
      clear hA HA hM hR HI hra hin hBW hvv hvu hvn y1 y2 y3 y4
      go_wp2_with fail
      refine (show Calls Try.prog 43 #[fnv (F i) vv vu vn] wr fun e w'=>∃ v0 v1 v2,e = .returned (fnv (F i) v0 v1 v2) ∧ RowB wr.heap.size w' v0 (F i).p (fun t=>.string ((F i).V t)) ∧ RowU wr.heap.size w' v1 (F i).u (F i).U ∧ RowN wr.heap.size w' v2 (F i).n (F i).N ∧ Kb 0 wr w' from HT).mono ?_
      rintro e w6 ⟨v0,v1,v2,rfl,r0,r1,r2,k6⟩
      obtain ⟨hc,hf,hT⟩:=(show ∀ w6 (v0 v1 v2 : Value),_ from HS) w6 v0 v1 v2 k6 r0 r1 r2
      have HTT : Hid (∃ E : Nat → List Value,Mk 7 w1 G n E (i + 1) (setL w6 G (i * 7) [.string (F i).x,.int .i64 (F i).l,.int .i64 (F i).m,.bool (F i).r,v0,v1,v2]) ∧ ∀ j,j < i + 1 → ∃ vv vu vn,E j = [.string (F j).x,.int .i64 (F j).l,.int .i64 (F j).m,.bool (F j).r,vv,vu,vn] ∧ RowB (G + 1) (setL w6 G (i * 7) [.string (F i).x,.int .i64 (F i).l,.int .i64 (F i).m,.bool (F i).r,v0,v1,v2]) vv (F j).p (fun t=>.string ((F j).V t)) ∧ RowU (G + 1) (setL w6 G (i * 7) [.string (F i).x,.int .i64 (F i).l,.int .i64 (F i).m,.bool (F i).r,v0,v1,v2]) vu (F j).u (F j).U ∧ RowN (G + 1) (setL w6 G (i * 7) [.string (F i).x,.int .i64 (F i).l,.int .i64 (F i).m,.bool (F i).r,v0,v1,v2]) vn (F j).n (F j).N):=hT
      obtain ⟨u0,h0⟩:=hc 0 (by omega)
      obtain ⟨u1,h1⟩:=hc 1 (by omega)
      obtain ⟨u2,h2⟩:=hc 2 (by omega)
      obtain ⟨u3,h3⟩:=hc 3 (by omega)
      obtain ⟨u4,h4⟩:=hc 4 (by omega)
      obtain ⟨u5,h5⟩:=hc 5 (by omega)
      obtain ⟨u6,h6⟩:=hc 6 (by omega)
      rw [Nat.add_zero] at h0
      have e0:=hf (i * 7)
      have e1:=hf (i * 7 + 1)
      have e2:=hf (i * 7 + 2)
      have e3:=hf (i * 7 + 3)
      have e4:=hf (i * 7 + 4)
      have e5:=hf (i * 7 + 5)
      have e6:=hf (i * 7 + 6)
      clear hc hf hT HS HT
      obtain ⟨p0,l0,rfl,_⟩:=id r0
      obtain ⟨p1,l1,rfl,_⟩:=id r1
      obtain ⟨p2,l2,rfl,_⟩:=id r2
      clear k6 r0 r1 r2 d0 d1 d2 d3 d4 d5 d6
      unfold fnv
      go_wp2_with fail
      go_roundw
      case rel=>exact ⟨i + 1,by go_num,by omega,HTT⟩
      case measure=>simp [intOf];omega
    · obtain rfl : i = n:=by omega
      have HE : Hid (Mk 7 w1 G i E i wr ∧ (∀ j,j < i → ∃ vv vu vn,E j = [.string (F j).x,.int .i64 (F j).l,.int .i64 (F j).m,.bool (F j).r,vv,vu,vn] ∧ RowB (G + 1) wr vv (F j).p (fun t=>.string ((F j).V t)) ∧ RowU (G + 1) wr vu (F j).u (F j).U ∧ RowN (G + 1) wr vn (F j).n (F j).N) ∧ Kb 0 w wr ∧ G = w.heap.size):=(⟨hM,hR,hBW,hA.2.2.1⟩ : _ ∧ _ ∧ _ ∧ _)
      clear HI hM hR hA HA hBW
      go_wp2_with fail
      go_ret
      obtain ⟨hM,hR,hB,hG⟩:=(show Mk 7 w1 G i E i wr ∧ (∀ j,j < i → ∃ vv vu vn,E j = [.string (F j).x,.int .i64 (F j).l,.int .i64 (F j).m,.bool (F j).r,vv,vu,vn] ∧ RowB (G + 1) wr vv (F j).p (fun t=>.string ((F j).V t)) ∧ RowU (G + 1) wr vu (F j).u (F j).U ∧ RowN (G + 1) wr vn (F j).n (F j).N) ∧ Kb 0 w wr ∧ G = w.heap.size from HE)
      refine ⟨_,rfl,⟨_,_,rfl,fun _=>⟨⟨G,0,none⟩,rfl,Nat.le_refl _,(by show w.heap.size ≤ G;omega),fun j hj=>?_⟩⟩,hB⟩
      rw [addr0]
      have hce:=hM.ce j hj
      obtain ⟨uv,uu,un,q1,q2,q3,q4⟩:=hR j hj
      rw [q1] at hce
      exact ⟨uv,uu,un,CelF.of hce,q2.mono (by omega),q3.mono (by omega),q4.mono (by omega)⟩
theorem eq_ints' {va vb : Value} {n : Nat} {A : Nat → Int} (w : World) (ha : RowB 0 w va n (fun i => .int .i64 (A i))) (hb : RowB 0 w vb n (fun i => .int .i64 (A i))) (hn : n ≤ 1048576) :
    Calls Try.prog 103 #[va,vb] w fun e w'=>e = .returned (.bool true) ∧ Kb 0 w w':=by
  refine (eq_ints w ha.row hb.row hn).mono ?_
  rintro e w' ⟨rfl,d,rfl⟩
  exact ⟨rfl,(Kb.refl _ _).drewN d⟩
theorem eq_strs' {va vb : Value} {n : Nat} {A : Nat → ByteArray} (w : World) (ha : RowB 0 w va n (fun i => .string (A i))) (hb : RowB 0 w vb n (fun i => .string (A i))) (hn : n ≤ 1048576) :
    Calls Try.prog 34 #[va,vb] w fun e w'=>e = .returned (.bool true) ∧ Kb 0 w w':=by
  refine (eq_strs w ha.row hb.row hn).mono ?_
  rintro e w' ⟨rfl,d,rfl⟩
  exact ⟨rfl,(Kb.refl _ _).drewN d⟩
theorem eq_up (u : Bool × Int) (w : World) : Calls Try.prog 95 #[upv u,upv u] w fun e w'=>e = .returned (.bool true) ∧ Kb 0 w w':=by
  unfold upv
  obtain ⟨b,z⟩:=u
  have h1 : (z != z) = false:=by simp
  have h2 : (b != b) = false:=by cases b <;> rfl
  cases b
  all_goals
    go_enter Try.func95,Try.ntmps95
    go_wp2_with fail
    go_ret
    exact ⟨rfl,kb_alloc2 _ _ _ _⟩
theorem eq_node {a : Nv} {vr vk ur uk : Value} (w : World)
    (g0 : ∀ W',Kb 0 w W' → Calls Try.prog 103 #[vr,ur] W' fun e w'=>e = .returned (.bool true) ∧ Kb 0 W' w')
    (g1 : ∀ W',Kb 0 w W' → Calls Try.prog 103 #[vk,uk] W' fun e w'=>e = .returned (.bool true) ∧ Kb 0 W' w') (hg : a.g < 18446744073709551616) :
    Calls Try.prog 96 #[ndv a vr vk,ndv a ur uk] w fun e w'=>e = .returned (.bool true) ∧ Kb 0 w w':=by
  have G0 : Hid (∀ W',Kb 0 w W' → Calls Try.prog 103 #[vr,ur] W' fun e w'=>e = .returned (.bool true) ∧ Kb 0 W' w'):=g0
  have G1 : Hid (∀ W',Kb 0 w W' → Calls Try.prog 103 #[vk,uk] W' fun e w'=>e = .returned (.bool true) ∧ Kb 0 W' w'):=g1
  clear g0 g1
  unfold ndv
  obtain ⟨k,l,o,m,g,x⟩:=a
  have hsf:=same_flt g hg
  have e1 : (k != k) = false:=by simp
  have e2 : (l != l) = false:=by simp
  have e3 : (o != o) = false:=by simp
  have e4 : (m != m) = false:=by simp
  dsimp only
  clear hg
  obtain ⟨w2,hw2⟩ : ∃ w2,w2 = (w.alloc (.cells #[.int .i64 k,.int .i64 l,.int .i64 o,.int .i64 m,.float .f64 g,.string x,vr,vk] 79)).alloc (.cells #[.int .i64 k,.int .i64 l,.int .i64 o,.int .i64 m,.float .f64 g,.string x,ur,uk] 79):=⟨_,rfl⟩
  have k2 : Kb 0 w w2:=by rw [hw2];exact kb_alloc2 _ _ _ _
  have b0 : w2.heap[w.heap.size]? = some (.cells #[.int .i64 k,.int .i64 l,.int .i64 o,.int .i64 m,.float .f64 g,.string x,vr,vk] 79 (0,0)):=by
    rw [hw2,(kb_alloc 0 _ _).block _ (Nat.zero_le _) (by rw [World.size_alloc];omega)]
    exact alloc_new _ _ _
  have b1 : w2.heap[w.heap.size + 1]? = some (.cells #[.int .i64 k,.int .i64 l,.int .i64 o,.int .i64 m,.float .f64 g,.string x,ur,uk] 79 (0,0)):=by
    have e : (w.alloc (.cells #[.int .i64 k,.int .i64 l,.int .i64 o,.int .i64 m,.float .f64 g,.string x,vr,vk] 79)).heap.size = w.heap.size + 1:=World.size_alloc _ _
    rw [hw2,← e]
    exact alloc_new _ _ _
  have HK : Hid (Kb 0 w w2 ∧ w2.heap[w.heap.size]? = some (.cells #[.int .i64 k,.int .i64 l,.int .i64 o,.int .i64 m,.float .f64 g,.string x,vr,vk] 79 (0,0)) ∧ w2.heap[w.heap.size + 1]? = some (.cells #[.int .i64 k,.int .i64 l,.int .i64 o,.int .i64 m,.float .f64 g,.string x,ur,uk] 79 (0,0)) ∧ w.heap.size + 1 < w2.heap.size):=(⟨k2,b0,b1,by rw [hw2];simp⟩ : _ ∧ _)
  have HW : Hid (w2 = (w.alloc (.cells #[.int .i64 k,.int .i64 l,.int .i64 o,.int .i64 m,.float .f64 g,.string x,vr,vk] 79)).alloc (.cells #[.int .i64 k,.int .i64 l,.int .i64 o,.int .i64 m,.float .f64 g,.string x,ur,uk] 79)):=hw2
  clear hw2 k2 b0 b1
  go_enter Try.func96,Try.ntmps96
  go_wp2_with fail
  refine (hsf _).mono ?_
  rintro e w4 ⟨rfl,rfl⟩
  go_wp2_with fail
  rw [← (show w2 = _ from HW)]
  clear HW
  refine ((show ∀ W',Kb 0 w W' → Calls Try.prog 103 #[vr,ur] W' fun e w'=>e = .returned (.bool true) ∧ Kb 0 W' w' from G0) w2 HK.1).mono ?_
  rintro e x0 ⟨rfl,k0⟩
  have HL : Hid (Kb 0 w x0 ∧ x0.heap[w.heap.size]? = some (.cells #[.int .i64 k,.int .i64 l,.int .i64 o,.int .i64 m,.float .f64 g,.string x,vr,vk] 79 (0,0)) ∧ x0.heap[w.heap.size + 1]? = some (.cells #[.int .i64 k,.int .i64 l,.int .i64 o,.int .i64 m,.float .f64 g,.string x,ur,uk] 79 (0,0)) ∧ w.heap.size + 1 < x0.heap.size):=by
    obtain ⟨q1,q2,q3,q4⟩:=(show Kb 0 w w2 ∧ w2.heap[w.heap.size]? = some (.cells #[.int .i64 k,.int .i64 l,.int .i64 o,.int .i64 m,.float .f64 g,.string x,vr,vk] 79 (0,0)) ∧ w2.heap[w.heap.size + 1]? = some (.cells #[.int .i64 k,.int .i64 l,.int .i64 o,.int .i64 m,.float .f64 g,.string x,ur,uk] 79 (0,0)) ∧ w.heap.size + 1 < w2.heap.size from HK)
    have q5:=k0.size
    exact ⟨q1.trans k0,(k0.block _ (Nat.zero_le _) (by omega)).trans q2,(k0.block _ (Nat.zero_le _) (by omega)).trans q3,by omega⟩
  clear HK
  have HK:=HL
  clear HL k0 G0
  have c0 : x0.cell? ⟨w.heap.size,7,none⟩ = some (vk):=cell_of HK.2.1 rfl
  have d0 : x0.cell? ⟨w.heap.size + 1,7,none⟩ = some (uk):=cell_of HK.2.2.1 rfl
  go_wp2_with fail
  clear c0 d0
  refine ((show ∀ W',Kb 0 w W' → Calls Try.prog 103 #[vk,uk] W' fun e w'=>e = .returned (.bool true) ∧ Kb 0 W' w' from G1) x0 HK.1).mono ?_
  rintro e x1 ⟨rfl,k1⟩
  have HL : Hid (Kb 0 w x1 ∧ x1.heap[w.heap.size]? = some (.cells #[.int .i64 k,.int .i64 l,.int .i64 o,.int .i64 m,.float .f64 g,.string x,vr,vk] 79 (0,0)) ∧ x1.heap[w.heap.size + 1]? = some (.cells #[.int .i64 k,.int .i64 l,.int .i64 o,.int .i64 m,.float .f64 g,.string x,ur,uk] 79 (0,0)) ∧ w.heap.size + 1 < x1.heap.size):=by
    obtain ⟨q1,q2,q3,q4⟩:=(show Kb 0 w x0 ∧ x0.heap[w.heap.size]? = some (.cells #[.int .i64 k,.int .i64 l,.int .i64 o,.int .i64 m,.float .f64 g,.string x,vr,vk] 79 (0,0)) ∧ x0.heap[w.heap.size + 1]? = some (.cells #[.int .i64 k,.int .i64 l,.int .i64 o,.int .i64 m,.float .f64 g,.string x,ur,uk] 79 (0,0)) ∧ w.heap.size + 1 < x0.heap.size from HK)
    have q5:=k1.size
    exact ⟨q1.trans k1,(k1.block _ (Nat.zero_le _) (by omega)).trans q2,(k1.block _ (Nat.zero_le _) (by omega)).trans q3,by omega⟩
  clear HK
  have HK:=HL
  clear HL k1 G1
  go_wp2_with fail
  go_ret
  exact ⟨rfl,HK.1⟩
theorem eq_fn {f : Fd} {vv vu vn uv uu un : Value} (w : World)
    (g0 : ∀ W',Kb 0 w W' → Calls Try.prog 34 #[vv,uv] W' fun e w'=>e = .returned (.bool true) ∧ Kb 0 W' w')
    (g1 : ∀ W',Kb 0 w W' → Calls Try.prog 76 #[vu,uu] W' fun e w'=>e = .returned (.bool true) ∧ Kb 0 W' w')
    (g2 : ∀ W',Kb 0 w W' → Calls Try.prog 77 #[vn,un] W' fun e w'=>e = .returned (.bool true) ∧ Kb 0 W' w') :
    Calls Try.prog 55 #[fnv f vv vu vn,fnv f uv uu un] w fun e w'=>e = .returned (.bool true) ∧ Kb 0 w w':=by
  have G0 : Hid (∀ W',Kb 0 w W' → Calls Try.prog 34 #[vv,uv] W' fun e w'=>e = .returned (.bool true) ∧ Kb 0 W' w'):=g0
  have G1 : Hid (∀ W',Kb 0 w W' → Calls Try.prog 76 #[vu,uu] W' fun e w'=>e = .returned (.bool true) ∧ Kb 0 W' w'):=g1
  have G2 : Hid (∀ W',Kb 0 w W' → Calls Try.prog 77 #[vn,un] W' fun e w'=>e = .returned (.bool true) ∧ Kb 0 W' w'):=g2
  clear g0 g1 g2
  unfold fnv
  generalize f.x = x at *
  generalize f.l = l at *
  generalize f.m = m at *
  generalize f.r = r at *
  have e1 : (l != l) = false:=by simp
  have e2 : (m != m) = false:=by simp
  have e3 : (r != r) = false:=by cases r <;> rfl
  obtain ⟨w2,hw2⟩ : ∃ w2,w2 = (w.alloc (.cells #[.string x,.int .i64 l,.int .i64 m,.bool r,vv,vu,vn] 70)).alloc (.cells #[.string x,.int .i64 l,.int .i64 m,.bool r,uv,uu,un] 70):=⟨_,rfl⟩
  have k2 : Kb 0 w w2:=by rw [hw2];exact kb_alloc2 _ _ _ _
  have b0 : w2.heap[w.heap.size]? = some (.cells #[.string x,.int .i64 l,.int .i64 m,.bool r,vv,vu,vn] 70 (0,0)):=by
    rw [hw2,(kb_alloc 0 _ _).block _ (Nat.zero_le _) (by rw [World.size_alloc];omega)]
    exact alloc_new _ _ _
  have b1 : w2.heap[w.heap.size + 1]? = some (.cells #[.string x,.int .i64 l,.int .i64 m,.bool r,uv,uu,un] 70 (0,0)):=by
    have e : (w.alloc (.cells #[.string x,.int .i64 l,.int .i64 m,.bool r,vv,vu,vn] 70)).heap.size = w.heap.size + 1:=World.size_alloc _ _
    rw [hw2,← e]
    exact alloc_new _ _ _
  have HK : Hid (Kb 0 w w2 ∧ w2.heap[w.heap.size]? = some (.cells #[.string x,.int .i64 l,.int .i64 m,.bool r,vv,vu,vn] 70 (0,0)) ∧ w2.heap[w.heap.size + 1]? = some (.cells #[.string x,.int .i64 l,.int .i64 m,.bool r,uv,uu,un] 70 (0,0)) ∧ w.heap.size + 1 < w2.heap.size):=(⟨k2,b0,b1,by rw [hw2];simp⟩ : _ ∧ _)
  have HW : Hid (w2 = (w.alloc (.cells #[.string x,.int .i64 l,.int .i64 m,.bool r,vv,vu,vn] 70)).alloc (.cells #[.string x,.int .i64 l,.int .i64 m,.bool r,uv,uu,un] 70)):=hw2
  clear hw2 k2 b0 b1
  go_enter Try.func55,Try.ntmps55
  go_wp2_with fail
  rw [← (show w2 = _ from HW)]
  clear HW
  refine ((show ∀ W',Kb 0 w W' → Calls Try.prog 34 #[vv,uv] W' fun e w'=>e = .returned (.bool true) ∧ Kb 0 W' w' from G0) w2 HK.1).mono ?_
  rintro e x0 ⟨rfl,k0⟩
  have HL : Hid (Kb 0 w x0 ∧ x0.heap[w.heap.size]? = some (.cells #[.string x,.int .i64 l,.int .i64 m,.bool r,vv,vu,vn] 70 (0,0)) ∧ x0.heap[w.heap.size + 1]? = some (.cells #[.string x,.int .i64 l,.int .i64 m,.bool r,uv,uu,un] 70 (0,0)) ∧ w.heap.size + 1 < x0.heap.size):=by
    obtain ⟨q1,q2,q3,q4⟩:=(show Kb 0 w w2 ∧ w2.heap[w.heap.size]? = some (.cells #[.string x,.int .i64 l,.int .i64 m,.bool r,vv,vu,vn] 70 (0,0)) ∧ w2.heap[w.heap.size + 1]? = some (.cells #[.string x,.int .i64 l,.int .i64 m,.bool r,uv,uu,un] 70 (0,0)) ∧ w.heap.size + 1 < w2.heap.size from HK)
    have q5:=k0.size
    exact ⟨q1.trans k0,(k0.block _ (Nat.zero_le _) (by omega)).trans q2,(k0.block _ (Nat.zero_le _) (by omega)).trans q3,by omega⟩
  clear HK
  have HK:=HL
  clear HL k0 G0
  have c0 : x0.cell? ⟨w.heap.size,5,none⟩ = some (vu):=cell_of HK.2.1 rfl
  have d0 : x0.cell? ⟨w.heap.size + 1,5,none⟩ = some (uu):=cell_of HK.2.2.1 rfl
  go_wp2_with fail
  clear c0 d0
  refine ((show ∀ W',Kb 0 w W' → Calls Try.prog 76 #[vu,uu] W' fun e w'=>e = .returned (.bool true) ∧ Kb 0 W' w' from G1) x0 HK.1).mono ?_
  rintro e x1 ⟨rfl,k1⟩
  have HL : Hid (Kb 0 w x1 ∧ x1.heap[w.heap.size]? = some (.cells #[.string x,.int .i64 l,.int .i64 m,.bool r,vv,vu,vn] 70 (0,0)) ∧ x1.heap[w.heap.size + 1]? = some (.cells #[.string x,.int .i64 l,.int .i64 m,.bool r,uv,uu,un] 70 (0,0)) ∧ w.heap.size + 1 < x1.heap.size):=by
    obtain ⟨q1,q2,q3,q4⟩:=(show Kb 0 w x0 ∧ x0.heap[w.heap.size]? = some (.cells #[.string x,.int .i64 l,.int .i64 m,.bool r,vv,vu,vn] 70 (0,0)) ∧ x0.heap[w.heap.size + 1]? = some (.cells #[.string x,.int .i64 l,.int .i64 m,.bool r,uv,uu,un] 70 (0,0)) ∧ w.heap.size + 1 < x0.heap.size from HK)
    have q5:=k1.size
    exact ⟨q1.trans k1,(k1.block _ (Nat.zero_le _) (by omega)).trans q2,(k1.block _ (Nat.zero_le _) (by omega)).trans q3,by omega⟩
  clear HK
  have HK:=HL
  clear HL k1 G1
  have c1 : x1.cell? ⟨w.heap.size,6,none⟩ = some (vn):=cell_of HK.2.1 rfl
  have d1 : x1.cell? ⟨w.heap.size + 1,6,none⟩ = some (un):=cell_of HK.2.2.1 rfl
  go_wp2_with fail
  clear c1 d1
  refine ((show ∀ W',Kb 0 w W' → Calls Try.prog 77 #[vn,un] W' fun e w'=>e = .returned (.bool true) ∧ Kb 0 W' w' from G2) x1 HK.1).mono ?_
  rintro e x2 ⟨rfl,k2⟩
  have HL : Hid (Kb 0 w x2 ∧ x2.heap[w.heap.size]? = some (.cells #[.string x,.int .i64 l,.int .i64 m,.bool r,vv,vu,vn] 70 (0,0)) ∧ x2.heap[w.heap.size + 1]? = some (.cells #[.string x,.int .i64 l,.int .i64 m,.bool r,uv,uu,un] 70 (0,0)) ∧ w.heap.size + 1 < x2.heap.size):=by
    obtain ⟨q1,q2,q3,q4⟩:=(show Kb 0 w x1 ∧ x1.heap[w.heap.size]? = some (.cells #[.string x,.int .i64 l,.int .i64 m,.bool r,vv,vu,vn] 70 (0,0)) ∧ x1.heap[w.heap.size + 1]? = some (.cells #[.string x,.int .i64 l,.int .i64 m,.bool r,uv,uu,un] 70 (0,0)) ∧ w.heap.size + 1 < x1.heap.size from HK)
    have q5:=k2.size
    exact ⟨q1.trans k2,(k2.block _ (Nat.zero_le _) (by omega)).trans q2,(k2.block _ (Nat.zero_le _) (by omega)).trans q3,by omega⟩
  clear HK
  have HK:=HL
  clear HL k2 G2
  go_wp2_with fail
  go_ret
  exact ⟨rfl,HK.1⟩
theorem eq_ups {va vb : Value} {n : Nat} {U : Nat → Bool × Int} (w : World) (ha : RowU 0 w va n U) (hb : RowU 0 w vb n U) (hn : n ≤ 1048576)  :
    Calls Try.prog 76 #[va,vb] w fun e w'=>e = .returned (.bool true) ∧ Kb 0 w w':=by
  obtain ⟨pa,ca,rfl,ha2⟩:=ha
  obtain ⟨pb,cb,rfl,hb2⟩:=hb
  have HA : Hid ((0 < n → ∃ a : Addr,pa = some a ∧ n ≤ ca ∧ 0 ≤ a.block ∧ ∀ i,i < n → UpC 0 w (a.add (i * 2)) (U i)) ∧ (0 < n → ∃ a : Addr,pb = some a ∧ n ≤ cb ∧ 0 ≤ a.block ∧ ∀ i,i < n → UpC 0 w (a.add (i * 2)) (U i))):=(⟨ha2,hb2⟩ : _ ∧ _)
  have hnI : (n : Int) ≤ 1048576:=by omega
  clear ha2 hb2 hn
  go_enter Try.func76,Try.ntmps76
  go_wp2_with fail
  go_loopw [5] (fun s5 wr=>∃ i : Nat,s5 = .int .i64 (i : Int) ∧ i ≤ n ∧ Hid (Kb 0 w wr)) (fun s5 _=>n - (intOf s5).toNat)
  case atStart=>exact ⟨0,rfl,Nat.zero_le _,Kb.refl _ _⟩
  case round =>
    obtain ⟨i,rfl,hin,HB⟩:=hrel
    rcases Nat.lt_or_ge i n with hi | hi
    · have hA:=(show (0 < n → ∃ a : Addr,pa = some a ∧ n ≤ ca ∧ 0 ≤ a.block ∧ ∀ i,i < n → UpC 0 w (a.add (i * 2)) (U i)) ∧ (0 < n → ∃ a : Addr,pb = some a ∧ n ≤ cb ∧ 0 ≤ a.block ∧ ∀ i,i < n → UpC 0 w (a.add (i * 2)) (U i)) from HA)
      obtain ⟨qa,rfl,hca,-,hra⟩:=hA.1 (by omega)
      obtain ⟨qb,rfl,hcb,-,hrb⟩:=hA.2 (by omega)
      have hiI : (i : Int) < (n : Int):=by omega
      have ca:=(hra i hi).keep (Nat.zero_le _) HB
      have cb:=(hrb i hi).keep (Nat.zero_le _) HB
      have heq : ∀ W',Kb 0 wr W' → Calls Try.prog 95 #[upv (U i),upv (U i)] W' fun e w'=>e = .returned (.bool true) ∧ Kb 0 W' w':=fun W' _=>eq_up (U i) W'
      replace heq : ∀ W',W'.heap = wr.heap → W'.os = wr.os → W'.output = wr.output → Calls Try.prog 95 #[upv (U i),upv (U i)] W' fun e w'=>e = .returned (.bool true) ∧ Kb 0 wr w':=fun W' h0 h1 h2=>by
        have kk : Kb 0 wr W':=⟨h1,h2,by rw [h0];exact Nat.le_refl _,fun k _ _=>by rw [h0]⟩
        refine (heq W' kk).mono ?_
        rintro e w' ⟨rfl,k⟩
        exact ⟨rfl,kk.trans k⟩
      obtain ⟨a0,a1⟩:=ca
      obtain ⟨b0,b1⟩:=cb
      clear hra hrb hA HA
      generalize U i = u at *
      obtain ⟨xb,xz⟩:=u
      unfold upv at heq
      dsimp only at a0 a1 b0 b1 heq
      have HKEEP : Hid (∀ (W' : World),Kb 0 wr W' → W'.cell? (qa.add (i * 2)) = some (.bool xb) ∧ W'.cell? ⟨(qa.add (i * 2)).block,(qa.add (i * 2)).off + 1,none⟩ = some (.int .i64 xz) ∧ W'.cell? (qb.add (i * 2)) = some (.bool xb) ∧ W'.cell? ⟨(qb.add (i * 2)).block,(qb.add (i * 2)).off + 1,none⟩ = some (.int .i64 xz)):=by
        show ∀ (W' : World),_
        intro W' k
        exact ⟨k.cell a0,k.cell a1,k.cell b0,k.cell b1⟩
      have HEQ : Hid (∀ W',W'.heap = wr.heap → W'.os = wr.os → W'.output = wr.output → Calls Try.prog 95 #[.agg #[.bool xb,.int .i64 xz],.agg #[.bool xb,.int .i64 xz]] W' fun e w'=>e = .returned (.bool true) ∧ Kb 0 wr w'):=heq
      clear hin heq
      go_wp2_with fail
      go_region_held_law (fun W'=>W'.cell? (qa.add (i * 2)) = some (.bool xb) ∧ W'.cell? ⟨(qa.add (i * 2)).block,(qa.add (i * 2)).off + 1,none⟩ = some (.int .i64 xz) ∧ W'.cell? (qb.add (i * 2)) = some (.bool xb) ∧ W'.cell? ⟨(qb.add (i * 2)).block,(qb.add (i * 2)).off + 1,none⟩ = some (.int .i64 xz)) (first | exact ⟨a0,a1,b0,b1⟩ | exact (show ∀ (W' : World),_ from HKEEP) _ k5)
        ((go_at_call 95;refine ((show ∀ W',W'.heap = wr.heap → W'.os = wr.os → W'.output = wr.output → Calls Try.prog 95 #[.agg #[.bool xb,.int .i64 xz],.agg #[.bool xb,.int .i64 xz]] W' fun e w'=>e = .returned (.bool true) ∧ Kb 0 wr w' from HEQ) _ (by exact rfl) (by exact rfl) (by exact rfl)).mono ?_;rintro e w5 ⟨rfl,k5⟩))
      all_goals
        have HB5 : Hid (Kb 0 w w5):=(show Kb 0 w wr from HB).trans k5
        clear HB HKEEP HEQ k5 a0 a1 b0 b1
        go_wp2_with fail
        go_roundw
        case rel=>exact ⟨i + 1,by go_num,by omega,HB5⟩
        case measure=>simp [intOf];omega
    · obtain rfl : i = n:=by omega
      clear HA
      go_wp2_with fail
      go_ret
      exact ⟨rfl,HB⟩
end Go.Proofs.Ytipiahdcmjchjaa.Fo
