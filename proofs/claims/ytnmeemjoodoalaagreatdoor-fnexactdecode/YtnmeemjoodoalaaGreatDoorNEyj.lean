import Derived.Test.YtnmeemjoodoalaaGreatDoorNEyi
import Derived.Test.YtnmeemjoodoalaaGreatDoorNExz
import Derived.Test.YtnmeemjoodoalaaGreatDoorNCha
set_option maxHeartbeats 16000000
namespace Go.Proofs.YtnmeemjoodoalaaGreatDoor.Fo
open Go.ChangeShapes Go.WideShapes Go.ChangeAt Go.RowKit
set_option linter.unusedVariables false
set_option maxRecDepth 100000
def byt (M : List UInt8) : Nat → Int:=fun i=>((M.getD i 0).toNat : Int)
theorem arg_row {p : Option Addr} {c : Nat} {M : List UInt8} {W : World} (h : Arg p c M W) : RowV W (.slice p M.length c) M.length (fun i=>.int .u8 (byt M i)):=by
  refine ⟨p,c,rfl,fun hn=>?_⟩
  obtain ⟨a,e,h2⟩:=h.row hn
  refine ⟨a,e,h.cap,fun i hi=>?_⟩
  rw [h2 i _ (List.getElem?_eq_getElem hi)]
  unfold byt
  simp [List.getD,List.getElem?_eq_getElem hi]
theorem arg_of {v : Value} {M : List UInt8} {W : World} {g : Nat} (h : OwnR W v g M.length (fun i=>.int .u8 (byt M i))) : ∃ p c,v = .slice p M.length c ∧ Arg p c M W:=by
  obtain ⟨p,c,e,h2⟩:=h.row
  refine ⟨p,c,e,?_,fun hn=>?_⟩
  · rcases Nat.eq_zero_or_pos M.length with h0 | h0
    · omega
    · obtain ⟨a,_,h3,_⟩:=h2 h0
      exact h3
  · obtain ⟨a,e2,_,h4⟩:=h2 hn
    refine ⟨a,e2,fun i x hx=>?_⟩
    have hi:=(List.getElem?_eq_some_iff.1 hx).1
    rw [h4 i hi]
    unfold byt
    simp [List.getD,hx]
theorem dec_facts {M : List UInt8} {L : List PV} (ht : ∀ z,z ∈ L → Rt z.1) (h : DecR M (L.map (·.1))) : SzL L ∧ Bd L.length (QF (L.map (·.1))):=by
  rcases h.1 with e | ⟨e1,e2⟩
  · have e0 : L = []:=List.map_eq_nil_iff.1 e
    subst e0
    exact ⟨⟨Nat.zero_le _,fun j hj=>by simp at hj,Nat.zero_le _⟩,bdq_of ht (Nat.zero_le _) (Nat.zero_le _)⟩
  · obtain ⟨⟨f,n,ha⟩,_,_⟩:=e1
    obtain ⟨r1,r2⟩:=rok_of e2 ha
    rw [List.length_map] at r2
    have sk:=sok_of ha
    obtain ⟨_,_,z2⟩:=sk.sz
    rw [List.length_map,sm_smN] at z2
    have hr : ∀ j,j < L.length → Rok (ZL L j).1:=fun j hj=>r1 _ (List.mem_map.2 ⟨ZL L j,getD_mem hj,rfl⟩)
    have hq : ∀ j,j < L.length → nq (ZL L j) ≤ 40000:=fun j hj=>by
      have:=hr j hj
      have:=this.u
      have:=(hr j hj).c
      have:=(hr j hj).n
      have:=(hr j hj).d
      unfold nq
      omega
    have hsum : ∀ m,m ≤ L.length → sm (fun j=>nq (ZL L j)) m ≤ 40000 * m:=by
      intro m
      induction m with
      | zero=>intro _;exact Nat.le_refl _
      | succ m ih =>
        intro hm
        have h1:=ih (by omega)
        have h2:=hq m (by omega)
        show sm (fun j=>nq (ZL L j)) m + nq (ZL L m) ≤ _
        omega
    refine ⟨⟨by omega,fun j hj=>?_,?_⟩,bdq_of ht (by omega) (by omega)⟩
    · have h1:=(hr j hj).u
      have h2:=(hr j hj).c
      have h3:=(hr j hj).n
      have h4:=(hr j hj).d
      exact ⟨by omega,by omega,by omega,by omega⟩
    · have:=hsum L.length (Nat.le_refl _)
      show sm _ _ ≤ _
      omega
theorem Kq.kb0 {g n : Nat} {W0 W w' : World} (h : Kb 0 W0 W) (k : Kq (fun j=>0 < n ∧ j = g) W w') (hg : 0 < n → W0.heap.size ≤ g) : Kb 0 W0 w' :=
  ⟨k.os.trans h.os,k.output.trans h.output,Nat.le_trans h.size k.size,fun i _ hi=>(k.block i (Nat.lt_of_lt_of_le hi h.size) (fun e=>by have:=hg e.1;omega)).trans (h.block i (Nat.zero_le _) hi)⟩
theorem KBl.kb0 {B E : Nat} {W0 W w' : World} (h : Kb 0 W0 W) (k : KBl B E W w') (hB : W0.heap.size ≤ B) : Kb 0 W0 w' :=
  ⟨k.os.trans h.os,k.output.trans h.output,Nat.le_trans h.size k.size,fun i _ hi=>(k.block i (Nat.lt_of_lt_of_le hi h.size) (.inl (by omega))).trans (h.block i (Nat.zero_le _) hi)⟩
theorem law_dec {pa : Option Addr} {ca : Nat} {M : List UInt8} (w : World) (hgd : Gd w) (ha : Arg pa ca M w) :
    Calls Tryz.prog 4 #[.slice pa M.length ca] w fun e w'=>e = .returned (.bool true) ∧ Kb 0 w w':=by
  by_cases hlong : (1048576 : Int) < (M.length : Int)
  · clear hgd ha
    go_enter Tryz.func4,Tryz.ntmps4
    go_wp2_with fail
    go_ret
    exact ⟨rfl,Kb.refl _ _⟩
  · have hM : M.length ≤ 1048576:=by omega
    have HM : Hid (M.length ≤ 1048576):=hM
    have HA : Hid (Gd w ∧ Arg pa ca M w):=(⟨hgd,ha⟩ : _ ∧ _)
    have HR : Hid (∀ W,Kb 0 w W → Calls Tryz.prog 15 #[.slice pa M.length ca] W fun e w'=>∃ p c,e = .returned (.slice p M.length c) ∧ OwnR w' (.slice p M.length c) W.heap.size M.length (fun i=>.int .u8 (byt M i)) ∧ Arg p c M w' ∧ Kb 0 W w' ∧ W.heap.size < w'.heap.size):=(fun W k=>by
      refine (to_byts W (arg_row (ha.keep k)) hM).mono ?_
      rintro e w' ⟨v,rfl,o,b,l⟩
      obtain ⟨p,c,rfl,a⟩:=arg_of o
      exact ⟨p,c,rfl,o,a,Kb.of_below b 0,l⟩ : ∀ W,_)
    clear hgd ha hM
    go_enter Tryz.func4,Tryz.ntmps4
    go_wp2_with fail
    refine ((show ∀ W,Kb 0 w W → _ from HR) w (Kb.refl _ _)).mono ?_
    rintro e w1 ⟨p1,c1,rfl,o1,a1,k1,l1⟩
    have HS:=sp_dec2 a1 (show M.length ≤ 1048576 from HM)
    clear o1 l1
    go_wp2_with fail
    refine HS.mono ?_
    rintro e w2 ⟨vw,Lw,rfl,rw2,tw,lw,dw,k2⟩
    obtain ⟨pw,cw,rfl,_⟩:=id rw2
    obtain ⟨w3,hw3⟩ : ∃ w3,w3 = w2.alloc (.cells #[.slice pw Lw.length cw] 30):=⟨_,rfl⟩
    obtain ⟨h3,hh3⟩ : ∃ h3,h3 = w2.heap.size:=⟨_,rfl⟩
    have k23 : Kb 0 w2 w3:=by rw [hw3];exact kb_alloc _ _ _
    have s3 : w3.heap.size = w2.heap.size + 1:=by rw [hw3];simp
    have c3 : w3.cell? ⟨h3,0,none⟩ = some (.slice pw Lw.length cw):=by rw [hw3,hh3];exact cell_of (alloc_new _ _ _) rfl
    have HW3 : Hid (w3 = w2.alloc (.cells #[.slice pw Lw.length cw] 30) ∧ h3 = w2.heap.size):=(⟨hw3,hh3⟩ : _ ∧ _)
    have HK3 : Hid (Kb 0 w w3 ∧ RowP 0 w3 (.slice pw Lw.length cw) Lw.length (QF Lw) ∧ DecR M Lw ∧ h3 < w3.heap.size ∧ w3.cell? ⟨h3,0,none⟩ = some (.slice pw Lw.length cw)):=(⟨(k1.trans k2).trans k23,rw2.keep k23,dw,by omega,c3⟩ : _ ∧ _)
    clear a1 k1 HS rw2 tw lw dw k2 k23 s3 hw3 hh3 c3
    go_upto_region 4 with fail
    rw [← (show _ ∧ _ from HW3).1,← (show _ ∧ _ from HW3).2]
    clear HW3
    go_wp2_with fail
    refine ((show ∀ W,Kb 0 w W → _ from HR) w3 (show _ ∧ _ ∧ _ ∧ _ ∧ _ from HK3).1).mono ?_
    rintro e w4 ⟨p4,c4,rfl,o4,a4,k4,l4⟩
    have HD:=im_dec ((show _ ∧ _ from HA).1.keep ((show _ ∧ _ ∧ _ ∧ _ ∧ _ from HK3).1.trans k4)) a4 (show M.length ≤ 1048576 from HM)
    have HX4 : Hid (OwnR w4 (.slice p4 M.length c4) w3.heap.size M.length (fun i=>.int .u8 (byt M i)) ∧ Kb 0 w3 w4 ∧ w3.heap.size < w4.heap.size):=(⟨o4,k4,l4⟩ : _ ∧ _)
    clear o4 a4 k4 l4
    go_wp2_with fail
    refine HD.mono ?_
    rintro e w5 ⟨vg,L,rfl,og,ol,tg,dg,k5⟩
    obtain ⟨pg,cg,rfl⟩:=own_shape og
    obtain ⟨w6,hw6⟩ : ∃ w6,w6 = w5.alloc (.cells #[.slice pg L.length cg] 30):=⟨_,rfl⟩
    obtain ⟨h5,hh5⟩ : ∃ h5,h5 = w5.heap.size:=⟨_,rfl⟩
    have k56 : Kb 0 w5 w6:=by rw [hw6];exact kb_alloc _ _ _
    have s6 : w6.heap.size = w5.heap.size + 1:=by rw [hw6];simp
    have c6 : w6.cell? ⟨h5,0,none⟩ = some (.slice pg L.length cg):=by rw [hw6,hh5];exact cell_of (alloc_new _ _ _) rfl
    have HW6 : Hid (w6 = w5.alloc (.cells #[.slice pg L.length cg] 30) ∧ h5 = w5.heap.size):=(⟨hw6,hh5⟩ : _ ∧ _)
    obtain ⟨hsz,hbd⟩:=dec_facts tg dg
    obtain ⟨x1,x2,x3,x4,x5⟩:=(show _ ∧ _ ∧ _ ∧ _ ∧ _ from HK3)
    obtain rfl:=x3.uniq dg
    have hln : (L.map (·.1)).length = L.length:=List.length_map ..
    rw [hln] at x2 x5
    rw [hln]
    obtain ⟨y1,y2,y3⟩:=(show _ ∧ _ ∧ _ from HX4)
    have HF : Hid (SzL L ∧ Bd L.length (QF (L.map (·.1))) ∧ DecR M (L.map (·.1))):=(⟨hsz,hbd,dg⟩ : _ ∧ _)
    have HG : Hid (w5.ownsRow w4.heap.size 50 9 (.slice pg L.length cg) L.length (L.flatMap pvc) ∧ OwnL w4.heap.size w5 L (Value.slice pg L.length cg).ownBlock ∧ Kb 0 w5 w6 ∧ Kb 0 w4 w5 ∧ h5 = w5.heap.size ∧ w6.heap.size = w5.heap.size + 1):=(⟨og,ol,k56,k5,hh5,s6⟩ : _ ∧ _)
    have HP : Hid (∀ W,Kb 0 w6 W → RowP 0 W (.slice pg L.length cg) L.length (QF (L.map (·.1))) ∧ RowP 0 W (.slice pw L.length cw) L.length (QF (L.map (·.1)))):=(fun W k=>⟨(rowP_of (rowBlk' og (fun g e=>k56.block g (Nat.zero_le _) (og.lt g e).2)) (ol.mono (Nat.le_refl _) k56.size (fun g _ hg=>k56.block g (Nat.zero_le _) hg)).r4).keep k,x2.keep (((y2.trans k5).trans k56).trans k)⟩ : ∀ W,_)
    have HC6 : Hid (Kb 0 w3 w6 ∧ Kb 0 w w3 ∧ w6.cell? ⟨h3,0,none⟩ = some (.slice pw L.length cw) ∧ w6.cell? ⟨h5,0,none⟩ = some (.slice pg L.length cg) ∧ h3 < w3.heap.size ∧ w3.cell? ⟨h3,0,none⟩ = some (.slice pw L.length cw) ∧ RowP 0 w3 (.slice pw L.length cw) L.length (QF (L.map (·.1)))):=(⟨(y2.trans k5).trans k56,x1,((y2.trans k5).trans k56).cell x5,c6,x4,x5,x2⟩ : _ ∧ _)
    have HZ34 : Hid (w3.heap.size < w4.heap.size):=y3
    clear HK3 HD og ol tg dg k5 k56 s6 hw6 hh5 hsz hbd x1 x2 x3 x4 x5 y1 y2 y3 c6 hln
    go_upto_region 6 with fail
    rw [← (show _ ∧ _ from HW6).1,← (show _ ∧ _ from HW6).2]
    clear HW6
    have c3 : w6.cell? ⟨h3,0,none⟩ = some (.slice pw L.length cw):=(show _ ∧ _ ∧ _ ∧ _ ∧ _ ∧ _ ∧ _ from HC6).2.2.1
    have c5 : w6.cell? ⟨h5,0,none⟩ = some (.slice pg L.length cg):=(show _ ∧ _ ∧ _ ∧ _ ∧ _ ∧ _ ∧ _ from HC6).2.2.2.1
    go_wp2_with fail
    refine (eq_code w6 ((show ∀ W,Kb 0 w6 W → _ from HP) w6 (Kb.refl _ _)).1 ((show ∀ W,Kb 0 w6 W → _ from HP) w6 (Kb.refl _ _)).2 (show _ ∧ _ ∧ _ from HF).2.1).mono ?_
    rintro e w7 ⟨rfl,k7⟩
    have HK7 : Hid (Kb 0 w6 w7):=k7
    clear c3 c5 k7
    go_wp2_with fail
    refine ((show ∀ W,Kb 0 w W → _ from HR) w7 (((show _ ∧ _ ∧ _ ∧ _ ∧ _ ∧ _ ∧ _ from HC6).2.1.trans (show _ ∧ _ ∧ _ ∧ _ ∧ _ ∧ _ ∧ _ from HC6).1).trans (show Kb 0 w6 w7 from HK7))).mono ?_
    rintro e w8 ⟨p8,c8,rfl,o8,a8,k8,l8⟩
    have K48 : Kb 0 w4 w8:=(((show _ ∧ _ ∧ _ ∧ _ ∧ _ ∧ _ from HG).2.2.2.1.trans (show _ ∧ _ ∧ _ ∧ _ ∧ _ ∧ _ from HG).2.2.1).trans (show Kb 0 w6 w7 from HK7)).trans k8
    have o48 : OwnR w8 (.slice p4 M.length c4) w3.heap.size M.length (fun i=>.int .u8 (byt M i)):=(show _ ∧ _ ∧ _ from HX4).1.kb (fun _=>K48.block _ (Nat.zero_le _) (show _ ∧ _ ∧ _ from HX4).2.2)
    have HE8:=eq_byts w8 o48.row o8.row (show M.length ≤ 1048576 from HM)
    have HK8 : Hid (Kb 0 w7 w8 ∧ OwnR w8 (.slice p4 M.length c4) w3.heap.size M.length (fun i=>.int .u8 (byt M i))):=(⟨k8,o48⟩ : _ ∧ _)
    clear o8 a8 k8 l8 K48 o48
    go_wp2_with fail
    refine HE8.mono ?_
    rintro e w9 ⟨rfl,d9,rfl⟩
    have HB:=mark_byts (w8.drewN d9) 1 ((show _ ∧ _ from HK8).2.kb (fun _=>rfl)) (show M.length ≤ 1048576 from HM) (by omega) (by omega)
    clear HE8
    go_wp2_with fail
    refine HB.mono ?_
    rintro e w10 ⟨rfl,kq,_⟩
    have HS : Hid (Kb 0 w3 w10 ∧ KRr w4.heap.size w5 w10 ∧ w10.cell? ⟨h3,0,none⟩ = some (.slice pw L.length cw) ∧ w10.cell? ⟨h5,0,none⟩ = some (.slice pg L.length cg) ∧ h5 < w10.heap.size):=by
      obtain ⟨x1,x2,x3,x4,x5,x6,x7⟩:=(show _ ∧ _ ∧ _ ∧ _ ∧ _ ∧ _ ∧ _ from HC6)
      obtain ⟨g1,g2,g3,g4,g5,g6⟩:=(show _ ∧ _ ∧ _ ∧ _ ∧ _ ∧ _ from HG)
      obtain ⟨y1,y2,y3⟩:=(show _ ∧ _ ∧ _ from HX4)
      have k68 : Kb 0 w6 (w8.drewN d9):=((show Kb 0 w6 w7 from HK7).trans (show _ ∧ _ from HK8).1).drewN d9
      have z45:=g4.size
      have z68:=k68.size
      have zq:=kq.size
      have hb : ∀ b,b < w6.heap.size → b ≠ w3.heap.size → w10.heap[b]? = w6.heap[b]?:=fun b h1 h2=>(kq.block b (by omega) (fun e=>h2 e.2)).trans (k68.block b (Nat.zero_le _) h1)
      have a1 : Kb 0 w3 w10:=Kq.kb0 (x1.trans k68) kq (fun _=>Nat.le_refl _)
      have a2 : KRr w4.heap.size w5 w10:=⟨by omega,fun b h1 h2=>(hb b (by omega) (by omega)).trans (g3.block b (Nat.zero_le _) h2)⟩
      have a4 : w10.cell? ⟨h5,0,none⟩ = some (.slice pg L.length cg):=by rw [World.cell?_of_block (w:=w6) (hb h5 (by omega) (by omega))];exact x4
      have a5 : h5 < w10.heap.size:=by omega
      exact And.intro a1 (And.intro a2 (And.intro (a1.cell x6) (And.intro a4 a5)))
    have HPW : Hid (∀ W,Kb 0 w3 W → RowP 0 W (.slice pw L.length cw) L.length (QF (L.map (·.1)))):=(fun W k=>(show _ ∧ _ ∧ _ ∧ _ ∧ _ ∧ _ ∧ _ from HC6).2.2.2.2.2.2.keep k : ∀ W,_)
    have hg10 : RowP 0 w10 (.slice pg L.length cg) L.length (QF (L.map (·.1))):=by
      obtain ⟨g1,g2,g3,g4,g5,g6⟩:=(show _ ∧ _ ∧ _ ∧ _ ∧ _ ∧ _ from HG)
      obtain ⟨a1,a2,a3,a4,a5⟩:=(show _ ∧ _ ∧ _ ∧ _ ∧ _ from HS)
      exact rowP_of (rowBlk' g1 (fun g e=>a2.block g (g1.lt g e).1 (g1.lt g e).2)) (g2.mono (Nat.le_refl _) a2.size a2.block).r4
    have HE10:=eq_code w10 hg10 ((show ∀ W,Kb 0 w3 W → _ from HPW) w10 (show _ ∧ _ ∧ _ ∧ _ ∧ _ from HS).1) (show _ ∧ _ ∧ _ from HF).2.1
    have c3 : w10.cell? ⟨h3,0,none⟩ = some (.slice pw L.length cw):=(show _ ∧ _ ∧ _ ∧ _ ∧ _ from HS).2.2.1
    have c5 : w10.cell? ⟨h5,0,none⟩ = some (.slice pg L.length cg):=(show _ ∧ _ ∧ _ ∧ _ ∧ _ from HS).2.2.2.1
    have hk10 : ¬ (1 + (M.length : Int)) < 0:=by omega
    clear HB kq HP HK7 HK8 HX4 hg10
    go_wp2_with fail
    refine HE10.mono ?_
    rintro e w11 ⟨rfl,k11⟩
    have c5' : w11.cell? ⟨h5,0,none⟩ = some (.slice pg L.length cg):=k11.cell c5
    have HMC:=mc_code (W:=w11) (show _ ∧ _ ∧ _ from HF).1 (show _ ∧ _ ∧ _ ∧ _ ∧ _ ∧ _ from HG).1 (show _ ∧ _ ∧ _ ∧ _ ∧ _ ∧ _ from HG).2.1 ⟨Nat.le_trans (show _ ∧ _ ∧ _ ∧ _ ∧ _ from HS).2.1.size k11.size,fun b h1 h2=>(k11.block b (Nat.zero_le _) (Nat.lt_of_lt_of_le h2 (show _ ∧ _ ∧ _ ∧ _ ∧ _ from HS).2.1.size)).trans ((show _ ∧ _ ∧ _ ∧ _ ∧ _ from HS).2.1.block b h1 h2)⟩
    have HS11 : Hid (Kb 0 w3 w11 ∧ h5 < w11.heap.size ∧ w11.cell? ⟨h3,0,none⟩ = some (.slice pw L.length cw)):=(⟨(show _ ∧ _ ∧ _ ∧ _ ∧ _ from HS).1.trans k11,Nat.lt_of_lt_of_le (show _ ∧ _ ∧ _ ∧ _ ∧ _ from HS).2.2.2.2 k11.size,k11.cell c3⟩ : _ ∧ _)
    clear HE10 k11 c3 c5 hk10 HS
    go_wp2_with fail
    refine HMC.mono ?_
    rintro e w12 ⟨rfl,kl,mk⟩
    have HS12 : Hid (Kb 0 w3 w12 ∧ w12.cell? ⟨h3,0,none⟩ = some (.slice pw L.length cw) ∧ w12.cell? ⟨h5,0,none⟩ = some (.slice pg L.length cg)):=by
      obtain ⟨x1,x2,x3,x4,x5,x6,x7⟩:=(show _ ∧ _ ∧ _ ∧ _ ∧ _ ∧ _ ∧ _ from HC6)
      obtain ⟨g1,g2,g3,g4,g5,g6⟩:=(show _ ∧ _ ∧ _ ∧ _ ∧ _ ∧ _ from HG)
      obtain ⟨s1,s2,s3⟩:=(show _ ∧ _ ∧ _ from HS11)
      have q1 : Kb 0 w3 w12:=KBl.kb0 s1 kl (by have:=(show w3.heap.size < w4.heap.size from HZ34);omega)
      have q3 : w12.cell? ⟨h5,0,none⟩ = some (.slice pg L.length cg):=by rw [World.cell?_of_block (w:=w11) (kl.block h5 s2 (.inr (by omega)))];exact c5'
      exact And.intro q1 (And.intro (q1.cell x6) q3)
    have c5 : w12.cell? ⟨h5,0,none⟩ = some (.slice pg L.length cg):=(show _ ∧ _ ∧ _ from HS12).2.2
    have HMK : Hid (MkD w4.heap.size w12 (.slice pg L.length cg) L):=mk
    have HHC:=hc_code (show _ ∧ _ ∧ _ from HF).1 mk
    have hsk : ¬ (1 + (smk L : Int)) < 0:=by omega
    clear HMC kl mk c5' HS11
    generalize hsL : smk L = sL at *
    go_wp2_with fail
    refine HHC.mono ?_
    rintro e w13 ⟨rfl,k13⟩
    have HS13 : Hid (Kb 0 w12 w13):=k13
    clear HHC k13 c5
    go_wp2_with fail
    refine ((show ∀ W,Kb 0 w W → _ from HR) w13 (((show _ ∧ _ ∧ _ ∧ _ ∧ _ ∧ _ ∧ _ from HC6).2.1.trans (show _ ∧ _ ∧ _ from HS12).1).trans (show Kb 0 w12 w13 from HS13))).mono ?_
    rintro e w14 ⟨p14,c14,rfl,o14,a14,k14,l14⟩
    have HS14 : Hid (Kb 0 w12 w14):=(show Kb 0 w12 w13 from HS13).trans k14
    have HD:=im_dec ((show _ ∧ _ from HA).1.keep (((show _ ∧ _ ∧ _ ∧ _ ∧ _ ∧ _ ∧ _ from HC6).2.1.trans (show _ ∧ _ ∧ _ from HS12).1).trans (show Kb 0 w12 w14 from HS14))) a14 (show M.length ≤ 1048576 from HM)
    clear o14 a14 k14 l14 HS13
    go_wp2_with fail
    refine HD.mono ?_
    rintro e w15 ⟨vh,L2,rfl,oh,oh2,th,dh,k15⟩
    obtain ⟨ph,ch,rfl⟩:=own_shape oh
    have eL:=(show _ ∧ _ ∧ _ from HF).2.2.uniq dh
    have hl2 : L2.length = L.length:=by
      have:=congrArg List.length eL
      rw [List.length_map,List.length_map] at this
      exact this.symm
    have rh : RowP 0 w15 (.slice ph L2.length ch) L2.length (QF (L2.map (·.1))):=rowP_of oh oh2.r4
    rw [← eL,hl2] at rh
    rw [hl2]
    obtain ⟨w16,hw16⟩ : ∃ w16,w16 = w15.alloc (.cells #[.slice ph L.length ch] 30):=⟨_,rfl⟩
    obtain ⟨h9,hh9⟩ : ∃ h9,h9 = w15.heap.size:=⟨_,rfl⟩
    have k16 : Kb 0 w15 w16:=by rw [hw16];exact kb_alloc _ _ _
    have c9 : w16.cell? ⟨h9,0,none⟩ = some (.slice ph L.length ch):=by rw [hw16,hh9];exact cell_of (alloc_new _ _ _) rfl
    have HW16 : Hid (w16 = w15.alloc (.cells #[.slice ph L.length ch] 30) ∧ h9 = w15.heap.size):=(⟨hw16,hh9⟩ : _ ∧ _)
    have K16 : Kb 0 w12 w16:=((show Kb 0 w12 w14 from HS14).trans k15).trans k16
    have c3 : w16.cell? ⟨h3,0,none⟩ = some (.slice pw L.length cw):=K16.cell (show _ ∧ _ ∧ _ from HS12).2.1
    have HE16:=eq_code w16 (rh.keep k16) ((show ∀ W,Kb 0 w3 W → _ from HPW) w16 ((show _ ∧ _ ∧ _ from HS12).1.trans K16)) (show _ ∧ _ ∧ _ from HF).2.1
    have HK16 : Hid (Kb 0 w12 w16):=K16
    clear HD oh oh2 th dh k15 eL hl2 rh hw16 hh9 k16 K16 HS14
    go_upto_region 23 with fail
    rw [← (show _ ∧ _ from HW16).1,← (show _ ∧ _ from HW16).2]
    clear HW16
    go_wp2_with fail
    refine HE16.mono ?_
    rintro e w17 ⟨rfl,k17⟩
    have K17 : Kb 0 w12 w17:=(show Kb 0 w12 w16 from HK16).trans k17
    have HHC:=hc_code (show _ ∧ _ ∧ _ from HF).1 ((show MkD _ w12 _ L from HMK).kb K17)
    have c5 : w17.cell? ⟨h5,0,none⟩ = some (.slice pg L.length cg):=K17.cell (show _ ∧ _ ∧ _ from HS12).2.2
    rw [hsL] at HHC
    have HEND : Hid (Kb 0 w w17):=((show _ ∧ _ ∧ _ ∧ _ ∧ _ ∧ _ ∧ _ from HC6).2.1.trans (show _ ∧ _ ∧ _ from HS12).1).trans K17
    clear HE16 k17 K17 c3 c9 HK16 HMK HPW HR HA HM HF HG HC6 HS12 hsL
    go_wp2_with fail
    refine HHC.mono ?_
    rintro e w18 ⟨rfl,k18⟩
    have HEND2 : Hid (Kb 0 w w18):=(show Kb 0 w w17 from HEND).trans k18
    clear HHC k18 c5 HEND
    go_wp2_with fail
    go_ret
    exact ⟨rfl,HEND2⟩
theorem rByts : Tryz.prog.readableRec 26 = true ∧ 26 < Tryz.prog.types.size:=⟨by kernel_rfl,of_decide_eq_true (by kernel_rfl)⟩
theorem cellsB1 : Tryz.prog.cellsOf 5 = 1:=by kernel_rfl
theorem byts_stays {H : Type} {enc : TypeId × Value → H} {W W' : World} {v : Value} {d : DataW H} {p : List MemPlace} (h : DataW.Trod enc Tryz.prog W 0 (fun _=>true) true 26 v d p) (hlt : ∀ x ∈ p,x.block < W.heap.size) (hg : Kb 0 W W') : DataW.Trod enc Tryz.prog W' 0 (fun b=>decide (b < W.heap.size)) true 26 v d p:=by
  obtain ⟨fuel,hf⟩:=h
  refine ⟨fuel,DataW.trod_stays (kids_book laidOut rByts.1) (book_sized rByts.1) (fun h=>by cases h) ⟨rByts.2,book_self 26⟩ hf (fun x hx=>?_) (fun x hx=>by simpa using hlt x hx)⟩
  have hb:=hlt x hx
  cases x with
  | cell b o=>exact World.cell?_of_block (w:=W) (hg.block b (Nat.zero_le _) hb)
  | map b=>exact hg.block b (Nat.zero_le _) hb
theorem read_byts {H : Type} {enc : TypeId × Value → H} {w : World} {base : Nat} {sp : Nat → Bool} {held : Bool} {v : Value} {d : DataW H} {p : List MemPlace} (hv : ∃ a n c,v = .slice a n c) (h : DataW.Trod enc Tryz.prog w base sp held 26 v d p) : ∃ (pa : Option Addr) (ca : Nat) (M : List UInt8),v = .slice pa M.length ca ∧ Arg pa ca M w:=by
  obtain ⟨fuel,hf⟩:=h
  obtain ⟨a0,n0,c0,rfl⟩:=hv
  rcases Deep.open_slice1 Tryz.underlying26 cellsB1 hf with ⟨e,_⟩ | ⟨a,len,cap,m,n,V,D,Pl,e,hb,hl,hm,hmm,hxe,hx⟩
  · simp [Value.cells] at e
    obtain ⟨rfl,rfl,rfl⟩:=e
    exact ⟨none,0,[],rfl,Nat.zero_le _,fun h=>by simp at h⟩
  · have hle : len ≤ m:=by rw [hmm];split <;> omega
    simp [Value.cells] at e
    obtain ⟨rfl,rfl,rfl⟩:=e
    refine ⟨some a,c0,(List.range n0).map (fun i=>UInt8.ofNat (numOf (V i)).toNat),by simp,by simpa using hl,fun _=>⟨a,rfl,fun i x hi=>?_⟩⟩
    rw [List.getElem?_map] at hi
    obtain ⟨j,hj,rfl⟩:=Option.map_eq_some_iff.1 hi
    obtain ⟨hj1,rfl⟩:=List.getElem?_eq_some_iff.1 hj
    simp at hj1
    rw [List.getElem_range]
    obtain ⟨h1,h2⟩:=hx i (by omega)
    obtain ⟨z,e1,_,gb⟩:=DataW.trod_int Tryz.underlying5 h2
    simp only [List.cons.injEq,and_true] at e1
    have hz : 0 ≤ z ∧ z ≤ 255:=by
      simp [Lit.wf,IntKind.min,IntKind.max,IntKind.signed,IntKind.bits] at gb
      omega
    rw [h1,e1]
    show some (Value.int .u8 z) = some (.int .u8 (((UInt8.ofNat z.toNat).toNat : Nat) : Int))
    rw [tn (by omega),Int.toNat_of_nonneg hz.1]
end Go.Proofs.YtnmeemjoodoalaaGreatDoor.Fo
