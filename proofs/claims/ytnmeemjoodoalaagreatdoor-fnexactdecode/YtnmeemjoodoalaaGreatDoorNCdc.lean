import Derived.Test.YtnmeemjoodoalaaGreatDoorNCdb
import Derived.Test.YtnmeemjoodoalaaGreatDoorNCha
set_option maxHeartbeats 32000000
namespace Go.Proofs.YtnmeemjoodoalaaGreatDoor.Fo
open Go.ChangeShapes Go.WideShapes Go.ChangeAt Go.RowKit
set_option linter.unusedVariables false
set_option maxRecDepth 100000
theorem im_ixval {v : Value} {p : Nat} {C : Nat → Vv} (w : World) (hr : RowW 0 w v p C) (hp : p ≤ 1048576) (hC : ∀ i, i < p → ((C i).x.size : Int) ≤ 1048576 ∧ (C i).g < 18446744073709551616) :
    Calls Tryz.prog 105 #[v,.func (.func 106) #[] #[]] w fun e w'=>∃ r : Int,e = .returned (.int .i64 r) ∧ Fb (fun j=>Cok (C j)) p r ∧ Kb 0 w w':=by
  obtain ⟨pa,ca,rfl,hr2⟩:=hr
  have hpI : (p : Int) ≤ 1048576:=by omega
  have HR : Hid ((0 < p → ∃ a : Addr,pa = some a ∧ p ≤ ca ∧ 0 ≤ a.block ∧ ∀ i,i < p → ValC 0 w (a.add (i * 5)) (C i)) ∧ ∀ i,i < p → ((C i).x.size : Int) ≤ 1048576 ∧ (C i).g < 18446744073709551616):=(⟨hr2,hC⟩ : _ ∧ _)
  clear hr2 hp hC
  go_enter Tryz.func105,Tryz.ntmps105
  go_wp2_with fail
  go_loopw [8] (fun s8 wr=>∃ i : Nat,s8 = .int .i64 (i : Int) ∧ i ≤ p ∧ Hid (Kb 0 w wr ∧ ∀ j,j < i → Cok (C j))) (fun s8 _=>p - (intOf s8).toNat)
  case atStart=>exact ⟨0,rfl,Nat.zero_le _,(⟨Kb.refl _ _,fun j hj=>by omega⟩ : _ ∧ _)⟩
  case round =>
    obtain ⟨i,rfl,hin,HI⟩:=hrel
    obtain ⟨kw,ha⟩:=(show Kb 0 w wr ∧ ∀ j,j < i → Cok (C j) from HI)
    rcases Nat.lt_or_ge i p with hi | hi
    · have hiI : (i : Int) < (p : Int):=by omega
      have hR:=(show (0 < p → ∃ a : Addr,pa = some a ∧ p ≤ ca ∧ 0 ≤ a.block ∧ ∀ i,i < p → ValC 0 w (a.add (i * 5)) (C i)) ∧ ∀ i,i < p → ((C i).x.size : Int) ≤ 1048576 ∧ (C i).g < 18446744073709551616 from HR)
      obtain ⟨a,rfl,hca,-,hra⟩:=hR.1 (by omega)
      obtain ⟨d0,d1,d2,d3,d4⟩:=(hra i hi).keep (Nat.zero_le _) kw
      have hcall:=im_nocon (C i) (hR.2 i hi).1 (hR.2 i hi).2 wr
      unfold valv at hcall
      by_cases hn : Cok (C i)
      · rw [dc_f (not_not_intro hn)] at hcall
        have HX : Hid (∀ W,Kb 0 wr W → Kb 0 w W ∧ ∀ j,j < i + 1 → Cok (C j)):=(fun W k=>⟨kw.trans k,fun j hj=>by
          by_cases e : j = i
          · rw [e];exact hn
          · exact ha j (by omega)⟩ : ∀ W,_)
        clear HI ha hra hn kw hR HR
        go_wp2_with fail
        refine hcall.mono ?_
        rintro e w' ⟨rfl,k'⟩
        have HX2 : Hid (Kb 0 w w' ∧ ∀ j,j < i + 1 → Cok (C j)):=(show ∀ W,Kb 0 wr W → _ from HX) w' k'
        clear HX k' hcall d0 d1 d2 d3 d4
        go_wp2_with fail
        go_roundw
        case rel=>exact ⟨i + 1,by go_num,by omega,HX2⟩
        case measure=>simp [intOf];omega
      · rw [dc_t hn] at hcall
        have HX : Hid (∀ W,Kb 0 wr W → Fb (fun j=>Cok (C j)) p (i : Int) ∧ Kb 0 w W):=(fun W k=>⟨Or.inr ⟨i,rfl,hi,hn,ha⟩,kw.trans k⟩ : ∀ W,_)
        clear HI ha hra hn kw hR HR
        go_wp2_with fail
        refine hcall.mono ?_
        rintro e w' ⟨rfl,k'⟩
        have HX2 : Hid (Fb (fun j=>Cok (C j)) p (i : Int) ∧ Kb 0 w w'):=(show ∀ W,Kb 0 wr W → _ from HX) w' k'
        clear HX k' hcall d0 d1 d2 d3 d4
        go_wp2_with fail
        go_ret
        exact ⟨(i : Int),rfl,HX2.1,HX2.2⟩
    · obtain rfl : i = p:=by omega
      have HX : Hid (Fb (fun j=>Cok (C j)) i (-1) ∧ Kb 0 w wr):=(⟨Or.inl ⟨rfl,ha⟩,kw⟩ : _ ∧ _)
      clear HR ha HI kw
      go_wp2_with fail
      go_ret
      exact ⟨-1,rfl,HX.1,HX.2⟩
theorem im_wconst {A : Addr} {np ca p B : Nat} {d : Pd} {vu vc vn vd : Value} (w : World) (hp : p < np) (hnp : np ≤ 1048576) (hb : w.cell? ⟨B, 0, none⟩ = some (.slice (some A) np ca)) (hcel : CelP w (A.add (p * 9)) d vu vc vn vd)
    (hrow : RowW 0 w vc d.c d.C) (hc : d.c ≤ 1048576) (hC : ∀ i,i < d.c → ((d.C i).x.size : Int) ≤ 1048576 ∧ (d.C i).g < 18446744073709551616) :
    Calls Tryz.prog 47 #[.pointer (some ⟨B,0,none⟩),.int .i64 (p : Int)] w fun e w'=>∃ r : Int,e = .returned (.int .i64 r) ∧ Fb (fun j=>Cok (d.C j)) d.c r ∧ Kb 0 w w':=by
  have HX:=im_ixval w hrow hc hC
  obtain ⟨pc,cc,rfl,-⟩:=hrow
  obtain ⟨d0,d1,d2,d3,d4,d5,d6,d7,d8⟩:=hcel
  have hpI : (p : Int) < (np : Int):=by omega
  have hnpI : (np : Int) ≤ 1048576:=by omega
  have hcI : (d.c : Int) ≤ 1048576:=by omega
  clear hC hp hnp d0 d1 d2 d3 d4 d5 d7 d8
  go_enter Tryz.func47,Tryz.ntmps47
  go_wp2_with fail
  refine HX.mono ?_
  rintro e w1 ⟨r,rfl,h1,h2⟩
  go_wp2_with fail
  go_ret
  exact ⟨r,rfl,h1,h2⟩
def Fb5 (np : Nat) (d : Pd) (r : Int) : Prop:=Fb (fun i=>d.n ≠ 0 ∧ Iok np d i) (if d.n = 0 then 1 else d.n) r
theorem im_wins {A : Addr} {np ca p B : Nat} {d : Pd} {pu pc pn pm : Option Addr} {cu cc cn cm : Nat} (w : World) (hp : p < np) (hnp : np ≤ 1048576) (hb : w.cell? ⟨B, 0, none⟩ = some (.slice (some A) np ca)) (hgd : Gd w) (hcel : CelP w (A.add (p * 9)) d (.slice pu d.u cu) (.slice pc d.c cc) (.slice pn d.n cn) (.slice pm d.d cm))
    (hrow : RowI 0 w (.slice pn d.n cn) d.n d.N) (hu : d.u ≤ 1048576) (hc : d.c ≤ 1048576) (hni : d.n ≤ 1048576) (hg : 0 ≤ d.g ∧ d.g ≤ 250) :
    Calls Tryz.prog 49 #[.pointer (some ⟨B,0,none⟩),.int .i64 (p : Int)] w fun e w'=>∃ r : Int,e = .returned (.int .i64 r) ∧ Fb5 np d r ∧ Kb 0 w w':=by
  obtain ⟨d0,d1,d2,d3,d4,d5,d6,d7,d8⟩:=hcel
  have hpI : (p : Int) < (np : Int):=by omega
  have hnpI : (np : Int) ≤ 1048576:=by omega
  have hnI : (d.n : Int) ≤ 1048576:=by omega
  obtain ⟨w1,hw1⟩ : ∃ w1,w1 = w.alloc (.cells #[.string d.x,.int .i64 d.l,.int .i64 d.m,.bool d.r,.int .i64 d.g,.slice pu d.u cu,.slice pc d.c cc,.slice pn d.n cn,.slice pm d.d cm] 50):=⟨_,rfl⟩
  have k1 : Kb 0 w w1:=by rw [hw1];exact kb_alloc _ _ _
  have bb : w1.heap[w.heap.size]? = some (.cells #[.string d.x,.int .i64 d.l,.int .i64 d.m,.bool d.r,.int .i64 d.g,.slice pu d.u cu,.slice pc d.c cc,.slice pn d.n cn,.slice pm d.d cm] 50 (0,0)):=by rw [hw1];exact alloc_new _ _ _
  have HB : Hid (Kb 0 w w1 ∧ Gd w1 ∧ w1.cell? ⟨B,0,none⟩ = some (.slice (some A) np ca) ∧ RowI 0 w1 (.slice pn d.n cn) d.n d.N ∧ w1.cell? ⟨w.heap.size,0,none⟩ = some (.string d.x) ∧ w1.cell? ⟨w.heap.size,1,none⟩ = some (.int .i64 d.l) ∧ w1.cell? ⟨w.heap.size,2,none⟩ = some (.int .i64 d.m) ∧ w1.cell? ⟨w.heap.size,3,none⟩ = some (.bool d.r) ∧ w1.cell? ⟨w.heap.size,4,none⟩ = some (.int .i64 d.g) ∧ w1.cell? ⟨w.heap.size,5,none⟩ = some (.slice pu d.u cu) ∧ w1.cell? ⟨w.heap.size,6,none⟩ = some (.slice pc d.c cc) ∧ w1.cell? ⟨w.heap.size,7,none⟩ = some (.slice pn d.n cn) ∧ w1.cell? ⟨w.heap.size,8,none⟩ = some (.slice pm d.d cm)):=(show _ ∧ _ ∧ _ ∧ _ ∧ _ ∧ _ ∧ _ ∧ _ ∧ _ ∧ _ ∧ _ ∧ _ ∧ _ from ⟨k1,hgd.keep k1,k1.cell hb,hrow.keep k1,cell_of bb rfl,cell_of bb rfl,cell_of bb rfl,cell_of bb rfl,cell_of bb rfl,cell_of bb rfl,cell_of bb rfl,cell_of bb rfl,cell_of bb rfl⟩)
  have HW : Hid (w1 = w.alloc (.cells #[.string d.x,.int .i64 d.l,.int .i64 d.m,.bool d.r,.int .i64 d.g,.slice pu d.u cu,.slice pc d.c cc,.slice pn d.n cn,.slice pm d.d cm] 50)):=hw1
  have HY : Hid (np ≤ 1048576 ∧ d.u ≤ 1048576 ∧ d.c ≤ 1048576 ∧ d.n ≤ 1048576 ∧ (0 ≤ d.g ∧ d.g ≤ 250)):=(⟨hnp,hu,hc,hni,hg⟩ : _ ∧ _)
  clear hp hnp hrow k1 hw1 bb hgd hu hc hni hg
  go_enter Tryz.func49,Tryz.ntmps49
  go_wp2_with fail
  rw [← (show w1 = _ from HW)]
  clear d0 d1 d2 d3 d4 d5 d6 d7 d8 hb HW
  go_loopw [23] (fun sl wr=>∃ i : Nat,sl = .int .i64 (i : Int) ∧ i ≤ d.n ∧ Hid (Kb 0 w1 wr ∧ ∀ y,y < i → Iok np d y)) (fun sl _=>d.n - (intOf sl).toNat)
  case atStart=>exact ⟨0,rfl,Nat.zero_le _,(⟨Kb.refl _ _,fun y h=>by omega⟩ : _ ∧ _)⟩
  case round =>
    obtain ⟨i,rfl,hi,HX⟩:=hrel
    obtain ⟨kw,hX⟩:=(show Kb 0 w1 wr ∧ ∀ y,y < i → Iok np d y from HX)
    obtain ⟨k1,hgd,hb,hrow,c0,c1,c2,c3,c4,c5,c6,c7,c8⟩:=(show Kb 0 w w1 ∧ Gd w1 ∧ w1.cell? ⟨B,0,none⟩ = some (.slice (some A) np ca) ∧ RowI 0 w1 (.slice pn d.n cn) d.n d.N ∧ w1.cell? ⟨w.heap.size,0,none⟩ = some (.string d.x) ∧ w1.cell? ⟨w.heap.size,1,none⟩ = some (.int .i64 d.l) ∧ w1.cell? ⟨w.heap.size,2,none⟩ = some (.int .i64 d.m) ∧ w1.cell? ⟨w.heap.size,3,none⟩ = some (.bool d.r) ∧ w1.cell? ⟨w.heap.size,4,none⟩ = some (.int .i64 d.g) ∧ w1.cell? ⟨w.heap.size,5,none⟩ = some (.slice pu d.u cu) ∧ w1.cell? ⟨w.heap.size,6,none⟩ = some (.slice pc d.c cc) ∧ w1.cell? ⟨w.heap.size,7,none⟩ = some (.slice pn d.n cn) ∧ w1.cell? ⟨w.heap.size,8,none⟩ = some (.slice pm d.d cm) from HB)
    obtain ⟨hnp,hu,hc,hni,hg⟩:=(show np ≤ 1048576 ∧ d.u ≤ 1048576 ∧ d.c ≤ 1048576 ∧ d.n ≤ 1048576 ∧ (0 ≤ d.g ∧ d.g ≤ 250) from HY)
    rcases Nat.lt_or_ge i d.n with h | h
    · have hI : (i : Int) < (d.n : Int):=by omega
      obtain ⟨pn',cn',e1,hrow2⟩:=hrow
      obtain ⟨rfl,-,rfl⟩ : pn = pn' ∧ d.n = d.n ∧ cn = cn':=by simpa using e1
      obtain ⟨b,rfl,hcb,-,hrb⟩:=hrow2 (by omega)
      obtain ⟨q0,q1,q2,q3,q4⟩:=(hrb i h).keep (Nat.zero_le _) kw
      have o0 : ∀ o,(wr.alloc o).cell? ⟨w.heap.size,0,none⟩ = some (.string d.x):=fun o=>(kw.alloc o).cell c0
      have o1 : ∀ o,(wr.alloc o).cell? ⟨w.heap.size,1,none⟩ = some (.int .i64 d.l):=fun o=>(kw.alloc o).cell c1
      have o2 : ∀ o,(wr.alloc o).cell? ⟨w.heap.size,2,none⟩ = some (.int .i64 d.m):=fun o=>(kw.alloc o).cell c2
      have o3 : ∀ o,(wr.alloc o).cell? ⟨w.heap.size,3,none⟩ = some (.bool d.r):=fun o=>(kw.alloc o).cell c3
      have o4 : ∀ o,(wr.alloc o).cell? ⟨w.heap.size,4,none⟩ = some (.int .i64 d.g):=fun o=>(kw.alloc o).cell c4
      have o5 : ∀ o,(wr.alloc o).cell? ⟨w.heap.size,5,none⟩ = some (.slice pu d.u cu):=fun o=>(kw.alloc o).cell c5
      have o6 : ∀ o,(wr.alloc o).cell? ⟨w.heap.size,6,none⟩ = some (.slice pc d.c cc):=fun o=>(kw.alloc o).cell c6
      have o7 : ∀ o,(wr.alloc o).cell? ⟨w.heap.size,7,none⟩ = some (.slice (some b) d.n cn):=fun o=>(kw.alloc o).cell c7
      have o8 : ∀ o,(wr.alloc o).cell? ⟨w.heap.size,8,none⟩ = some (.slice pm d.d cm):=fun o=>(kw.alloc o).cell c8
      have HIT : ∀ o,Calls Tryz.prog 107 #[.pointer (some ⟨B,0,none⟩),.agg #[.string d.x,.int .i64 d.l,.int .i64 d.m,.bool d.r,.int .i64 d.g,.slice pu d.u cu,.slice pc d.c cc,.slice (some b) d.n cn,.slice pm d.d cm],.agg #[.int .i64 (d.N i).o,.int .i64 (d.N i).a,.int .i64 (d.N i).b,.int .i64 (d.N i).c,.int .i64 (d.N i).d]] (wr.alloc o) fun e w'=>e = .returned (.bool (dc (Tok np d (d.N i)))) ∧ Kb 0 (wr.alloc o) w':=fun o=>im_intable (d.N i) (wr.alloc o) hnp ((kw.alloc o).cell hb) (hgd.keep (kw.alloc o)) hu hc hni hg
      have hiok : Iok np d i ↔ Tok np d (d.N i) ∧ (i + 1 = d.n → Ends (d.N i).o):=Iff.rfl
      have hgood : Iok np d i → ∀ o W,Kb 0 (wr.alloc o) W → Kb 0 w1 W ∧ ∀ y,y < i + 1 → Iok np d y:=fun c o W k=>⟨(kw.alloc o).trans k,fun y hy=>by
        by_cases e : y = i
        · subst e;exact c
        · exact hX y (by omega)⟩
      have hbad : ¬ Iok np d i → ∀ o W,Kb 0 (wr.alloc o) W → Fb5 np d (i : Int) ∧ Kb 0 w W:=fun c o W k=>⟨Or.inr ⟨i,rfl,by rw [if_neg (by omega)];exact h,fun q=>c q.2,fun y hy=>⟨by omega,hX y hy⟩⟩,k1.trans ((kw.alloc o).trans k)⟩
      clear HX hX kw hrow2 hrb e1 HB c0 c1 c2 c3 c4 c5 c6 c7 c8 k1 hgd hb hnp hu hc hni hg HY
      generalize Iok np d i = Q at *
      generalize Tok np d (d.N i) = TQ at *
      generalize d.N i = v at *
      obtain ⟨vo,va,vb,vc,vd⟩:=v
      dsimp only at q0 q1 q2 q3 q4 HIT hiok
      have HEN:=fun W=>im_ends vo W
      by_cases ct : TQ
      rotate_left
      · rw [dc_f ct] at HIT
        have HBO : Hid (∀ o W,Kb 0 (wr.alloc o) W → Fb5 np d (i : Int) ∧ Kb 0 w W):=hbad (fun q=>ct (hiok.1 q).1)
        clear hgood hbad hiok ct HEN
        go_wp2_with fail
        refine (HIT _).mono ?_
        rintro e w5 ⟨rfl,k5⟩
        have i0 : w5.cell? ⟨wr.heap.size,0,none⟩ = some (.int .i64 vo):=k5.cell (cell_of (alloc_new wr _ _) rfl)
        have HX3 : Hid (Fb5 np d (i : Int) ∧ Kb 0 w w5):=(show ∀ o W,Kb 0 (wr.alloc o) W → _ from HBO) _ w5 k5
        clear k5 HIT HBO o0 o1 o2 o3 o4 o5 o6 o7 o8 q0 q1 q2 q3 q4
        go_wp2_with fail
        go_ret
        exact ⟨_,rfl,HX3.1,HX3.2⟩
      rw [dc_t ct] at HIT
      by_cases cl : i + 1 = d.n
      rotate_left
      · have gl : ((i : Int) == (d.n : Int) - 1) = false:=bne (by omega)
        have HGO : Hid (∀ o W,Kb 0 (wr.alloc o) W → Kb 0 w1 W ∧ ∀ y,y < i + 1 → Iok np d y):=hgood (hiok.2 ⟨ct,fun q=>absurd q cl⟩)
        clear hgood hbad hiok ct cl HEN
        go_wp2_with fail
        refine (HIT _).mono ?_
        rintro e w5 ⟨rfl,k5⟩
        have i0 : w5.cell? ⟨wr.heap.size,0,none⟩ = some (.int .i64 vo):=k5.cell (cell_of (alloc_new wr _ _) rfl)
        have HX3 : Hid (Kb 0 w1 w5 ∧ ∀ y,y < i + 1 → Iok np d y):=(show ∀ o W,Kb 0 (wr.alloc o) W → _ from HGO) _ w5 k5
        clear k5 HIT HGO o0 o1 o2 o3 o4 o5 o6 o7 o8 q0 q1 q2 q3 q4
        go_wp2_with fail
        go_roundw
        case rel=>exact ⟨i + 1,by go_num,by omega,HX3⟩
        case measure=>simp [intOf];omega
      have gl : ((i : Int) == (d.n : Int) - 1) = true:=beq1 (by omega)
      by_cases ce : Ends vo
      · rw [dc_t ce] at HEN
        have HGO : Hid (∀ o W,Kb 0 (wr.alloc o) W → Kb 0 w1 W ∧ ∀ y,y < i + 1 → Iok np d y):=hgood (hiok.2 ⟨ct,fun _=>ce⟩)
        clear hgood hbad hiok ct cl ce
        go_wp2_with fail
        refine (HIT _).mono ?_
        rintro e w5 ⟨rfl,k5⟩
        have i0 : w5.cell? ⟨wr.heap.size,0,none⟩ = some (.int .i64 vo):=k5.cell (cell_of (alloc_new wr _ _) rfl)
        have HX3 : Hid (Kb 0 w1 w5 ∧ ∀ y,y < i + 1 → Iok np d y):=(show ∀ o W,Kb 0 (wr.alloc o) W → _ from HGO) _ w5 k5
        clear k5 HIT HGO o0 o1 o2 o3 o4 o5 o6 o7 o8 q0 q1 q2 q3 q4
        go_wp2_with (go_at_call 108;refine (HEN _).mono ?_;rintro e w6 ⟨rfl,rfl⟩)
        go_roundw
        case rel=>exact ⟨i + 1,by go_num,by omega,HX3⟩
        case measure=>simp [intOf];omega
      · rw [dc_f ce] at HEN
        have HBO : Hid (∀ o W,Kb 0 (wr.alloc o) W → Fb5 np d (i : Int) ∧ Kb 0 w W):=hbad (fun q=>ce ((hiok.1 q).2 cl))
        clear hgood hbad hiok ct cl ce
        go_wp2_with fail
        refine (HIT _).mono ?_
        rintro e w5 ⟨rfl,k5⟩
        have i0 : w5.cell? ⟨wr.heap.size,0,none⟩ = some (.int .i64 vo):=k5.cell (cell_of (alloc_new wr _ _) rfl)
        have HX3 : Hid (Fb5 np d (i : Int) ∧ Kb 0 w w5):=(show ∀ o W,Kb 0 (wr.alloc o) W → _ from HBO) _ w5 k5
        clear k5 HIT HBO o0 o1 o2 o3 o4 o5 o6 o7 o8 q0 q1 q2 q3 q4
        go_wp2_with (go_at_call 108;refine (HEN _).mono ?_;rintro e w6 ⟨rfl,rfl⟩)
        go_ret
        exact ⟨_,rfl,HX3.1,HX3.2⟩
    · have hI : ¬ (i : Int) < (d.n : Int):=by omega
      have HK : Hid (Kb 0 w wr):=k1.trans kw
      by_cases hz : d.n = 0
      · have HX3 : Hid (Fb5 np d 0) := by
          show Fb (fun i=>d.n ≠ 0 ∧ Iok np d i) (if d.n = 0 then 1 else d.n) 0
          rw [if_pos hz]
          exact Or.inr ⟨0,rfl,by omega,fun q=>q.1 hz,fun y hy=>by omega⟩
        have gz : (d.n : Int) - 1 < 0:=by omega
        clear HX hX kw HB k1 hrow c0 c1 c2 c3 c4 c5 c6 c7 c8 hgd hb hnp hu hc hni hg HY
        go_wp2_with fail
        go_ret
        exact ⟨_,rfl,HX3,HK⟩
      · have HX3 : Hid (Fb5 np d (-1)) := by
          show Fb (fun i=>d.n ≠ 0 ∧ Iok np d i) (if d.n = 0 then 1 else d.n) (-1)
          rw [if_neg hz]
          exact Or.inl ⟨rfl,fun y hy=>⟨hz,hX y (by omega)⟩⟩
        have gz : ¬ (d.n : Int) - 1 < 0:=by omega
        clear HX hX kw HB k1 hrow c0 c1 c2 c3 c4 c5 c6 c7 c8 hgd hb hnp hu hc hni hg HY
        go_wp2_with fail
        go_ret
        exact ⟨_,rfl,HX3,HK⟩
end Go.Proofs.YtnmeemjoodoalaaGreatDoor.Fo
