import Derived.Test.YtnmeemjoodoalaaGreatDoorNCda
import Derived.Deep.RegionHeldLaw
set_option maxHeartbeats 32000000
namespace Go.Proofs.YtnmeemjoodoalaaGreatDoor.Fo
open Go.ChangeShapes Go.WideShapes Go.ChangeAt Go.RowKit
set_option linter.unusedVariables false
set_option maxRecDepth 100000
theorem two_new (w : World) (a b : Array Value) (t1 t2 : TypeId) (W : World) (h : W = (w.alloc (.cells a t1)).alloc (.cells b t2)) : W.heap[w.heap.size]? = some (.cells a t1 (0,0)) ∧ W.heap[w.heap.size + 1]? = some (.cells b t2 (0,0)) ∧ W.heap.size = w.heap.size + 2 ∧ Kb 0 w W:=by
  subst h
  have e1 : (w.alloc (.cells a t1)).heap.size = w.heap.size + 1:=World.size_alloc _ _
  refine ⟨?_,?_,by rw [World.size_alloc,e1],kb_alloc2 _ _ _ _⟩
  · rw [(kb_alloc 0 _ _).block _ (Nat.zero_le _) (by omega)]
    exact alloc_new _ _ _
  · rw [← e1]
    exact alloc_new _ _ _
theorem four_cells {w : World} {g : Nat} {a b c d : Value} {t : TypeId} (h : w.heap[g]? = some (.cells #[a,b,c,d] t (0,0))) (E : Nat → Value) (h0 : E 0 = a) (h1 : E 1 = b) (h2 : E 2 = c) (h3 : E 3 = d) : ∀ j,j < 4 → w.cell? ((⟨g,0,none⟩ : Addr).add j) = some (E j):=by
  intro j hj
  rw [addr0]
  rcases (by omega : j = 0 ∨ j = 1 ∨ j = 2 ∨ j = 3) with rfl | rfl | rfl | rfl
  · rw [h0];exact cell_of h rfl
  · rw [h1];exact cell_of h rfl
  · rw [h2];exact cell_of h rfl
  · rw [h3];exact cell_of h rfl
theorem sp_roles' (n : Nat) (h1 : 1 ≤ n) (h2 : n ≤ 42) (w : World) : Calls Tryz.prog 133 #[.int .i64 (n : Int)] w fun e w'=>∃ F : Addr,e = .returned (.slice (some F) 4 4) ∧ (∀ j,j < 4 → w'.cell? (F.add j) = some (.int .i64 (mr n j : Int))) ∧ Kb 0 w w':=by
  refine (sp_roles n h1 h2 w).mono ?_
  rintro e w' ⟨rfl,rfl⟩
  exact ⟨⟨w.heap.size,0,none⟩,rfl,four_cells (alloc_new w _ _) (fun j=>.int .i64 (mr n j : Int)) rfl rfl rfl rfl,kb_alloc _ _ _⟩
theorem sp_fields' (a : Iv) (w : World) : Calls Tryz.prog 43 #[insv a] w fun e w'=>∃ F : Addr,e = .returned (.slice (some F) 4 4) ∧ (∀ j,j < 4 → w'.cell? (F.add j) = some (.int .i64 (fld a j))) ∧ Kb 0 w w':=by
  refine (sp_fields a w).mono ?_
  rintro e w' ⟨rfl,rfl⟩
  obtain ⟨-,h2,-,k⟩:=two_new w _ _ _ _ _ rfl
  exact ⟨⟨w.heap.size + 1,0,none⟩,rfl,four_cells h2 (fun j=>.int .i64 (fld a j)) rfl rfl rfl rfl,k⟩
theorem sp_insok {A : Addr} {np ca p i : Nat} {d : Pd} {pu pc pn pm : Option Addr} {cu cc cn cm : Nat} (w : World) (hp : p < np) (hnp : np ≤ 1048576) (hcel : CelP w (A.add (p * 9)) d (.slice pu d.u cu) (.slice pc d.c cc) (.slice pn d.n cn) (.slice pm d.d cm)) (hrow : RowI 0 w (.slice pn d.n cn) d.n d.N) (hi : i < d.n) (hu : d.u ≤ 1048576) (hc : d.c ≤ 1048576) (hni : d.n ≤ 1048576) (hg : 0 ≤ d.g ∧ d.g ≤ 250) :
    Calls Tryz.prog 98 #[.agg #[.slice (some A) np ca],.int .i64 (p : Int),.int .i64 (i : Int)] w fun e w'=>e = .returned (.bool (dc (Iok np d i))) ∧ Kb 0 w w':=by
  have hcelK : ∀ W,Kb 0 w W → CelP W (A.add (p * 9)) d (.slice pu d.u cu) (.slice pc d.c cc) (.slice pn d.n cn) (.slice pm d.d cm):=fun W k=>hcel.keep (Nat.zero_le _) k
  obtain ⟨d0,d1,d2,d3,d4,d5,d6,d7,d8⟩:=hcelK _ (kb_alloc 0 w (.cells #[.slice (some A) np ca] 30))
  obtain ⟨pn',cn',e1,hrow2⟩:=hrow
  obtain ⟨rfl,-,rfl⟩ : pn = pn' ∧ d.n = d.n ∧ cn = cn':=by simpa using e1
  obtain ⟨b,rfl,hcb,-,hrb⟩:=hrow2 (by omega)
  obtain ⟨q0,q1,q2,q3,q4⟩:=(hrb i hi).keep (Nat.zero_le _) (kb_alloc 0 w (.cells #[.slice (some A) np ca] 30))
  have hpI : (p : Int) < (np : Int):=by omega
  have hnpI : (np : Int) ≤ 1048576:=by omega
  have hiI : (i : Int) < (d.n : Int):=by omega
  have hniI : (d.n : Int) ≤ 1048576:=by omega
  clear hrow2 hrb e1 d0 d1 d2 d3 d4 d5 d6 d8
  by_cases ho : 1 ≤ (d.N i).o ∧ (d.N i).o ≤ 42
  rotate_left
  · rw [dc_f (fun q : Iok np d i=>ho ⟨q.1.1,q.1.2.1⟩)]
    have HN:=fun W=>sp_noroles (d.N i).o ho W
    clear ho hcelK hcel hu hc
    go_enter Tryz.func98,Tryz.ntmps98
    go_wp2_with (go_at_call 133;refine (HN _).mono ?_;rintro e w1 ⟨rfl,rfl⟩)
    go_ret
    exact ⟨rfl,kb_alloc2 _ _ _ _⟩
  obtain ⟨n,hn⟩ : ∃ n : Nat,(d.N i).o = (n : Int):=⟨(d.N i).o.toNat,by omega⟩
  obtain ⟨R,hR⟩ : ∃ R,R = dc (Iok np d i):=⟨_,rfl⟩
  rw [← hR]
  have HFT : ∀ (P : Prop),(∀ j,j < 4 → Fit np d (mcl (mr n j)) (fld (d.N i) j)) → (Iok np d i ↔ (i + 1 = d.n → Ends (d.N i).o)):=fun _ h=>⟨fun q=>q.2,fun q=>⟨⟨ho.1,ho.2,fun j hj=>by
    have e:=cl_eq0 n (by omega) j hj
    rw [show (d.N i).o.toNat = n by omega,e.1]
    exact h j hj⟩,q⟩⟩
  have HFF : ∀ j,j < 4 → ¬ Fit np d (mcl (mr n j)) (fld (d.N i) j) → ¬ Iok np d i:=fun j hj h q=>h (by
    have e:=cl_eq0 n (by omega) j hj
    rw [← e.1]
    have:=q.1.2.2 j hj
    rwa [show (d.N i).o.toNat = n by omega] at this)
  have HR : Hid (R = dc (Iok np d i) ∧ (∀ (P : Prop),(∀ j,j < 4 → Fit np d (mcl (mr n j)) (fld (d.N i) j)) → (Iok np d i ↔ (i + 1 = d.n → Ends (d.N i).o))) ∧ ∀ j,j < 4 → ¬ Fit np d (mcl (mr n j)) (fld (d.N i) j) → ¬ Iok np d i):=(⟨hR,HFT,HFF⟩ : _ ∧ _)
  have HY : Hid ((∀ W,Kb 0 w W → CelP W (A.add (p * 9)) d (.slice pu d.u cu) (.slice pc d.c cc) (.slice (some b) d.n cn) (.slice pm d.d cm)) ∧ (p < np ∧ np ≤ 1048576 ∧ d.u ≤ 1048576 ∧ d.c ≤ 1048576 ∧ d.n ≤ 1048576 ∧ (0 ≤ d.g ∧ d.g ≤ 250)) ∧ (1 ≤ n ∧ n ≤ 42)):=(⟨hcelK,⟨hp,hnp,hu,hc,hni,hg⟩,(by omega : 1 ≤ n ∧ n ≤ 42)⟩ : _ ∧ _)
  have HRO:=fun W=>sp_roles' n (by omega) (by omega) W
  rw [← hn] at HRO
  clear hR HFT HFF hcelK hcel hp hnp hu hc hni hg ho hi hn
  generalize d.N i = a at *
  have HFD:=fun W=>sp_fields' a W
  unfold insv at HFD
  obtain ⟨w2,hw2⟩ : ∃ w2,w2 = (w.alloc (.cells #[.slice (some A) np ca] 30)).alloc (.cells #[.int .i64 a.o,.int .i64 a.a,.int .i64 a.b,.int .i64 a.c,.int .i64 a.d] 81):=⟨_,rfl⟩
  have HW : Hid (w2 = (w.alloc (.cells #[.slice (some A) np ca] 30)).alloc (.cells #[.int .i64 a.o,.int .i64 a.a,.int .i64 a.b,.int .i64 a.c,.int .i64 a.d] 81)):=hw2
  obtain ⟨b0,b1,bs,k2⟩:=two_new w _ _ _ _ w2 hw2
  have HB : Hid (w2.heap[w.heap.size]? = some (.cells #[.slice (some A) np ca] 30 (0,0)) ∧ w2.heap[w.heap.size + 1]? = some (.cells #[.int .i64 a.o,.int .i64 a.a,.int .i64 a.b,.int .i64 a.c,.int .i64 a.d] 81 (0,0)) ∧ w2.heap.size = w.heap.size + 2 ∧ Kb 0 w w2):=(⟨b0,b1,bs,k2⟩ : _ ∧ _)
  clear hw2 b0 b1 bs k2
  go_enter Tryz.func98,Tryz.ntmps98
  go_wp2_with fail
  rw [← (show w2 = _ from HW)]
  clear HW q0 q1 q2 q3 q4 d7
  refine (HRO w2).mono ?_
  rintro e w3 ⟨F,rfl,hF,k3⟩
  clear HRO
  obtain ⟨b0,b1,bs,k2⟩:=(show w2.heap[w.heap.size]? = some (.cells #[.slice (some A) np ca] 30 (0,0)) ∧ w2.heap[w.heap.size + 1]? = some (.cells #[.int .i64 a.o,.int .i64 a.a,.int .i64 a.b,.int .i64 a.c,.int .i64 a.d] 81 (0,0)) ∧ w2.heap.size = w.heap.size + 2 ∧ Kb 0 w w2 from HB)
  have c0 : w3.cell? ⟨w.heap.size,0,none⟩ = some (.slice (some A) np ca):=k3.cell (cell_of b0 rfl)
  have i0 : w3.cell? ⟨w.heap.size + 1,0,none⟩ = some (.int .i64 a.o):=k3.cell (cell_of b1 rfl)
  have i1 : w3.cell? ⟨w.heap.size + 1,1,none⟩ = some (.int .i64 a.a):=k3.cell (cell_of b1 rfl)
  have i2 : w3.cell? ⟨w.heap.size + 1,2,none⟩ = some (.int .i64 a.b):=k3.cell (cell_of b1 rfl)
  have i3 : w3.cell? ⟨w.heap.size + 1,3,none⟩ = some (.int .i64 a.c):=k3.cell (cell_of b1 rfl)
  have i4 : w3.cell? ⟨w.heap.size + 1,4,none⟩ = some (.int .i64 a.d):=k3.cell (cell_of b1 rfl)
  have HK3 : Hid (Kb 0 w w3 ∧ ∀ j,j < 4 → w3.cell? (F.add j) = some (.int .i64 (mr n j : Int))):=(⟨k2.trans k3,hF⟩ : _ ∧ _)
  clear HB b0 b1 bs k2 k3 hF
  go_wp2_with fail
  refine (HFD w3).mono ?_
  rintro e w4 ⟨G,rfl,hG,k4⟩
  have HS : Hid (Kb 0 w w4 ∧ w4.cell? ⟨w.heap.size,0,none⟩ = some (.slice (some A) np ca) ∧ w4.cell? ⟨w.heap.size + 1,0,none⟩ = some (.int .i64 a.o) ∧ (∀ j,j < 4 → w4.cell? (F.add j) = some (.int .i64 (mr n j : Int))) ∧ ∀ j,j < 4 → w4.cell? (G.add j) = some (.int .i64 (fld a j))):=by
    obtain ⟨k3,hF⟩:=(show Kb 0 w w3 ∧ ∀ j,j < 4 → w3.cell? (F.add j) = some (.int .i64 (mr n j : Int)) from HK3)
    exact (show _ ∧ _ ∧ _ ∧ _ ∧ _ from ⟨k3.trans k4,k4.cell c0,k4.cell i0,fun j hj=>k4.cell (hF j hj),hG⟩)
  clear HK3 c0 i0 i1 i2 i3 i4 hG k4 HFD
  go_wp2_with fail
  go_loopw [30] (fun s30 wr=>∃ j : Nat,s30 = .int .i64 (j : Int) ∧ j ≤ 4 ∧ Hid (Kb 0 w4 wr ∧ ∀ y,y < j → Fit np d (mcl (mr n y)) (fld a y))) (fun s30 _=>4 - (intOf s30).toNat)
  case atStart=>exact ⟨0,rfl,Nat.zero_le _,(⟨Kb.refl _ _,fun y h=>by omega⟩ : _ ∧ _)⟩
  case round =>
    obtain ⟨j,rfl,hj,HX⟩:=hrel
    obtain ⟨kw,hX⟩:=(show Kb 0 w4 wr ∧ ∀ y,y < j → Fit np d (mcl (mr n y)) (fld a y) from HX)
    obtain ⟨k4,c0,i0,hF,hG⟩:=(show Kb 0 w w4 ∧ w4.cell? ⟨w.heap.size,0,none⟩ = some (.slice (some A) np ca) ∧ w4.cell? ⟨w.heap.size + 1,0,none⟩ = some (.int .i64 a.o) ∧ (∀ j,j < 4 → w4.cell? (F.add j) = some (.int .i64 (mr n j : Int))) ∧ ∀ j,j < 4 → w4.cell? (G.add j) = some (.int .i64 (fld a j)) from HS)
    obtain ⟨hcel,⟨hp,hnp,hu,hc,hni,hg⟩,h1,h42⟩:=(show (∀ W,Kb 0 w W → CelP W (A.add (p * 9)) d (.slice pu d.u cu) (.slice pc d.c cc) (.slice (some b) d.n cn) (.slice pm d.d cm)) ∧ (p < np ∧ np ≤ 1048576 ∧ d.u ≤ 1048576 ∧ d.c ≤ 1048576 ∧ d.n ≤ 1048576 ∧ (0 ≤ d.g ∧ d.g ≤ 250)) ∧ (1 ≤ n ∧ n ≤ 42) from HY)
    obtain ⟨hR,HFT,HFF⟩:=(show R = dc (Iok np d i) ∧ (∀ (P : Prop),(∀ j,j < 4 → Fit np d (mcl (mr n j)) (fld a j)) → (Iok np d i ↔ (i + 1 = d.n → Ends a.o))) ∧ ∀ j,j < 4 → ¬ Fit np d (mcl (mr n j)) (fld a j) → ¬ Iok np d i from HR)
    have c0r:=kw.cell c0
    rcases Nat.lt_or_ge j 4 with h | h
    · have hI : (j : Int) < 4:=by omega
      have a0:=kw.cell (hF j h)
      have a1:=kw.cell (hG j h)
      have heq : ∀ W',W'.heap = wr.heap → W'.os = wr.os → W'.output = wr.output → Calls Tryz.prog 134 #[.agg #[.slice (some A) np ca],.int .i64 (p : Int),.int .i64 (mr n j : Int),.int .i64 (fld a j)] W' fun e w'=>e = .returned (.bool (dc (Fit np d (mcl (mr n j)) (fld a j)))) ∧ Kb 0 wr w':=fun W' e0 e1 e2=>by
        have kk : Kb 0 wr W':=⟨e1,e2,by rw [e0];exact Nat.le_refl _,fun k _ _=>by rw [e0]⟩
        refine (sp_fits W' (fld a j) (cl_eq0 n (by omega) j h).2.2 hp hnp (hcel W' ((k4.trans kw).trans kk)) hu hc hni hg).mono ?_
        rintro e w' ⟨rfl,k⟩
        exact ⟨rfl,kk.trans k⟩
      have HKEEP : Hid (∀ (W' : World),Kb 0 wr W' → W'.cell? ⟨w.heap.size,0,none⟩ = some (.slice (some A) np ca) ∧ W'.cell? (F.add j) = some (.int .i64 (mr n j : Int))):=by
        show ∀ (W' : World),_
        intro W' k
        exact ⟨k.cell c0r,k.cell a0⟩
      by_cases hft : Fit np d (mcl (mr n j)) (fld a j)
      · rw [dc_t hft] at heq
        have HX2 : Hid (∀ W,Kb 0 wr W → Kb 0 w4 W ∧ ∀ y,y < j + 1 → Fit np d (mcl (mr n y)) (fld a y)):=(fun W k=>⟨kw.trans k,fun y h2=>by
          by_cases e : y = j
          · subst e;exact hft
          · exact hX y (by omega)⟩ : ∀ W,_)
        have HEQ : Hid (∀ W',W'.heap = wr.heap → W'.os = wr.os → W'.output = wr.output → Calls Tryz.prog 134 #[.agg #[.slice (some A) np ca],.int .i64 (p : Int),.int .i64 (mr n j : Int),.int .i64 (fld a j)] W' fun e w'=>e = .returned (.bool true) ∧ Kb 0 wr w'):=heq
        clear HX hX kw hft heq hR HFT HFF hcel hp hnp hu hc hni hg h1 h42 hF hG k4 c0 i0
        generalize fld a j = xj at *
        generalize mr n j = mj at *
        go_wp2_with fail
        go_region_held_law (fun W'=>W'.cell? ⟨w.heap.size,0,none⟩ = some (.slice (some A) np ca) ∧ W'.cell? (F.add j) = some (.int .i64 (mj : Int))) (first | exact ⟨c0r,a0⟩ | exact (show ∀ (W' : World),_ from HKEEP) _ k5)
          ((go_at_call 134;refine ((show ∀ W',W'.heap = wr.heap → W'.os = wr.os → W'.output = wr.output → Calls Tryz.prog 134 #[.agg #[.slice (some A) np ca],.int .i64 (p : Int),.int .i64 (mj : Int),.int .i64 xj] W' fun e w'=>e = .returned (.bool true) ∧ Kb 0 wr w' from HEQ) _ (by exact rfl) (by exact rfl) (by exact rfl)).mono ?_;rintro e w5 ⟨rfl,k5⟩))
        all_goals
          have HX3 : Hid (Kb 0 w4 w5 ∧ ∀ y,y < j + 1 → Fit np d (mcl (mr n y)) (fld a y)):=(show ∀ W,Kb 0 wr W → _ from HX2) w5 k5
          clear HX2 HKEEP HEQ k5 a0 a1 c0r
          go_wp2_with fail
          go_roundw
          case rel=>exact ⟨j + 1,by go_num,by omega,HX3⟩
          case measure=>simp [intOf];omega
      · rw [dc_f hft] at heq
        have HX2 : Hid (∀ W,Kb 0 wr W → Kb 0 w W):=(fun W k=>(k4.trans kw).trans k : ∀ W,_)
        have HEQ : Hid (∀ W',W'.heap = wr.heap → W'.os = wr.os → W'.output = wr.output → Calls Tryz.prog 134 #[.agg #[.slice (some A) np ca],.int .i64 (p : Int),.int .i64 (mr n j : Int),.int .i64 (fld a j)] W' fun e w'=>e = .returned (.bool false) ∧ Kb 0 wr w'):=heq
        have hF0 : R = false:=by rw [hR];exact dc_f (HFF j h hft)
        subst hF0
        clear HX hX kw hft heq hR HFT HFF hcel hp hnp hu hc hni hg h1 h42 hF hG k4 c0 i0 HR
        generalize fld a j = xj at *
        generalize mr n j = mj at *
        go_wp2_with fail
        go_region_held_law (fun W'=>W'.cell? ⟨w.heap.size,0,none⟩ = some (.slice (some A) np ca) ∧ W'.cell? (F.add j) = some (.int .i64 (mj : Int))) (first | exact ⟨c0r,a0⟩ | exact (show ∀ (W' : World),_ from HKEEP) _ k5)
          ((go_at_call 134;refine ((show ∀ W',W'.heap = wr.heap → W'.os = wr.os → W'.output = wr.output → Calls Tryz.prog 134 #[.agg #[.slice (some A) np ca],.int .i64 (p : Int),.int .i64 (mj : Int),.int .i64 xj] W' fun e w'=>e = .returned (.bool false) ∧ Kb 0 wr w' from HEQ) _ (by exact rfl) (by exact rfl) (by exact rfl)).mono ?_;rintro e w5 ⟨rfl,k5⟩))
        all_goals
          have HX3 : Hid (Kb 0 w w5):=(show ∀ W,Kb 0 wr W → _ from HX2) w5 k5
          clear HX2 HKEEP HEQ k5 a0 a1 c0r
          go_wp2_with fail
          go_ret
          exact ⟨rfl,HX3⟩
    · obtain rfl : j = 4:=by omega
      obtain ⟨d0,d1,d2,d3,d4,d5,d6,d7,d8⟩:=hcel wr (k4.trans kw)
      have i0r:=kw.cell i0
      have hIff:=HFT True hX
      have HK : Hid (Kb 0 w wr):=k4.trans kw
      clear HX hX kw HFT HFF hcel hp hnp hu hc hni hg h1 h42 hF hG k4 c0 i0 HR d0 d1 d2 d3 d4 d5 d6 d8 HS HY
      by_cases hl : i + 1 = d.n
      · have gl : ((i : Int) == (d.n : Int) - 1) = true:=beq1 (by omega)
        by_cases o1 : a.o = 19
        · have hT : R = true:=by rw [hR];exact dc_t (hIff.2 (fun _=>.inl o1))
          subst hT
          have g1:=beq1 o1
          clear hIff hR o1 hl
          go_wp2_with fail
          go_ret
          exact ⟨by first | rfl | simp [g1],HK⟩
        by_cases o2 : a.o = 29
        · have hT : R = true:=by rw [hR];exact dc_t (hIff.2 (fun _=>.inr (.inl o2)))
          subst hT
          have g1:=bne o1
          have g2:=beq1 o2
          clear hIff hR o1 o2 hl
          go_wp2_with fail
          go_ret
          exact ⟨by first | rfl | simp [g1,g2],HK⟩
        by_cases o3 : a.o = 30
        · have hT : R = true:=by rw [hR];exact dc_t (hIff.2 (fun _=>.inr (.inr o3)))
          subst hT
          have g1:=bne o1
          have g2:=bne o2
          have g3:=beq1 o3
          clear hIff hR o1 o2 o3 hl
          go_wp2_with fail
          go_ret
          exact ⟨by first | rfl | simp [g1,g2,g3],HK⟩
        · have hT : R = false:=by rw [hR];exact dc_f (fun q=>((hIff.1 q) hl).elim o1 (fun q=>q.elim o2 o3))
          subst hT
          have g1:=bne o1
          have g2:=bne o2
          have g3:=bne o3
          clear hIff hR o1 o2 o3 hl
          go_wp2_with fail
          go_ret
          exact ⟨by first | rfl | simp [g1,g2,g3],HK⟩
      · have gl : ((i : Int) == (d.n : Int) - 1) = false:=bne (by omega)
        have hT : R = true:=by rw [hR];exact dc_t (hIff.2 (fun q=>absurd q hl))
        subst hT
        clear hIff hR hl
        go_wp2_with fail
        go_ret
        exact ⟨by first | rfl | simp [gl],HK⟩
end Go.Proofs.YtnmeemjoodoalaaGreatDoor.Fo
