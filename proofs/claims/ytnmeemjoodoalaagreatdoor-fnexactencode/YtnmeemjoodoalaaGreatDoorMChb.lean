import Derived.Test.YtnmeemjoodoalaaGreatDoorMCdd
set_option maxHeartbeats 32000000
namespace Go.Proofs.YtnmeemjoodoalaaGreatDoor.Fo
open Go.ChangeShapes Go.WideShapes Go.ChangeAt Go.RowKit
set_option linter.unusedVariables false
set_option maxRecDepth 100000
def Gd (w : World) : Prop:=∀ o,o < 43 → ∀ j,j < 4 → w.cell? ⟨0,o * 4 + j,none⟩ = some (.int .u8 (pr o j : Int))
theorem Gd.keep {w w' : World} (h : Gd w) (k : Kb 0 w w') : Gd w':=fun o ho j hj=>k.cell (h o ho j hj)
structure KW (w0 : World) where
  w : World
  k : Kb 0 w0 w
theorem wp_region_kb {w0 : World} {P : Program} {id : Nat} {Q : Exit → Act → World → Prop} {A : Act} {l : List Oper} (hm : P.follows .mixedOrders = true) (hB : Region.lexB .any l.toArray = true)
    (h : wpQuiet P l.toArray (fun w'=>∃ p : KW w0,w' = p.w) (fun a'=>∀ w',(∃ p : KW w0,w' = p.w) → Q .normal a' w') l A) : (Code.region id l.toArray true).wp P Q A w0 :=
  wp_region_quiet (C:=fun w'=>∃ p : KW w0,w' = p.w) hm hB ⟨⟨_,(Kb.refl 0 w0).drew⟩,rfl⟩ (by simpa using h)
theorem ix_0 (x0 x1 x2 x3 : Int) (w : World) : (Instr.index 184 (.agg #[.int .i64 x0,.int .i64 x1,.int .i64 x2,.int .i64 x3]) (.int .i64 0)).run Tryz.prog w = .ok (.int .i64 x0) w:=by
  first
    | kernel_rfl
    | simp [Instr.index,run_underlying Tryz.underlying184,asIntOf,go_sem]
theorem ix_1 (x0 x1 x2 x3 : Int) (w : World) : (Instr.index 184 (.agg #[.int .i64 x0,.int .i64 x1,.int .i64 x2,.int .i64 x3]) (.int .i64 1)).run Tryz.prog w = .ok (.int .i64 x1) w:=by
  first
    | kernel_rfl
    | simp [Instr.index,run_underlying Tryz.underlying184,asIntOf,go_sem]
theorem ix_2 (x0 x1 x2 x3 : Int) (w : World) : (Instr.index 184 (.agg #[.int .i64 x0,.int .i64 x1,.int .i64 x2,.int .i64 x3]) (.int .i64 2)).run Tryz.prog w = .ok (.int .i64 x2) w:=by
  first
    | kernel_rfl
    | simp [Instr.index,run_underlying Tryz.underlying184,asIntOf,go_sem]
theorem ix_3 (x0 x1 x2 x3 : Int) (w : World) : (Instr.index 184 (.agg #[.int .i64 x0,.int .i64 x1,.int .i64 x2,.int .i64 x3]) (.int .i64 3)).run Tryz.prog w = .ok (.int .i64 x3) w:=by
  first
    | kernel_rfl
    | simp [Instr.index,run_underlying Tryz.underlying184,asIntOf,go_sem]
theorem im_intable {A : Addr} {np ca B : Nat} {d : Pd} {pu pc pn pm : Option Addr} {cu cc cn cm : Nat} (a : Iv) (w : World) (hnp : np ≤ 1048576) (hb : w.cell? ⟨B, 0, none⟩ = some (.slice (some A) np ca)) (hgd : Gd w) (hu : d.u ≤ 1048576) (hc : d.c ≤ 1048576) (hni : d.n ≤ 1048576) (hg : 0 ≤ d.g ∧ d.g ≤ 250) :
    Calls Tryz.prog 107 #[.pointer (some ⟨B,0,none⟩),.agg #[.string d.x,.int .i64 d.l,.int .i64 d.m,.bool d.r,.int .i64 d.g,.slice pu d.u cu,.slice pc d.c cc,.slice pn d.n cn,.slice pm d.d cm],.agg #[.int .i64 a.o,.int .i64 a.a,.int .i64 a.b,.int .i64 a.c,.int .i64 a.d]] w fun e w'=>e = .returned (.bool (dc (Tok np d a))) ∧ Kb 0 w w':=by
  by_cases ho1 : 1 ≤ a.o
  rotate_left
  · rw [dc_f (fun q : Tok np d a=>ho1 q.1)]
    have g1 : a.o < 1:=by omega
    clear ho1 hgd
    go_enter Tryz.func107,Tryz.ntmps107
    go_wp2_with fail
    go_ret
    exact ⟨rfl,kb_alloc2 _ _ _ _⟩
  by_cases ho2 : a.o ≤ 42
  rotate_left
  · rw [dc_f (fun q : Tok np d a=>ho2 q.2.1)]
    have g1 : ¬ a.o < 1:=by omega
    have g2 : 42 < a.o:=by omega
    clear ho1 ho2 hgd
    go_enter Tryz.func107,Tryz.ntmps107
    go_wp2_with fail
    go_ret
    exact ⟨rfl,kb_alloc2 _ _ _ _⟩
  obtain ⟨n,hn⟩ : ∃ n : Nat,a.o = (n : Int):=⟨a.o.toNat,by omega⟩
  have g1 : ¬ (n : Int) < 1:=by omega
  have g2 : ¬ 42 < (n : Int):=by omega
  obtain ⟨R,hR⟩ : ∃ R,R = dc (Tok np d a):=⟨_,rfl⟩
  rw [← hR]
  have hTK : Tok np d a ↔ ∀ j,j < 4 → Fit np d (pcl (pr n j)) (fld a j):=by
    unfold Tok
    rw [show a.o.toNat = n by omega]
    exact ⟨fun q=>q.2.2,fun q=>⟨ho1,ho2,q⟩⟩
  have HR : Hid (R = dc (Tok np d a) ∧ (Tok np d a ↔ ∀ j,j < 4 → Fit np d (pcl (pr n j)) (fld a j))):=(⟨hR,hTK⟩ : _ ∧ _)
  have HY : Hid (np ≤ 1048576 ∧ d.u ≤ 1048576 ∧ d.c ≤ 1048576 ∧ d.n ≤ 1048576 ∧ (0 ≤ d.g ∧ d.g ≤ 250) ∧ (1 ≤ n ∧ n ≤ 42) ∧ a.o = (n : Int)):=(⟨hnp,hu,hc,hni,hg,⟨by omega,by omega⟩,hn⟩ : _ ∧ _)
  have HF:=fun W=>im_fieldsof a W
  unfold insv at HF
  obtain ⟨w2,hw2⟩ : ∃ w2,w2 = (w.alloc (.cells #[.string d.x,.int .i64 d.l,.int .i64 d.m,.bool d.r,.int .i64 d.g,.slice pu d.u cu,.slice pc d.c cc,.slice pn d.n cn,.slice pm d.d cm] 50)).alloc (.cells #[.int .i64 a.o,.int .i64 a.a,.int .i64 a.b,.int .i64 a.c,.int .i64 a.d] 81):=⟨_,rfl⟩
  obtain ⟨b0,b1,bs,k2⟩:=two_new' w _ _ _ _ w2 hw2
  have HB : Hid (w2.heap[w.heap.size]? = some (.cells #[.string d.x,.int .i64 d.l,.int .i64 d.m,.bool d.r,.int .i64 d.g,.slice pu d.u cu,.slice pc d.c cc,.slice pn d.n cn,.slice pm d.d cm] 50 (0,0)) ∧ w2.heap[w.heap.size + 1]? = some (.cells #[.int .i64 a.o,.int .i64 a.a,.int .i64 a.b,.int .i64 a.c,.int .i64 a.d] 81 (0,0)) ∧ Kb 0 w w2 ∧ Gd w2 ∧ w2.cell? ⟨B,0,none⟩ = some (.slice (some A) np ca)):=(⟨b0,b1,k2,hgd.keep k2,k2.cell hb⟩ : _ ∧ _)
  rw [hn] at hw2 HF
  have HW : Hid (w2 = _):=hw2
  clear hw2 b0 b1 bs k2 hR hTK hgd hb hnp hu hc hni hg ho1 ho2
  rw [hn]
  go_enter Tryz.func107,Tryz.ntmps107
  go_wp2_with fail
  rw [← (show w2 = _ from HW)]
  clear HW
  refine (HF w2).mono ?_
  rintro e w3 ⟨rfl,k3⟩
  have HS : Hid (Kb 0 w w3 ∧ w3.cell? ⟨w.heap.size,0,none⟩ = some (.string d.x) ∧ w3.cell? ⟨w.heap.size,1,none⟩ = some (.int .i64 d.l) ∧ w3.cell? ⟨w.heap.size,2,none⟩ = some (.int .i64 d.m) ∧ w3.cell? ⟨w.heap.size,3,none⟩ = some (.bool d.r) ∧ w3.cell? ⟨w.heap.size,4,none⟩ = some (.int .i64 d.g) ∧ w3.cell? ⟨w.heap.size,5,none⟩ = some (.slice pu d.u cu) ∧ w3.cell? ⟨w.heap.size,6,none⟩ = some (.slice pc d.c cc) ∧ w3.cell? ⟨w.heap.size,7,none⟩ = some (.slice pn d.n cn) ∧ w3.cell? ⟨w.heap.size,8,none⟩ = some (.slice pm d.d cm) ∧ w3.cell? ⟨w.heap.size + 1,0,none⟩ = some (.int .i64 (n : Int)) ∧ Gd w3 ∧ w3.cell? ⟨B,0,none⟩ = some (.slice (some A) np ca)):=by
    obtain ⟨b0,b1,k2,hgd,hb⟩:=(show w2.heap[w.heap.size]? = some (.cells #[.string d.x,.int .i64 d.l,.int .i64 d.m,.bool d.r,.int .i64 d.g,.slice pu d.u cu,.slice pc d.c cc,.slice pn d.n cn,.slice pm d.d cm] 50 (0,0)) ∧ w2.heap[w.heap.size + 1]? = some (.cells #[.int .i64 a.o,.int .i64 a.a,.int .i64 a.b,.int .i64 a.c,.int .i64 a.d] 81 (0,0)) ∧ Kb 0 w w2 ∧ Gd w2 ∧ w2.cell? ⟨B,0,none⟩ = some (.slice (some A) np ca) from HB)
    rw [hn] at b1
    exact (show _ ∧ _ ∧ _ ∧ _ ∧ _ ∧ _ ∧ _ ∧ _ ∧ _ ∧ _ ∧ _ ∧ _ ∧ _ from ⟨k2.trans k3,k3.cell (cell_of b0 rfl),k3.cell (cell_of b0 rfl),k3.cell (cell_of b0 rfl),k3.cell (cell_of b0 rfl),k3.cell (cell_of b0 rfl),k3.cell (cell_of b0 rfl),k3.cell (cell_of b0 rfl),k3.cell (cell_of b0 rfl),k3.cell (cell_of b0 rfl),k3.cell (cell_of b1 rfl),hgd.keep k3,k3.cell hb⟩)
  clear k3 HB HF hn
  go_wp2_with fail
  go_loopw [19] (fun sl wr=>∃ j : Nat,sl = .int .i64 (j : Int) ∧ j ≤ 4 ∧ Hid (Kb 0 w3 wr ∧ ∀ y,y < j → Fit np d (pcl (pr n y)) (fld a y))) (fun sl _=>4 - (intOf sl).toNat)
  case atStart=>exact ⟨0,rfl,Nat.zero_le _,(⟨Kb.refl _ _,fun y h=>by omega⟩ : _ ∧ _)⟩
  case round =>
    obtain ⟨j,rfl,hj,HX⟩:=hrel
    obtain ⟨kw,hX⟩:=(show Kb 0 w3 wr ∧ ∀ y,y < j → Fit np d (pcl (pr n y)) (fld a y) from HX)
    obtain ⟨k03,c0,c1,c2,c3,c4,c5,c6,c7,c8,i0,hgd,hb⟩:=(show Kb 0 w w3 ∧ w3.cell? ⟨w.heap.size,0,none⟩ = some (.string d.x) ∧ w3.cell? ⟨w.heap.size,1,none⟩ = some (.int .i64 d.l) ∧ w3.cell? ⟨w.heap.size,2,none⟩ = some (.int .i64 d.m) ∧ w3.cell? ⟨w.heap.size,3,none⟩ = some (.bool d.r) ∧ w3.cell? ⟨w.heap.size,4,none⟩ = some (.int .i64 d.g) ∧ w3.cell? ⟨w.heap.size,5,none⟩ = some (.slice pu d.u cu) ∧ w3.cell? ⟨w.heap.size,6,none⟩ = some (.slice pc d.c cc) ∧ w3.cell? ⟨w.heap.size,7,none⟩ = some (.slice pn d.n cn) ∧ w3.cell? ⟨w.heap.size,8,none⟩ = some (.slice pm d.d cm) ∧ w3.cell? ⟨w.heap.size + 1,0,none⟩ = some (.int .i64 (n : Int)) ∧ Gd w3 ∧ w3.cell? ⟨B,0,none⟩ = some (.slice (some A) np ca) from HS)
    obtain ⟨hnp,hu,hc,hni,hg,⟨n1,n42⟩,hn⟩:=(show np ≤ 1048576 ∧ d.u ≤ 1048576 ∧ d.c ≤ 1048576 ∧ d.n ≤ 1048576 ∧ (0 ≤ d.g ∧ d.g ≤ 250) ∧ (1 ≤ n ∧ n ≤ 42) ∧ a.o = (n : Int) from HY)
    obtain ⟨hR,hTK⟩:=(show R = dc (Tok np d a) ∧ (Tok np d a ↔ ∀ j,j < 4 → Fit np d (pcl (pr n j)) (fld a j)) from HR)
    rcases Nat.lt_or_ge j 4 with h | h
    · have hI : (j : Int) < 4:=by omega
      have hpr:=(cl_eq0 n (by omega) j h).2.1
      have ht : ∀ p : KW wr,p.w.cell? ⟨0,n * 4 + j,none⟩ = some (.int .u8 (pr n j : Int)):=fun p=>p.k.cell (kw.cell (hgd n (by omega) j h))
      have e0 : ∀ p : KW wr,p.w.cell? ⟨w.heap.size,0,none⟩ = some (.string d.x):=fun p=>p.k.cell (kw.cell c0)
      have e1 : ∀ p : KW wr,p.w.cell? ⟨w.heap.size,1,none⟩ = some (.int .i64 d.l):=fun p=>p.k.cell (kw.cell c1)
      have e2 : ∀ p : KW wr,p.w.cell? ⟨w.heap.size,2,none⟩ = some (.int .i64 d.m):=fun p=>p.k.cell (kw.cell c2)
      have e3 : ∀ p : KW wr,p.w.cell? ⟨w.heap.size,3,none⟩ = some (.bool d.r):=fun p=>p.k.cell (kw.cell c3)
      have e4 : ∀ p : KW wr,p.w.cell? ⟨w.heap.size,4,none⟩ = some (.int .i64 d.g):=fun p=>p.k.cell (kw.cell c4)
      have e5 : ∀ p : KW wr,p.w.cell? ⟨w.heap.size,5,none⟩ = some (.slice pu d.u cu):=fun p=>p.k.cell (kw.cell c5)
      have e6 : ∀ p : KW wr,p.w.cell? ⟨w.heap.size,6,none⟩ = some (.slice pc d.c cc):=fun p=>p.k.cell (kw.cell c6)
      have e7 : ∀ p : KW wr,p.w.cell? ⟨w.heap.size,7,none⟩ = some (.slice pn d.n cn):=fun p=>p.k.cell (kw.cell c7)
      have e8 : ∀ p : KW wr,p.w.cell? ⟨w.heap.size,8,none⟩ = some (.slice pm d.d cm):=fun p=>p.k.cell (kw.cell c8)
      have ei : ∀ p : KW wr,p.w.cell? ⟨w.heap.size + 1,0,none⟩ = some (.int .i64 (n : Int)):=fun p=>p.k.cell (kw.cell i0)
      have C1 : ∀ p : KW wr,Calls Tryz.prog 144 #[.pointer (some ⟨B,0,none⟩),.agg #[.string d.x,.int .i64 d.l,.int .i64 d.m,.bool d.r,.int .i64 d.g,.slice pu d.u cu,.slice pc d.c cc,.slice pn d.n cn,.slice pm d.d cm],.int .u8 (pr n j : Int)] p.w fun e w'=>e = .returned (.agg #[.int .i64 (rg np d (pcl (pr n j))).1,.int .i64 (rg np d (pcl (pr n j))).2]) ∧ ∃ q : KW wr,w' = q.w:=fun p=>by
        refine (im_allows p.w hpr hnp (p.k.cell (kw.cell hb)) hu hc hni hg).mono ?_
        rintro e w' ⟨rfl,k⟩
        exact ⟨rfl,⟨w',p.k.trans k⟩,rfl⟩
      have C2 : ∀ p : KW wr,Calls Tryz.prog 145 #[.agg #[.int .i64 (rg np d (pcl (pr n j))).1,.int .i64 (rg np d (pcl (pr n j))).2],.int .i64 (fld a j)] p.w fun e w'=>e = .returned (.bool (dc (Fit np d (pcl (pr n j)) (fld a j)))) ∧ ∃ q : KW wr,w' = q.w:=fun p=>by
        refine (im_holds _ _ _ p.w).mono ?_
        rintro e w' ⟨rfl,k⟩
        exact ⟨rfl,⟨w',p.k.trans k⟩,rfl⟩
      have hne : Nonempty (KW wr):=⟨⟨wr,Kb.refl _ _⟩⟩
      have hgood : Fit np d (pcl (pr n j)) (fld a j) → ∀ p : KW wr,Kb 0 w3 p.w ∧ ∀ y,y < j + 1 → Fit np d (pcl (pr n y)) (fld a y):=fun c p=>⟨kw.trans p.k,fun y hy=>by
        by_cases e : y = j
        · subst e;exact c
        · exact hX y (by omega)⟩
      have hbad : ¬ Fit np d (pcl (pr n j)) (fld a j) → R = false ∧ ∀ p : KW wr,Kb 0 w p.w:=fun c=>⟨by rw [hR];exact dc_f (fun q=>c (hTK.1 q j h)),fun p=>(k03.trans kw).trans p.k⟩
      clear HX hX kw k03 c0 c1 c2 c3 c4 c5 c6 c7 c8 i0 hgd hb hnp hu hc hni hg n1 n42 hn hR hTK hpr
      generalize hF0 : Fit np d (pcl (pr n j)) (fld a j) = FF at *
      generalize (rg np d (pcl (pr n j))).1 = lo at *
      generalize (rg np d (pcl (pr n j))).2 = hi at *
      rcases (by omega : j = 0 ∨ j = 1 ∨ j = 2 ∨ j = 3) with rfl | rfl | rfl | rfl
      · replace C2 : ∀ p : KW wr,Calls Tryz.prog 145 #[.agg #[.int .i64 lo,.int .i64 hi],.int .i64 a.a] p.w fun e w'=>e = .returned (.bool (dc FF)) ∧ ∃ q : KW wr,w' = q.w:=C2
        replace ht : ∀ p : KW wr,p.w.cell? ⟨0,n * 4,none⟩ = some (.int .u8 (pr n 0 : Int)):=ht
        generalize pr n 0 = rj at *
        have hix:=ix_0 a.a a.b a.c a.d
        by_cases c : FF
        · rw [dc_t c] at C2
          have HG : Hid (∀ p : KW wr,Kb 0 w3 p.w ∧ ∀ y,y < 0 + 1 → Fit np d (pcl (pr n y)) (fld a y)):=hgood c
          clear hgood hbad c hF0
          go_wp2_with fail
          refine wp_region_kb (by kernel_rfl) (by kernel_rfl) ?_
          go_big_quiet_step ((fail))
          go_big_quiet_step ((fail))
          go_big_quiet_step ((fail))
          go_big_quiet_step ((fail))
          go_big_quiet_step ((fail))
          go_big_quiet_step ((fail))
          go_big_quiet_step ((fail))
          go_big_quiet_step ((fail))
          go_big_quiet_step ((go_at_call 144;exact C1 _))
          go_big_quiet_step ((fail))
          go_big_quiet_step ((go_at_call 145;exact C2 _))
          go_big_quiet_step ((fail))
          refine wpQuiet_nil ?_
          intro w5 hw'
          have HX3 : Hid (Kb 0 w3 w5 ∧ ∀ y,y < 0 + 1 → Fit np d (pcl (pr n y)) (fld a y)):=by
            obtain ⟨q,hq⟩:=hw'
            rw [hq]
            exact (show ∀ p : KW wr,_ from HG) q
          clear hw' HG C1 C2 ht e0 e1 e2 e3 e4 e5 e6 e7 e8 ei hne hix
          go_wp2_with fail
          go_roundw
          case rel=>exact ⟨0 + 1,by go_num,by omega,HX3⟩
          case measure=>simp [intOf]
        · rw [dc_f c] at C2
          obtain ⟨hF,hk⟩:=hbad c
          subst hF
          have HG : Hid (∀ p : KW wr,Kb 0 w p.w):=hk
          clear hgood hbad c hF0 hk HR
          go_wp2_with fail
          refine wp_region_kb (by kernel_rfl) (by kernel_rfl) ?_
          go_big_quiet_step ((fail))
          go_big_quiet_step ((fail))
          go_big_quiet_step ((fail))
          go_big_quiet_step ((fail))
          go_big_quiet_step ((fail))
          go_big_quiet_step ((fail))
          go_big_quiet_step ((fail))
          go_big_quiet_step ((fail))
          go_big_quiet_step ((go_at_call 144;exact C1 _))
          go_big_quiet_step ((fail))
          go_big_quiet_step ((go_at_call 145;exact C2 _))
          go_big_quiet_step ((fail))
          refine wpQuiet_nil ?_
          intro w5 hw'
          have HX3 : Hid (Kb 0 w w5):=by
            obtain ⟨q,hq⟩:=hw'
            rw [hq]
            exact (show ∀ p : KW wr,_ from HG) q
          clear hw' HG C1 C2 ht e0 e1 e2 e3 e4 e5 e6 e7 e8 ei hne hix
          go_wp2_with fail
          go_ret
          exact ⟨rfl,HX3⟩
      · replace C2 : ∀ p : KW wr,Calls Tryz.prog 145 #[.agg #[.int .i64 lo,.int .i64 hi],.int .i64 a.b] p.w fun e w'=>e = .returned (.bool (dc FF)) ∧ ∃ q : KW wr,w' = q.w:=C2
        generalize pr n 1 = rj at *
        have hix:=ix_1 a.a a.b a.c a.d
        by_cases c : FF
        · rw [dc_t c] at C2
          have HG : Hid (∀ p : KW wr,Kb 0 w3 p.w ∧ ∀ y,y < 1 + 1 → Fit np d (pcl (pr n y)) (fld a y)):=hgood c
          clear hgood hbad c hF0
          go_wp2_with fail
          refine wp_region_kb (by kernel_rfl) (by kernel_rfl) ?_
          go_big_quiet_step ((fail))
          go_big_quiet_step ((fail))
          go_big_quiet_step ((fail))
          go_big_quiet_step ((fail))
          go_big_quiet_step ((fail))
          go_big_quiet_step ((fail))
          go_big_quiet_step ((fail))
          go_big_quiet_step ((fail))
          go_big_quiet_step ((go_at_call 144;exact C1 _))
          go_big_quiet_step ((fail))
          go_big_quiet_step ((go_at_call 145;exact C2 _))
          go_big_quiet_step ((fail))
          refine wpQuiet_nil ?_
          intro w5 hw'
          have HX3 : Hid (Kb 0 w3 w5 ∧ ∀ y,y < 1 + 1 → Fit np d (pcl (pr n y)) (fld a y)):=by
            obtain ⟨q,hq⟩:=hw'
            rw [hq]
            exact (show ∀ p : KW wr,_ from HG) q
          clear hw' HG C1 C2 ht e0 e1 e2 e3 e4 e5 e6 e7 e8 ei hne hix
          go_wp2_with fail
          go_roundw
          case rel=>exact ⟨1 + 1,by go_num,by omega,HX3⟩
          case measure=>simp [intOf]
        · rw [dc_f c] at C2
          obtain ⟨hF,hk⟩:=hbad c
          subst hF
          have HG : Hid (∀ p : KW wr,Kb 0 w p.w):=hk
          clear hgood hbad c hF0 hk HR
          go_wp2_with fail
          refine wp_region_kb (by kernel_rfl) (by kernel_rfl) ?_
          go_big_quiet_step ((fail))
          go_big_quiet_step ((fail))
          go_big_quiet_step ((fail))
          go_big_quiet_step ((fail))
          go_big_quiet_step ((fail))
          go_big_quiet_step ((fail))
          go_big_quiet_step ((fail))
          go_big_quiet_step ((fail))
          go_big_quiet_step ((go_at_call 144;exact C1 _))
          go_big_quiet_step ((fail))
          go_big_quiet_step ((go_at_call 145;exact C2 _))
          go_big_quiet_step ((fail))
          refine wpQuiet_nil ?_
          intro w5 hw'
          have HX3 : Hid (Kb 0 w w5):=by
            obtain ⟨q,hq⟩:=hw'
            rw [hq]
            exact (show ∀ p : KW wr,_ from HG) q
          clear hw' HG C1 C2 ht e0 e1 e2 e3 e4 e5 e6 e7 e8 ei hne hix
          go_wp2_with fail
          go_ret
          exact ⟨rfl,HX3⟩
      · replace C2 : ∀ p : KW wr,Calls Tryz.prog 145 #[.agg #[.int .i64 lo,.int .i64 hi],.int .i64 a.c] p.w fun e w'=>e = .returned (.bool (dc FF)) ∧ ∃ q : KW wr,w' = q.w:=C2
        generalize pr n 2 = rj at *
        have hix:=ix_2 a.a a.b a.c a.d
        by_cases c : FF
        · rw [dc_t c] at C2
          have HG : Hid (∀ p : KW wr,Kb 0 w3 p.w ∧ ∀ y,y < 2 + 1 → Fit np d (pcl (pr n y)) (fld a y)):=hgood c
          clear hgood hbad c hF0
          go_wp2_with fail
          refine wp_region_kb (by kernel_rfl) (by kernel_rfl) ?_
          go_big_quiet_step ((fail))
          go_big_quiet_step ((fail))
          go_big_quiet_step ((fail))
          go_big_quiet_step ((fail))
          go_big_quiet_step ((fail))
          go_big_quiet_step ((fail))
          go_big_quiet_step ((fail))
          go_big_quiet_step ((fail))
          go_big_quiet_step ((go_at_call 144;exact C1 _))
          go_big_quiet_step ((fail))
          go_big_quiet_step ((go_at_call 145;exact C2 _))
          go_big_quiet_step ((fail))
          refine wpQuiet_nil ?_
          intro w5 hw'
          have HX3 : Hid (Kb 0 w3 w5 ∧ ∀ y,y < 2 + 1 → Fit np d (pcl (pr n y)) (fld a y)):=by
            obtain ⟨q,hq⟩:=hw'
            rw [hq]
            exact (show ∀ p : KW wr,_ from HG) q
          clear hw' HG C1 C2 ht e0 e1 e2 e3 e4 e5 e6 e7 e8 ei hne hix
          go_wp2_with fail
          go_roundw
          case rel=>exact ⟨2 + 1,by go_num,by omega,HX3⟩
          case measure=>simp [intOf]
        · rw [dc_f c] at C2
          obtain ⟨hF,hk⟩:=hbad c
          subst hF
          have HG : Hid (∀ p : KW wr,Kb 0 w p.w):=hk
          clear hgood hbad c hF0 hk HR
          go_wp2_with fail
          refine wp_region_kb (by kernel_rfl) (by kernel_rfl) ?_
          go_big_quiet_step ((fail))
          go_big_quiet_step ((fail))
          go_big_quiet_step ((fail))
          go_big_quiet_step ((fail))
          go_big_quiet_step ((fail))
          go_big_quiet_step ((fail))
          go_big_quiet_step ((fail))
          go_big_quiet_step ((fail))
          go_big_quiet_step ((go_at_call 144;exact C1 _))
          go_big_quiet_step ((fail))
          go_big_quiet_step ((go_at_call 145;exact C2 _))
          go_big_quiet_step ((fail))
          refine wpQuiet_nil ?_
          intro w5 hw'
          have HX3 : Hid (Kb 0 w w5):=by
            obtain ⟨q,hq⟩:=hw'
            rw [hq]
            exact (show ∀ p : KW wr,_ from HG) q
          clear hw' HG C1 C2 ht e0 e1 e2 e3 e4 e5 e6 e7 e8 ei hne hix
          go_wp2_with fail
          go_ret
          exact ⟨rfl,HX3⟩
      · replace C2 : ∀ p : KW wr,Calls Tryz.prog 145 #[.agg #[.int .i64 lo,.int .i64 hi],.int .i64 a.d] p.w fun e w'=>e = .returned (.bool (dc FF)) ∧ ∃ q : KW wr,w' = q.w:=C2
        generalize pr n 3 = rj at *
        have hix:=ix_3 a.a a.b a.c a.d
        by_cases c : FF
        · rw [dc_t c] at C2
          have HG : Hid (∀ p : KW wr,Kb 0 w3 p.w ∧ ∀ y,y < 3 + 1 → Fit np d (pcl (pr n y)) (fld a y)):=hgood c
          clear hgood hbad c hF0
          go_wp2_with fail
          refine wp_region_kb (by kernel_rfl) (by kernel_rfl) ?_
          go_big_quiet_step ((fail))
          go_big_quiet_step ((fail))
          go_big_quiet_step ((fail))
          go_big_quiet_step ((fail))
          go_big_quiet_step ((fail))
          go_big_quiet_step ((fail))
          go_big_quiet_step ((fail))
          go_big_quiet_step ((fail))
          go_big_quiet_step ((go_at_call 144;exact C1 _))
          go_big_quiet_step ((fail))
          go_big_quiet_step ((go_at_call 145;exact C2 _))
          go_big_quiet_step ((fail))
          refine wpQuiet_nil ?_
          intro w5 hw'
          have HX3 : Hid (Kb 0 w3 w5 ∧ ∀ y,y < 3 + 1 → Fit np d (pcl (pr n y)) (fld a y)):=by
            obtain ⟨q,hq⟩:=hw'
            rw [hq]
            exact (show ∀ p : KW wr,_ from HG) q
          clear hw' HG C1 C2 ht e0 e1 e2 e3 e4 e5 e6 e7 e8 ei hne hix
          go_wp2_with fail
          go_roundw
          case rel=>exact ⟨3 + 1,by go_num,by omega,HX3⟩
          case measure=>simp [intOf]
        · rw [dc_f c] at C2
          obtain ⟨hF,hk⟩:=hbad c
          subst hF
          have HG : Hid (∀ p : KW wr,Kb 0 w p.w):=hk
          clear hgood hbad c hF0 hk HR
          go_wp2_with fail
          refine wp_region_kb (by kernel_rfl) (by kernel_rfl) ?_
          go_big_quiet_step ((fail))
          go_big_quiet_step ((fail))
          go_big_quiet_step ((fail))
          go_big_quiet_step ((fail))
          go_big_quiet_step ((fail))
          go_big_quiet_step ((fail))
          go_big_quiet_step ((fail))
          go_big_quiet_step ((fail))
          go_big_quiet_step ((go_at_call 144;exact C1 _))
          go_big_quiet_step ((fail))
          go_big_quiet_step ((go_at_call 145;exact C2 _))
          go_big_quiet_step ((fail))
          refine wpQuiet_nil ?_
          intro w5 hw'
          have HX3 : Hid (Kb 0 w w5):=by
            obtain ⟨q,hq⟩:=hw'
            rw [hq]
            exact (show ∀ p : KW wr,_ from HG) q
          clear hw' HG C1 C2 ht e0 e1 e2 e3 e4 e5 e6 e7 e8 ei hne hix
          go_wp2_with fail
          go_ret
          exact ⟨rfl,HX3⟩
    · obtain rfl : j = 4:=by omega
      have hT : R = true:=by rw [hR];exact dc_t (hTK.2 (fun y hy=>hX y hy))
      subst hT
      have HK : Hid (Kb 0 w wr):=k03.trans kw
      clear HX hX kw k03 c0 c1 c2 c3 c4 c5 c6 c7 c8 i0 hgd hb hnp hu hc hni hg n1 n42 hn hR hTK HR HS HY
      go_wp2_with fail
      go_ret
      exact ⟨rfl,HK⟩
end Go.Proofs.YtnmeemjoodoalaaGreatDoor.Fo
