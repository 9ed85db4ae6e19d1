import Derived.Test.YtnmeemjoodoalaaGreatDoorMCba
set_option maxHeartbeats 4000000
namespace Go.Proofs.YtnmeemjoodoalaaGreatDoor.Fo
open Go.ChangeShapes Go.WideShapes Go.ChangeAt Go.RowKit
set_option linter.unusedVariables false
set_option maxRecDepth 100000
def sm (s : Nat → Nat) : Nat → Nat
  | 0=>0
  | i + 1=>sm s i + s i
theorem sm_mono (s : Nat → Nat) {i n : Nat} (h : i ≤ n) : sm s i ≤ sm s n:=by
  induction n with
  | zero => obtain rfl : i = 0 := by omega
            exact Nat.le_refl _
  | succ n ih =>
    by_cases e : i = n + 1
    · subst e;exact Nat.le_refl _
    · have:=ih (by omega)
      show _ ≤ sm s n + s n
      omega
theorem sm_one (s : Nat → Nat) {i n : Nat} (h : i < n) : s i ≤ sm s n:=by
  have:=sm_mono s (show i + 1 ≤ n from h)
  have e : sm s (i + 1) = sm s i + s i:=rfl
  omega
def Szd (s : Nat) (l : Int) (W : World) : Ending → World → Prop:=fun e w'=>∃ r : Int,e = .returned (.int .i64 r) ∧ (0 ≤ r → r + (s : Int) ≤ l) ∧ -1 ≤ r ∧ r ≤ l ∧ Kb 0 W w'
theorem szd_ups {va : Value} {n : Nat} {A : Nat → Bool × Int} (w : World) (l : Int) (ha : RowU 0 w va n A) (hn : (n : Int) < 140737488355328) (hl0 : 0 ≤ l) (hl : l ≤ 1048576) :
    Calls Tryz.prog 91 #[va,.int .i64 l] w (Szd n l w):=by
  obtain ⟨pa,ca,rfl,-⟩:=ha
  go_enter Tryz.func91,Tryz.ntmps91
  rcases Int.lt_or_le (l - n) 0 with h | h
  · go_wp2_with fail
    go_ret
    exact ⟨-1,rfl,by omega,by omega,by omega,Kb.refl _ _⟩
  · have h' : ¬ (l - n < 0):=by omega
    go_wp2_with fail
    go_ret
    exact ⟨_,rfl,by omega,by omega,by omega,Kb.refl _ _⟩
theorem szd_inss {va : Value} {n : Nat} {A : Nat → Iv} (w : World) (l : Int) (ha : RowI 0 w va n A) (hn : (n : Int) < 140737488355328) (hl0 : 0 ≤ l) (hl : l ≤ 1048576) :
    Calls Tryz.prog 93 #[va,.int .i64 l] w (Szd n l w):=by
  obtain ⟨pa,ca,rfl,-⟩:=ha
  go_enter Tryz.func93,Tryz.ntmps93
  rcases Int.lt_or_le (l - n) 0 with h | h
  · go_wp2_with fail
    go_ret
    exact ⟨-1,rfl,by omega,by omega,by omega,Kb.refl _ _⟩
  · have h' : ¬ (l - n < 0):=by omega
    go_wp2_with fail
    go_ret
    exact ⟨_,rfl,by omega,by omega,by omega,Kb.refl _ _⟩
theorem sz_valu {a : Vv} (w : World) (l : Int) (hx : (a.x.size : Int) < 140737488355328) (hl0 : 0 ≤ l) (hl : l ≤ 1048576) :
    Calls Tryz.prog 130 #[valv a,.int .i64 l] w (Szd a.x.size l w):=by
  unfold valv
  have hs0 : (0 : Int) ≤ (a.x.size : Int):=Int.natCast_nonneg _
  generalize hX : a.x.size = X at *
  go_enter Tryz.func130,Tryz.ntmps130
  rcases Int.lt_or_le (l - (X : Int)) 0 with c | c
  · go_wp2_with fail
    go_ret
    exact ⟨-1,rfl,fun h=>by omega,by omega,by omega,kb_alloc _ _ _⟩
  · have c' : ¬ (l - (X : Int) < 0):=by omega
    go_wp2_with fail
    go_ret
    exact ⟨l - (X : Int),rfl,fun h=>by omega,by omega,by omega,kb_alloc _ _ _⟩
theorem sz_name {a : Mv} (w : World) (l : Int) (hx : (a.x.size : Int) < 140737488355328) (hl0 : 0 ≤ l) (hl : l ≤ 1048576) :
    Calls Tryz.prog 131 #[namv a,.int .i64 l] w (Szd a.x.size l w):=by
  unfold namv
  have hs0 : (0 : Int) ≤ (a.x.size : Int):=Int.natCast_nonneg _
  generalize hX : a.x.size = X at *
  go_enter Tryz.func131,Tryz.ntmps131
  rcases Int.lt_or_le (l - (X : Int)) 0 with c | c
  · go_wp2_with fail
    go_ret
    exact ⟨-1,rfl,fun h=>by omega,by omega,by omega,kb_alloc _ _ _⟩
  · have c' : ¬ (l - (X : Int) < 0):=by omega
    go_wp2_with fail
    go_ret
    exact ⟨l - (X : Int),rfl,fun h=>by omega,by omega,by omega,kb_alloc _ _ _⟩
theorem szr_vals {pa : Option Addr} {n ca : Nat} {C : Nat → Vv} {s : Nat → Nat} (w : World) (l : Int) (hn : (n : Int) < 140737488355328)
    (ha : 0 < n → ∃ a : Addr,pa = some a ∧ n ≤ ca ∧ ∀ i,i < n → CelV w (a.add (i * 5)) (C i))
    (he : ∀ i,i < n → ∀ W (l : Int),Kb 0 w W → 0 ≤ l → l ≤ 1048576 → Calls Tryz.prog 130 #[valv (C i),.int .i64 l] W (Szd (s i) l W)) (hl0 : 0 ≤ l) (hl : l ≤ 1048576) :
    Calls Tryz.prog 92 #[.slice pa n ca,.int .i64 l] w (Szd (n + sm s n) l w):=by
  have HA : Hid ((0 < n → ∃ a : Addr,pa = some a ∧ n ≤ ca ∧ ∀ i,i < n → CelV w (a.add (i * 5)) (C i)) ∧ ∀ i,i < n → ∀ W (l : Int),Kb 0 w W → 0 ≤ l → l ≤ 1048576 → Calls Tryz.prog 130 #[valv (C i),.int .i64 l] W (Szd (s i) l W)):=(⟨ha,he⟩ : _ ∧ _)
  clear ha he
  go_enter Tryz.func92,Tryz.ntmps92
  rcases Int.lt_or_le (l - n) 0 with h | h
  · clear HA
    go_wp2_with fail
    go_ret
    exact ⟨-1,rfl,fun f=>by omega,by omega,by omega,Kb.refl _ _⟩
  · have h' : ¬ (l - n < 0):=by omega
    go_wp2_with fail
    go_loopw [1,5] (fun s1 s5 wr=>∃ (i : Nat) (x : Int),s1 = .int .i64 x ∧ s5 = .int .i64 (i : Int) ∧ i ≤ n ∧ 0 ≤ x ∧ x ≤ l ∧ Hid (x + (n : Int) + (sm s i : Int) ≤ l ∧ Kb 0 w wr)) (fun _ s5 _=>n - (intOf s5).toNat)
    case atStart=>exact ⟨0,l - n,rfl,rfl,Nat.zero_le _,by omega,by omega,(⟨by show l - n + n + ((0 : Nat) : Int) ≤ l;omega,Kb.refl _ _⟩ : _ ∧ _)⟩
    case round =>
      obtain ⟨i,x,rfl,rfl,hin,hx0,hx1,HX⟩:=hrel
      rcases Nat.lt_or_ge i n with hi | hi
      · have hA:=(show (0 < n → ∃ a : Addr,pa = some a ∧ n ≤ ca ∧ ∀ i,i < n → CelV w (a.add (i * 5)) (C i)) ∧ ∀ i,i < n → ∀ W (l : Int),Kb 0 w W → 0 ≤ l → l ≤ 1048576 → Calls Tryz.prog 130 #[valv (C i),.int .i64 l] W (Szd (s i) l W) from HA)
        have hX:=(show x + (n : Int) + (sm s i : Int) ≤ l ∧ Kb 0 w wr from HX)
        obtain ⟨a,rfl,hca,hra⟩:=hA.1 (by omega)
        obtain ⟨d0,d1,d2,d3,d4⟩:=(hra i hi).keep (Nat.zero_le _) hX.2
        have HS : Hid (Calls Tryz.prog 130 #[valv (C i),.int .i64 x] wr (Szd (s i) x wr)):=hA.2 i hi wr x hX.2 hx0 (by omega)
        have hiI : (i : Int) < (n : Int):=by omega
        clear hA hX hra HA hin
        go_wp2_with fail
        refine (show Calls Tryz.prog 130 #[valv (C i),.int .i64 x] wr (Szd (s i) x wr) from HS).mono ?_
        rintro e w6 ⟨r,rfl,hs,hm1,hr1,hb6⟩
        have hX:=(show x + (n : Int) + (sm s i : Int) ≤ l ∧ Kb 0 w wr from HX)
        have HB6 : Hid ((0 ≤ r → r + (n : Int) + (sm s (i + 1) : Int) ≤ l) ∧ Kb 0 w w6):=(⟨fun h=>by
          have:=hs h
          have:=hX.1
          show r + (n : Int) + ((sm s i + s i : Nat) : Int) ≤ l
          omega,hX.2.trans hb6⟩ : _ ∧ _)
        clear HS HX hX hb6 hs d0 d1 d2 d3 d4
        rcases Int.lt_or_le r 0 with hr0 | hr0
        · go_wp2_with fail
          go_ret
          exact ⟨-1,rfl,fun f=>by omega,by omega,by omega,HB6.2⟩
        · have hr0' : ¬ (r < 0):=by omega
          have hr2 : r ≤ l:=by omega
          have hnI : (n : Int) ≤ 1048576:=by omega
          clear hn h h' hm1 hx0 hx1 hr1
          go_wp2_with fail
          go_roundw
          case rel=>exact ⟨i + 1,r,rfl,by go_num,by omega,hr0,hr2,(⟨HB6.1 hr0,HB6.2⟩ : _ ∧ _)⟩
          case measure=>simp [intOf];omega
      · obtain rfl : i = n:=by omega
        clear HA
        go_wp2_with fail
        go_ret
        have hX:=(show x + (i : Int) + (sm s i : Int) ≤ l ∧ Kb 0 w wr from HX)
        exact ⟨x,rfl,fun _=>by have:=hX.1;omega,by omega,hx1,hX.2⟩
theorem szr_nams {pa : Option Addr} {n ca : Nat} {D : Nat → Mv} {s : Nat → Nat} (w : World) (l : Int) (hn : (n : Int) < 140737488355328)
    (ha : 0 < n → ∃ a : Addr,pa = some a ∧ n ≤ ca ∧ ∀ i,i < n → CelM w (a.add (i * 4)) (D i))
    (he : ∀ i,i < n → ∀ W (l : Int),Kb 0 w W → 0 ≤ l → l ≤ 1048576 → Calls Tryz.prog 131 #[namv (D i),.int .i64 l] W (Szd (s i) l W)) (hl0 : 0 ≤ l) (hl : l ≤ 1048576) :
    Calls Tryz.prog 94 #[.slice pa n ca,.int .i64 l] w (Szd (n + sm s n) l w):=by
  have HA : Hid ((0 < n → ∃ a : Addr,pa = some a ∧ n ≤ ca ∧ ∀ i,i < n → CelM w (a.add (i * 4)) (D i)) ∧ ∀ i,i < n → ∀ W (l : Int),Kb 0 w W → 0 ≤ l → l ≤ 1048576 → Calls Tryz.prog 131 #[namv (D i),.int .i64 l] W (Szd (s i) l W)):=(⟨ha,he⟩ : _ ∧ _)
  clear ha he
  go_enter Tryz.func94,Tryz.ntmps94
  rcases Int.lt_or_le (l - n) 0 with h | h
  · clear HA
    go_wp2_with fail
    go_ret
    exact ⟨-1,rfl,fun f=>by omega,by omega,by omega,Kb.refl _ _⟩
  · have h' : ¬ (l - n < 0):=by omega
    go_wp2_with fail
    go_loopw [1,5] (fun s1 s5 wr=>∃ (i : Nat) (x : Int),s1 = .int .i64 x ∧ s5 = .int .i64 (i : Int) ∧ i ≤ n ∧ 0 ≤ x ∧ x ≤ l ∧ Hid (x + (n : Int) + (sm s i : Int) ≤ l ∧ Kb 0 w wr)) (fun _ s5 _=>n - (intOf s5).toNat)
    case atStart=>exact ⟨0,l - n,rfl,rfl,Nat.zero_le _,by omega,by omega,(⟨by show l - n + n + ((0 : Nat) : Int) ≤ l;omega,Kb.refl _ _⟩ : _ ∧ _)⟩
    case round =>
      obtain ⟨i,x,rfl,rfl,hin,hx0,hx1,HX⟩:=hrel
      rcases Nat.lt_or_ge i n with hi | hi
      · have hA:=(show (0 < n → ∃ a : Addr,pa = some a ∧ n ≤ ca ∧ ∀ i,i < n → CelM w (a.add (i * 4)) (D i)) ∧ ∀ i,i < n → ∀ W (l : Int),Kb 0 w W → 0 ≤ l → l ≤ 1048576 → Calls Tryz.prog 131 #[namv (D i),.int .i64 l] W (Szd (s i) l W) from HA)
        have hX:=(show x + (n : Int) + (sm s i : Int) ≤ l ∧ Kb 0 w wr from HX)
        obtain ⟨a,rfl,hca,hra⟩:=hA.1 (by omega)
        obtain ⟨d0,d1,d2,d3⟩:=(hra i hi).keep (Nat.zero_le _) hX.2
        have HS : Hid (Calls Tryz.prog 131 #[namv (D i),.int .i64 x] wr (Szd (s i) x wr)):=hA.2 i hi wr x hX.2 hx0 (by omega)
        have hiI : (i : Int) < (n : Int):=by omega
        clear hA hX hra HA hin
        go_wp2_with fail
        refine (show Calls Tryz.prog 131 #[namv (D i),.int .i64 x] wr (Szd (s i) x wr) from HS).mono ?_
        rintro e w6 ⟨r,rfl,hs,hm1,hr1,hb6⟩
        have hX:=(show x + (n : Int) + (sm s i : Int) ≤ l ∧ Kb 0 w wr from HX)
        have HB6 : Hid ((0 ≤ r → r + (n : Int) + (sm s (i + 1) : Int) ≤ l) ∧ Kb 0 w w6):=(⟨fun h=>by
          have:=hs h
          have:=hX.1
          show r + (n : Int) + ((sm s i + s i : Nat) : Int) ≤ l
          omega,hX.2.trans hb6⟩ : _ ∧ _)
        clear HS HX hX hb6 hs d0 d1 d2 d3
        rcases Int.lt_or_le r 0 with hr0 | hr0
        · go_wp2_with fail
          go_ret
          exact ⟨-1,rfl,fun f=>by omega,by omega,by omega,HB6.2⟩
        · have hr0' : ¬ (r < 0):=by omega
          have hr2 : r ≤ l:=by omega
          have hnI : (n : Int) ≤ 1048576:=by omega
          clear hn h h' hm1 hx0 hx1 hr1
          go_wp2_with fail
          go_roundw
          case rel=>exact ⟨i + 1,r,rfl,by go_num,by omega,hr0,hr2,(⟨HB6.1 hr0,HB6.2⟩ : _ ∧ _)⟩
          case measure=>simp [intOf];omega
      · obtain rfl : i = n:=by omega
        clear HA
        go_wp2_with fail
        go_ret
        have hX:=(show x + (i : Int) + (sm s i : Int) ≤ l ∧ Kb 0 w wr from HX)
        exact ⟨x,rfl,fun _=>by have:=hX.1;omega,by omega,hx1,hX.2⟩
theorem szd_vals {va : Value} {n : Nat} {A : Nat → Vv} (w : World) (l : Int) (ha : RowW 0 w va n A) (hn : (n : Int) < 140737488355328) (hA : ∀ i, i < n → ((A i).x.size : Int) < 140737488355328) (hl0 : 0 ≤ l) (hl : l ≤ 1048576) :
    Calls Tryz.prog 92 #[va,.int .i64 l] w (Szd (n + sm (fun i=>(A i).x.size) n) l w):=by
  obtain ⟨pa,ca,rfl,ha2⟩:=ha
  refine szr_vals w l hn (fun h0=>?_) (fun i hi W l k l0 l1=>sz_valu W l (hA i hi) l0 l1) hl0 hl
  obtain ⟨a,e1,e2,-,e3⟩:=ha2 h0
  exact ⟨a,e1,e2,e3⟩
theorem szd_nams {va : Value} {n : Nat} {A : Nat → Mv} (w : World) (l : Int) (ha : RowM 0 w va n A) (hn : (n : Int) < 140737488355328) (hA : ∀ i, i < n → ((A i).x.size : Int) < 140737488355328) (hl0 : 0 ≤ l) (hl : l ≤ 1048576) :
    Calls Tryz.prog 94 #[va,.int .i64 l] w (Szd (n + sm (fun i=>(A i).x.size) n) l w):=by
  obtain ⟨pa,ca,rfl,ha2⟩:=ha
  refine szr_nams w l hn (fun h0=>?_) (fun i hi W l k l0 l1=>sz_name W l (hA i hi) l0 l1) hl0 hl
  obtain ⟨a,e1,e2,-,e3⟩:=ha2 h0
  exact ⟨a,e1,e2,e3⟩
theorem sz_pro {f : Pd} {vu vc vn vd : Value} {p q t o : Nat} (w : World) (l : Int) (hx : (f.x.size : Int) < 140737488355328)
    (g0 : ∀ W (l : Int),Kb 0 w W → 0 ≤ l → l ≤ 1048576 → Calls Tryz.prog 91 #[vu,.int .i64 l] W (Szd p l W))
    (g1 : ∀ W (l : Int),Kb 0 w W → 0 ≤ l → l ≤ 1048576 → Calls Tryz.prog 92 #[vc,.int .i64 l] W (Szd q l W))
    (g2 : ∀ W (l : Int),Kb 0 w W → 0 ≤ l → l ≤ 1048576 → Calls Tryz.prog 93 #[vn,.int .i64 l] W (Szd t l W))
    (g3 : ∀ W (l : Int),Kb 0 w W → 0 ≤ l → l ≤ 1048576 → Calls Tryz.prog 94 #[vd,.int .i64 l] W (Szd o l W)) (hl0 : 0 ≤ l) (hl : l ≤ 1048576) :
    Calls Tryz.prog 36 #[prov f vu vc vn vd,.int .i64 l] w (Szd (f.x.size + p + q + t + o) l w):=by
  unfold prov
  have G0 : Hid (∀ W (l : Int),Kb 0 w W → 0 ≤ l → l ≤ 1048576 → Calls Tryz.prog 91 #[vu,.int .i64 l] W (Szd p l W)):=g0
  have G1 : Hid (∀ W (l : Int),Kb 0 w W → 0 ≤ l → l ≤ 1048576 → Calls Tryz.prog 92 #[vc,.int .i64 l] W (Szd q l W)):=g1
  have G2 : Hid (∀ W (l : Int),Kb 0 w W → 0 ≤ l → l ≤ 1048576 → Calls Tryz.prog 93 #[vn,.int .i64 l] W (Szd t l W)):=g2
  have G3 : Hid (∀ W (l : Int),Kb 0 w W → 0 ≤ l → l ≤ 1048576 → Calls Tryz.prog 94 #[vd,.int .i64 l] W (Szd o l W)):=g3
  clear g0 g1 g2 g3
  have hs0 : (0 : Int) ≤ (f.x.size : Int):=Int.natCast_nonneg _
  generalize hX : f.x.size = X at *
  go_enter Tryz.func36,Tryz.ntmps36
  rcases Int.lt_or_le (l - (X : Int)) 0 with c | c
  · clear G0 G1 G2 G3
    go_wp2_with fail
    go_ret
    exact ⟨-1,rfl,fun h=>by omega,by omega,by omega,kb_alloc _ _ _⟩
  · have c' : ¬ (l - (X : Int) < 0):=by omega
    go_wp2_with fail
    refine ((show ∀ W (l : Int),Kb 0 w W → 0 ≤ l → l ≤ 1048576 → Calls Tryz.prog 91 #[vu,.int .i64 l] W (Szd p l W) from G0) _ _ (kb_alloc _ _ _) c (by omega)).mono ?_
    rintro e w1 ⟨r0,rfl,s0,m0,t0,k0⟩
    have HK0 : Hid (Kb 0 w w1):=(kb_alloc _ _ _).trans k0
    have d0_0 : w1.cell? ⟨w.heap.size,0,none⟩ = some (.string f.x):=k0.cell (cell_of (alloc_new w #[.string f.x,.int .i64 f.l,.int .i64 f.m,.bool f.r,.int .i64 f.g,vu,vc,vn,vd] _) rfl)
    have d0_1 : w1.cell? ⟨w.heap.size,1,none⟩ = some (.int .i64 f.l):=k0.cell (cell_of (alloc_new w #[.string f.x,.int .i64 f.l,.int .i64 f.m,.bool f.r,.int .i64 f.g,vu,vc,vn,vd] _) rfl)
    have d0_2 : w1.cell? ⟨w.heap.size,2,none⟩ = some (.int .i64 f.m):=k0.cell (cell_of (alloc_new w #[.string f.x,.int .i64 f.l,.int .i64 f.m,.bool f.r,.int .i64 f.g,vu,vc,vn,vd] _) rfl)
    have d0_3 : w1.cell? ⟨w.heap.size,3,none⟩ = some (.bool f.r):=k0.cell (cell_of (alloc_new w #[.string f.x,.int .i64 f.l,.int .i64 f.m,.bool f.r,.int .i64 f.g,vu,vc,vn,vd] _) rfl)
    have d0_4 : w1.cell? ⟨w.heap.size,4,none⟩ = some (.int .i64 f.g):=k0.cell (cell_of (alloc_new w #[.string f.x,.int .i64 f.l,.int .i64 f.m,.bool f.r,.int .i64 f.g,vu,vc,vn,vd] _) rfl)
    have d0_5 : w1.cell? ⟨w.heap.size,5,none⟩ = some (vu):=k0.cell (cell_of (alloc_new w #[.string f.x,.int .i64 f.l,.int .i64 f.m,.bool f.r,.int .i64 f.g,vu,vc,vn,vd] _) rfl)
    have d0_6 : w1.cell? ⟨w.heap.size,6,none⟩ = some (vc):=k0.cell (cell_of (alloc_new w #[.string f.x,.int .i64 f.l,.int .i64 f.m,.bool f.r,.int .i64 f.g,vu,vc,vn,vd] _) rfl)
    have d0_7 : w1.cell? ⟨w.heap.size,7,none⟩ = some (vn):=k0.cell (cell_of (alloc_new w #[.string f.x,.int .i64 f.l,.int .i64 f.m,.bool f.r,.int .i64 f.g,vu,vc,vn,vd] _) rfl)
    have d0_8 : w1.cell? ⟨w.heap.size,8,none⟩ = some (vd):=k0.cell (cell_of (alloc_new w #[.string f.x,.int .i64 f.l,.int .i64 f.m,.bool f.r,.int .i64 f.g,vu,vc,vn,vd] _) rfl)
    have HS0 : Hid ((0 ≤ r0 → r0 + (p : Int) ≤ l - (X : Int)) ∧ -1 ≤ r0 ∧ r0 ≤ l - (X : Int) ∧ 0 ≤ l ∧ l ≤ 1048576 ∧ 0 ≤ l - (X : Int) ∧ 0 ≤ (X : Int)):=(⟨s0,m0,t0,hl0,hl,c,hs0⟩ : _ ∧ _)
    clear k0 s0 m0 t0 G0 hl0 hl c c' hs0 hx hX
    rcases Int.lt_or_le r0 0 with c0 | c0
    · clear G1 G2 G3
      go_wp2_with fail
      go_ret
      obtain ⟨q0a,q0b,q0c,q0d⟩:=(show _ ∧ _ ∧ _ ∧ _ from HS0)
      exact ⟨-1,rfl,fun h=>by omega,by omega,by omega,HK0⟩
    · have c0' : ¬ (r0 < 0):=by omega
      go_wp2_with fail
      refine ((show ∀ W (l : Int),Kb 0 w W → 0 ≤ l → l ≤ 1048576 → Calls Tryz.prog 92 #[vc,.int .i64 l] W (Szd q l W) from G1) _ r0 HK0 c0 (by obtain ⟨q0a,q0b,q0c,q0d⟩:=(show _ ∧ _ ∧ _ ∧ _ from HS0);omega)).mono ?_
      rintro e w2 ⟨r1,rfl,s1,m1,t1,k1⟩
      have HK1 : Hid (Kb 0 w w2):=(show Kb 0 w w1 from HK0).trans k1
      have d1_0 : w2.cell? ⟨w.heap.size,0,none⟩ = some (.string f.x):=k1.cell (d0_0)
      have d1_1 : w2.cell? ⟨w.heap.size,1,none⟩ = some (.int .i64 f.l):=k1.cell (d0_1)
      have d1_2 : w2.cell? ⟨w.heap.size,2,none⟩ = some (.int .i64 f.m):=k1.cell (d0_2)
      have d1_3 : w2.cell? ⟨w.heap.size,3,none⟩ = some (.bool f.r):=k1.cell (d0_3)
      have d1_4 : w2.cell? ⟨w.heap.size,4,none⟩ = some (.int .i64 f.g):=k1.cell (d0_4)
      have d1_5 : w2.cell? ⟨w.heap.size,5,none⟩ = some (vu):=k1.cell (d0_5)
      have d1_6 : w2.cell? ⟨w.heap.size,6,none⟩ = some (vc):=k1.cell (d0_6)
      have d1_7 : w2.cell? ⟨w.heap.size,7,none⟩ = some (vn):=k1.cell (d0_7)
      have d1_8 : w2.cell? ⟨w.heap.size,8,none⟩ = some (vd):=k1.cell (d0_8)
      clear d0_0 d0_1 d0_2 d0_3 d0_4 d0_5 d0_6 d0_7 d0_8
      have HS1 : Hid ((0 ≤ r1 → r1 + (q : Int) ≤ r0) ∧ -1 ≤ r1 ∧ r1 ≤ r0 ∧ 0 ≤ r0):=(⟨s1,m1,t1,c0⟩ : _ ∧ _)
      clear k1 s1 m1 t1 G1 HK0 c0 c0'
      rcases Int.lt_or_le r1 0 with c1 | c1
      · clear G2 G3
        go_wp2_with fail
        go_ret
        obtain ⟨q0a,q0b,q0c,q0d⟩:=(show _ ∧ _ ∧ _ ∧ _ from HS0);obtain ⟨q1a,q1b,q1c,q1d⟩:=(show _ ∧ _ ∧ _ ∧ _ from HS1)
        exact ⟨-1,rfl,fun h=>by omega,by omega,by omega,HK1⟩
      · have c1' : ¬ (r1 < 0):=by omega
        go_wp2_with fail
        refine ((show ∀ W (l : Int),Kb 0 w W → 0 ≤ l → l ≤ 1048576 → Calls Tryz.prog 93 #[vn,.int .i64 l] W (Szd t l W) from G2) _ r1 HK1 c1 (by obtain ⟨q0a,q0b,q0c,q0d⟩:=(show _ ∧ _ ∧ _ ∧ _ from HS0);obtain ⟨q1a,q1b,q1c,q1d⟩:=(show _ ∧ _ ∧ _ ∧ _ from HS1);omega)).mono ?_
        rintro e w3 ⟨r2,rfl,s2,m2,t2,k2⟩
        have HK2 : Hid (Kb 0 w w3):=(show Kb 0 w w2 from HK1).trans k2
        have d2_0 : w3.cell? ⟨w.heap.size,0,none⟩ = some (.string f.x):=k2.cell (d1_0)
        have d2_1 : w3.cell? ⟨w.heap.size,1,none⟩ = some (.int .i64 f.l):=k2.cell (d1_1)
        have d2_2 : w3.cell? ⟨w.heap.size,2,none⟩ = some (.int .i64 f.m):=k2.cell (d1_2)
        have d2_3 : w3.cell? ⟨w.heap.size,3,none⟩ = some (.bool f.r):=k2.cell (d1_3)
        have d2_4 : w3.cell? ⟨w.heap.size,4,none⟩ = some (.int .i64 f.g):=k2.cell (d1_4)
        have d2_5 : w3.cell? ⟨w.heap.size,5,none⟩ = some (vu):=k2.cell (d1_5)
        have d2_6 : w3.cell? ⟨w.heap.size,6,none⟩ = some (vc):=k2.cell (d1_6)
        have d2_7 : w3.cell? ⟨w.heap.size,7,none⟩ = some (vn):=k2.cell (d1_7)
        have d2_8 : w3.cell? ⟨w.heap.size,8,none⟩ = some (vd):=k2.cell (d1_8)
        clear d1_0 d1_1 d1_2 d1_3 d1_4 d1_5 d1_6 d1_7 d1_8
        have HS2 : Hid ((0 ≤ r2 → r2 + (t : Int) ≤ r1) ∧ -1 ≤ r2 ∧ r2 ≤ r1 ∧ 0 ≤ r1):=(⟨s2,m2,t2,c1⟩ : _ ∧ _)
        clear k2 s2 m2 t2 G2 HK1 c1 c1'
        rcases Int.lt_or_le r2 0 with c2 | c2
        · clear G3
          go_wp2_with fail
          go_ret
          obtain ⟨q0a,q0b,q0c,q0d⟩:=(show _ ∧ _ ∧ _ ∧ _ from HS0);obtain ⟨q1a,q1b,q1c,q1d⟩:=(show _ ∧ _ ∧ _ ∧ _ from HS1);obtain ⟨q2a,q2b,q2c,q2d⟩:=(show _ ∧ _ ∧ _ ∧ _ from HS2)
          exact ⟨-1,rfl,fun h=>by omega,by omega,by omega,HK2⟩
        · have c2' : ¬ (r2 < 0):=by omega
          go_wp2_with fail
          refine ((show ∀ W (l : Int),Kb 0 w W → 0 ≤ l → l ≤ 1048576 → Calls Tryz.prog 94 #[vd,.int .i64 l] W (Szd o l W) from G3) _ r2 HK2 c2 (by obtain ⟨q0a,q0b,q0c,q0d⟩:=(show _ ∧ _ ∧ _ ∧ _ from HS0);obtain ⟨q1a,q1b,q1c,q1d⟩:=(show _ ∧ _ ∧ _ ∧ _ from HS1);obtain ⟨q2a,q2b,q2c,q2d⟩:=(show _ ∧ _ ∧ _ ∧ _ from HS2);omega)).mono ?_
          rintro e w4 ⟨r3,rfl,s3,m3,t3,k3⟩
          have HK3 : Hid (Kb 0 w w4):=(show Kb 0 w w3 from HK2).trans k3
          have d3_0 : w4.cell? ⟨w.heap.size,0,none⟩ = some (.string f.x):=k3.cell (d2_0)
          have d3_1 : w4.cell? ⟨w.heap.size,1,none⟩ = some (.int .i64 f.l):=k3.cell (d2_1)
          have d3_2 : w4.cell? ⟨w.heap.size,2,none⟩ = some (.int .i64 f.m):=k3.cell (d2_2)
          have d3_3 : w4.cell? ⟨w.heap.size,3,none⟩ = some (.bool f.r):=k3.cell (d2_3)
          have d3_4 : w4.cell? ⟨w.heap.size,4,none⟩ = some (.int .i64 f.g):=k3.cell (d2_4)
          have d3_5 : w4.cell? ⟨w.heap.size,5,none⟩ = some (vu):=k3.cell (d2_5)
          have d3_6 : w4.cell? ⟨w.heap.size,6,none⟩ = some (vc):=k3.cell (d2_6)
          have d3_7 : w4.cell? ⟨w.heap.size,7,none⟩ = some (vn):=k3.cell (d2_7)
          have d3_8 : w4.cell? ⟨w.heap.size,8,none⟩ = some (vd):=k3.cell (d2_8)
          clear d2_0 d2_1 d2_2 d2_3 d2_4 d2_5 d2_6 d2_7 d2_8
          have HS3 : Hid ((0 ≤ r3 → r3 + (o : Int) ≤ r2) ∧ -1 ≤ r3 ∧ r3 ≤ r2 ∧ 0 ≤ r2):=(⟨s3,m3,t3,c2⟩ : _ ∧ _)
          clear k3 s3 m3 t3 G3 HK2 c2 c2'
          rcases Int.lt_or_le r3 0 with c3 | c3
          · skip
            go_wp2_with fail
            go_ret
            obtain ⟨q0a,q0b,q0c,q0d⟩:=(show _ ∧ _ ∧ _ ∧ _ from HS0);obtain ⟨q1a,q1b,q1c,q1d⟩:=(show _ ∧ _ ∧ _ ∧ _ from HS1);obtain ⟨q2a,q2b,q2c,q2d⟩:=(show _ ∧ _ ∧ _ ∧ _ from HS2);obtain ⟨q3a,q3b,q3c,q3d⟩:=(show _ ∧ _ ∧ _ ∧ _ from HS3)
            exact ⟨-1,rfl,fun h=>by omega,by omega,by omega,HK3⟩
          · have c3' : ¬ (r3 < 0):=by omega
            go_wp2_with fail
            go_ret
            obtain ⟨q0a,q0b,q0c,q0d⟩:=(show _ ∧ _ ∧ _ ∧ _ from HS0);obtain ⟨q1a,q1b,q1c,q1d⟩:=(show _ ∧ _ ∧ _ ∧ _ from HS1);obtain ⟨q2a,q2b,q2c,q2d⟩:=(show _ ∧ _ ∧ _ ∧ _ from HS2);obtain ⟨q3a,q3b,q3c,q3d⟩:=(show _ ∧ _ ∧ _ ∧ _ from HS3)
            exact ⟨r3,rfl,fun h=>by have:=q0a (by omega);have:=q1a (by omega);have:=q2a (by omega);have:=q3a (by omega);omega,by omega,by omega,HK3⟩
theorem szr_pros {pa : Option Addr} {n ca : Nat} {F : Nat → Pd} {vu vc vn vd : Nat → Value} {s : Nat → Nat} (w : World) (l : Int) (hn : (n : Int) < 140737488355328)
    (ha : 0 < n → ∃ a : Addr,pa = some a ∧ n ≤ ca ∧ ∀ i,i < n → CelP w (a.add (i * 9)) (F i) (vu i) (vc i) (vn i) (vd i))
    (he : ∀ i,i < n → ∀ W (l : Int),Kb 0 w W → 0 ≤ l → l ≤ 1048576 → Calls Tryz.prog 36 #[prov (F i) (vu i) (vc i) (vn i) (vd i),.int .i64 l] W (Szd (s i) l W)) (hl0 : 0 ≤ l) (hl : l ≤ 1048576) :
    Calls Tryz.prog 18 #[.slice pa n ca,.int .i64 l] w (Szd (n + sm s n) l w):=by
  have HA : Hid ((0 < n → ∃ a : Addr,pa = some a ∧ n ≤ ca ∧ ∀ i,i < n → CelP w (a.add (i * 9)) (F i) (vu i) (vc i) (vn i) (vd i)) ∧ ∀ i,i < n → ∀ W (l : Int),Kb 0 w W → 0 ≤ l → l ≤ 1048576 → Calls Tryz.prog 36 #[prov (F i) (vu i) (vc i) (vn i) (vd i),.int .i64 l] W (Szd (s i) l W)):=(⟨ha,he⟩ : _ ∧ _)
  clear ha he
  go_enter Tryz.func18,Tryz.ntmps18
  rcases Int.lt_or_le (l - n) 0 with h | h
  · clear HA
    go_wp2_with fail
    go_ret
    exact ⟨-1,rfl,fun f=>by omega,by omega,by omega,Kb.refl _ _⟩
  · have h' : ¬ (l - n < 0):=by omega
    go_wp2_with fail
    go_loopw [1,5] (fun s1 s5 wr=>∃ (i : Nat) (x : Int),s1 = .int .i64 x ∧ s5 = .int .i64 (i : Int) ∧ i ≤ n ∧ 0 ≤ x ∧ x ≤ l ∧ Hid (x + (n : Int) + (sm s i : Int) ≤ l ∧ Kb 0 w wr)) (fun _ s5 _=>n - (intOf s5).toNat)
    case atStart=>exact ⟨0,l - n,rfl,rfl,Nat.zero_le _,by omega,by omega,(⟨by show l - n + n + ((0 : Nat) : Int) ≤ l;omega,Kb.refl _ _⟩ : _ ∧ _)⟩
    case round =>
      obtain ⟨i,x,rfl,rfl,hin,hx0,hx1,HX⟩:=hrel
      rcases Nat.lt_or_ge i n with hi | hi
      · have hA:=(show (0 < n → ∃ a : Addr,pa = some a ∧ n ≤ ca ∧ ∀ i,i < n → CelP w (a.add (i * 9)) (F i) (vu i) (vc i) (vn i) (vd i)) ∧ ∀ i,i < n → ∀ W (l : Int),Kb 0 w W → 0 ≤ l → l ≤ 1048576 → Calls Tryz.prog 36 #[prov (F i) (vu i) (vc i) (vn i) (vd i),.int .i64 l] W (Szd (s i) l W) from HA)
        have hX:=(show x + (n : Int) + (sm s i : Int) ≤ l ∧ Kb 0 w wr from HX)
        obtain ⟨a,rfl,hca,hra⟩:=hA.1 (by omega)
        obtain ⟨d0,d1,d2,d3,d4,d5,d6,d7,d8⟩:=(hra i hi).keep (Nat.zero_le _) hX.2
        have HS : Hid (Calls Tryz.prog 36 #[prov (F i) (vu i) (vc i) (vn i) (vd i),.int .i64 x] wr (Szd (s i) x wr)):=hA.2 i hi wr x hX.2 hx0 (by omega)
        have hiI : (i : Int) < (n : Int):=by omega
        clear hA hX hra HA hin
        go_wp2_with fail
        refine (show Calls Tryz.prog 36 #[prov (F i) (vu i) (vc i) (vn i) (vd i),.int .i64 x] wr (Szd (s i) x wr) from HS).mono ?_
        rintro e w6 ⟨r,rfl,hs,hm1,hr1,hb6⟩
        have hX:=(show x + (n : Int) + (sm s i : Int) ≤ l ∧ Kb 0 w wr from HX)
        have HB6 : Hid ((0 ≤ r → r + (n : Int) + (sm s (i + 1) : Int) ≤ l) ∧ Kb 0 w w6):=(⟨fun h=>by
          have:=hs h
          have:=hX.1
          show r + (n : Int) + ((sm s i + s i : Nat) : Int) ≤ l
          omega,hX.2.trans hb6⟩ : _ ∧ _)
        clear HS HX hX hb6 hs d0 d1 d2 d3 d4 d5 d6 d7 d8
        rcases Int.lt_or_le r 0 with hr0 | hr0
        · go_wp2_with fail
          go_ret
          exact ⟨-1,rfl,fun f=>by omega,by omega,by omega,HB6.2⟩
        · have hr0' : ¬ (r < 0):=by omega
          have hr2 : r ≤ l:=by omega
          have hnI : (n : Int) ≤ 1048576:=by omega
          clear hn h h' hm1 hx0 hx1 hr1
          go_wp2_with fail
          go_roundw
          case rel=>exact ⟨i + 1,r,rfl,by go_num,by omega,hr0,hr2,(⟨HB6.1 hr0,HB6.2⟩ : _ ∧ _)⟩
          case measure=>simp [intOf];omega
      · obtain rfl : i = n:=by omega
        clear HA
        go_wp2_with fail
        go_ret
        have hX:=(show x + (i : Int) + (sm s i : Int) ≤ l ∧ Kb 0 w wr from HX)
        exact ⟨x,rfl,fun _=>by have:=hX.1;omega,by omega,hx1,hX.2⟩
end Go.Proofs.YtnmeemjoodoalaaGreatDoor.Fo
