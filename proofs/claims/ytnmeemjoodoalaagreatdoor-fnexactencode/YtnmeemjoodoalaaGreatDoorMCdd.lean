import Derived.Test.YtnmeemjoodoalaaGreatDoorMCda
import Derived.Test.YtnmeemjoodoalaaGreatDoorMCfc
import Derived.Test.YtnmeemjoodoalaaGreatDoorMCdb
import Derived.Test.YtnmeemjoodoalaaGreatDoorMCbb
import Derived.Test.YtnmeemjoodoalaaGreatDoorMCjb
import Derived.Deep.RegionHeldLaw
set_option maxHeartbeats 32000000
namespace Go.Proofs.YtnmeemjoodoalaaGreatDoor.Fo
open Go.ChangeShapes Go.WideShapes Go.ChangeAt Go.RowKit
set_option linter.unusedVariables false
set_option maxRecDepth 100000
theorem sz_emp {x : ByteArray} : x = ⟨#[]⟩ ↔ x.size = 0:=by
  constructor
  · rintro rfl;rfl
  · intro h
    apply ByteArray.ext
    exact Array.eq_empty_of_size_eq_zero h
theorem sp_nam {d : Pd} {b : Addr} {i : Nat} {pu pc pn : Option Addr} {cu cc cn cm : Nat} (w : World) (hi : i < d.d) (hd : d.d ≤ 1048576) (hn : d.n ≤ 1048576) (hcel : CelM w (b.add (i * 4)) (d.D i)) (hg : 0 ≤ d.g ∧ d.g ≤ 250) :
    Calls Tryz.prog 97 #[.agg #[.string d.x,.int .i64 d.l,.int .i64 d.m,.bool d.r,.int .i64 d.g,.slice pu d.u cu,.slice pc d.c cc,.slice pn d.n cn,.slice (some b) d.d cm],.int .i64 (i : Int)] w fun e w'=>e = .returned (.bool (dc (Nok d i))) ∧ Kb 0 w w':=by
  obtain ⟨d0,d1,d2,d3⟩:=hcel.keep (Nat.zero_le _) (kb_alloc 0 w (.cells #[.string d.x,.int .i64 d.l,.int .i64 d.m,.bool d.r,.int .i64 d.g,.slice pu d.u cu,.slice pc d.c cc,.slice pn d.n cn,.slice (some b) d.d cm] 50))
  unfold Nok
  generalize d.D i = a at *
  obtain ⟨x,g,f,t⟩:=a
  obtain ⟨dx,l,m,r,G,u,U,c,C,n,N,dd,D⟩:=d
  dsimp only at *
  have hiI : (i : Int) < (dd : Int):=by omega
  have hdI : (dd : Int) ≤ 1048576:=by omega
  have hnI : (n : Int) ≤ 1048576:=by omega
  clear hi hd hn hcel
  by_cases h0 : i < 500
  rotate_left
  · have g0 : ¬ (i : Int) < 500:=by omega
    rw [dc_f (fun q=>h0 (q.1))]
    go_enter Tryz.func97,Tryz.ntmps97
    go_wp2_with ((go_at_call 99;first | refine (sp_in_t (by omega) _).mono ?_ | refine (sp_in_f (by omega) _).mono ?_);rintro e w1 ⟨rfl,rfl⟩)
    go_ret
    exact ⟨by first | rfl | simp [h5],kb_alloc2 _ _ _ _⟩
  have g0 : (i : Int) < 500:=by omega
  by_cases h1 : 1 ≤ x.size ∧ x.size ≤ 40
  rotate_left
  · have g1 : ¬ ((1 : Int) ≤ (x.size : Int) ∧ (x.size : Int) ≤ 40):=by omega
    rw [dc_f (fun q=>h1 (q.2.1))]
    go_enter Tryz.func97,Tryz.ntmps97
    go_wp2_with ((go_at_call 99;first | refine (sp_in_t (by omega) _).mono ?_ | refine (sp_in_f (by omega) _).mono ?_);rintro e w1 ⟨rfl,rfl⟩)
    go_ret
    exact ⟨by first | rfl | simp [h5],kb_alloc2 _ _ _ _⟩
  have g1 : (1 : Int) ≤ (x.size : Int) ∧ (x.size : Int) ≤ 40:=by omega
  by_cases h2 : 0 ≤ g ∧ g ≤ G - 1
  rotate_left
  · rw [dc_f (fun q=>h2 (q.2.2.1))]
    go_enter Tryz.func97,Tryz.ntmps97
    go_wp2_with ((go_at_call 99;first | refine (sp_in_t (by omega) _).mono ?_ | refine (sp_in_f (by omega) _).mono ?_);rintro e w1 ⟨rfl,rfl⟩)
    go_ret
    exact ⟨by first | rfl | simp [h5],kb_alloc2 _ _ _ _⟩
  skip
  by_cases h3 : 0 ≤ f
  rotate_left
  · rw [dc_f (fun q=>h3 (q.2.2.2.1))]
    go_enter Tryz.func97,Tryz.ntmps97
    go_wp2_with ((go_at_call 99;first | refine (sp_in_t (by omega) _).mono ?_ | refine (sp_in_f (by omega) _).mono ?_);rintro e w1 ⟨rfl,rfl⟩)
    go_ret
    exact ⟨by first | rfl | simp [h5],kb_alloc2 _ _ _ _⟩
  skip
  by_cases h4 : f ≤ t
  rotate_left
  · rw [dc_f (fun q=>h4 (q.2.2.2.2.1))]
    go_enter Tryz.func97,Tryz.ntmps97
    go_wp2_with ((go_at_call 99;first | refine (sp_in_t (by omega) _).mono ?_ | refine (sp_in_f (by omega) _).mono ?_);rintro e w1 ⟨rfl,rfl⟩)
    go_ret
    exact ⟨by first | rfl | simp [h5],kb_alloc2 _ _ _ _⟩
  skip
  by_cases h5 : t ≤ (n : Int)
  rotate_left
  · rw [dc_f (fun q=>h5 (q.2.2.2.2.2))]
    go_enter Tryz.func97,Tryz.ntmps97
    go_wp2_with ((go_at_call 99;first | refine (sp_in_t (by omega) _).mono ?_ | refine (sp_in_f (by omega) _).mono ?_);rintro e w1 ⟨rfl,rfl⟩)
    go_ret
    exact ⟨by first | rfl | simp [h5],kb_alloc2 _ _ _ _⟩
  skip
  rw [dc_t ⟨h0,h1,h2,h3,h4,h5⟩]
  go_enter Tryz.func97,Tryz.ntmps97
  go_wp2_with ((go_at_call 99;first | refine (sp_in_t (by omega) _).mono ?_ | refine (sp_in_f (by omega) _).mono ?_);rintro e w1 ⟨rfl,rfl⟩)
  go_ret
  exact ⟨by first | rfl | simp [h5],kb_alloc2 _ _ _ _⟩
def Lx (P : Nat → Nat → Prop) (L : Nat → Nat) (nf f n : Nat) : Prop:=f < nf ∧ n < L f ∧ ¬ P f n ∧ (∀ i,i < n → P f i) ∧ ∀ g,g < f → ∀ i,i < L g → P g i
def La (P : Nat → Nat → Prop) (L : Nat → Nat) (nf : Nat) : Prop:=∀ f,f < nf → ∀ i,i < L f → P f i
theorem Lx.uniq {P : Nat → Nat → Prop} {L : Nat → Nat} {nf f n g m : Nat} (h : Lx P L nf f n) (k : Lx P L nf g m) : f = g ∧ n = m:=by
  obtain ⟨h1,h2,h3,h4,h5⟩:=h
  obtain ⟨k1,k2,k3,k4,k5⟩:=k
  have hf : f = g:=by
    rcases Nat.lt_trichotomy f g with q | q | q
    · exact absurd (k5 f q n h2) h3
    · exact q
    · exact absurd (h5 g q m k2) k3
  subst hf
  refine ⟨rfl,?_⟩
  rcases Nat.lt_trichotomy n m with q | q | q
  · exact absurd (k4 n q) h3
  · exact q
  · exact absurd (h4 m q) k3
structure Bd (np : Nat) (F : Nat → Pd) : Prop where
  hnp : np ≤ 1048576
  hsm : sm (fun i=>(F i).n) np ≤ 1048576
  hu : ∀ p,p < np → (F p).u ≤ 1048576
  hc : ∀ p,p < np → (F p).c ≤ 1048576
  hn : ∀ p,p < np → (F p).n ≤ 1048576
  hd : ∀ p,p < np → (F p).d ≤ 1048576
  hg : ∀ p,p < np → -9223372036854775808 ≤ (F p).g
  hC : ∀ p,p < np → ∀ i,i < (F p).c → (((F p).C i).x.size : Int) ≤ 1048576 ∧ ((F p).C i).g < 18446744073709551616
def Szu (np : Nat) (F : Nat → Pd) : Prop:=0 < np ∧ np ≤ 200 ∧ sm (fun i=>(F i).n) np ≤ 6000
def MB (F : Nat → Pd) (p i : Nat) (k : Int) : Prop:=∃ q j,(q < p ∨ (q = p ∧ j < i)) ∧ j < (F q).n ∧ ((F q).N j).o = 11 ∧ ((F q).N j).b = k
def P5 (np : Nat) (F : Nat → Pd) (p i : Nat) : Prop:=(F p).n ≠ 0 ∧ Iok np (F p) i
def P6 (F : Nat → Pd) (p i : Nat) : Prop:=((F p).N i).o = 11 → (p : Int) < ((F p).N i).b ∧ ¬ MB F p i ((F p).N i).b ∧ Uok (F p) (F ((F p).N i).b.toNat)
def P7 (np : Nat) (F : Nat → Pd) (p : Nat) : Prop:=p = 0 ∨ MB F np 0 (p : Int)
def L5 (F : Nat → Pd) (p : Nat) : Nat:=if (F p).n = 0 then 1 else (F p).n
def PQ (F : Nat → Pd) (np : Nat) (c p i : Nat) : Prop :=
  match c with
  | 2=>Hd p (F p)
  | 3=>Cok ((F p).C i)
  | 4=>Nok (F p) i
  | 5=>P5 np F p i
  | 6=>P6 F p i
  | _=>P7 np F p
def LQ (F : Nat → Pd) (c p : Nat) : Nat :=
  match c with
  | 2=>1
  | 3=>(F p).c
  | 4=>(F p).d
  | 5=>L5 F p
  | 6=>(F p).n
  | _=>1
def Ans (m np : Nat) (F : Nat → Pd) (c f n : Nat) : Prop :=
  (c = 1 ∧ f = 0 ∧ n = 0 ∧ ¬ Szu np F) ∨ (Szu np F ∧ 2 ≤ c ∧ c ≤ m ∧ Lx (PQ F np c) (LQ F c) np f n ∧ ∀ c',2 ≤ c' → c' < c → La (PQ F np c') (LQ F c') np) ∨ (Szu np F ∧ c = 0 ∧ f = 0 ∧ n = 0 ∧ ∀ c',2 ≤ c' → c' ≤ m → La (PQ F np c') (LQ F c') np)
theorem lx_la {P : Nat → Nat → Prop} {L : Nat → Nat} {nf f n : Nat} (h : Lx P L nf f n) (k : La P L nf) : False:=h.2.2.1 (k f h.1 n h.2.1)
theorem Ans.uniq {m np : Nat} {F : Nat → Pd} {c f n c' f' n' : Nat} (h : Ans m np F c f n) (k : Ans m np F c' f' n') : c = c' ∧ f = f' ∧ n = n':=by
  rcases h with ⟨h1,h2,h3,h4⟩ | ⟨h1,h2,h3,h4,h5⟩ | ⟨h1,h2,h3,h4,h5⟩ <;> rcases k with ⟨k1,k2,k3,k4⟩ | ⟨k1,k2,k3,k4,k5⟩ | ⟨k1,k2,k3,k4,k5⟩
  · exact ⟨by omega,by omega,by omega⟩
  · exact absurd k1 h4
  · exact absurd k1 h4
  · exact absurd h1 k4
  · have e : c = c' := by
      rcases Nat.lt_trichotomy c c' with q | q | q
      · exact (lx_la h4 (k5 c h2 q)).elim
      · exact q
      · exact (lx_la k4 (h5 c' k2 q)).elim
    subst e
    exact ⟨rfl,h4.uniq k4⟩
  · exact (lx_la h4 (k5 c h2 h3)).elim
  · exact absurd h1 k4
  · exact (lx_la k4 (h5 c' k2 k3)).elim
  · exact ⟨by omega,by omega,by omega⟩
theorem bd_of {nf : Nat} {F : Nat → Pd} (h : nf + sm (szP F) nf ≤ 1048576) (hF : ∀ i,i < nf → RdP (F i)) : Bd nf F:=by
  have one : ∀ f,f < nf → szP F f ≤ 1048576:=fun f hf=>by have:=sm_one (szP F) hf;omega
  refine ⟨by omega,?_,?_,?_,?_,?_,fun f hf=>(hF f hf).2.2,?_⟩
  · have : sm (fun i => (F i).n) nf ≤ sm (szP F) nf := by
      have : ∀ k,k ≤ nf → sm (fun i=>(F i).n) k ≤ sm (szP F) k:=by
        intro k
        induction k with
        | zero=>intro _;exact Nat.le_refl _
        | succ k ih =>
          intro hk
          have:=ih (by omega)
          show sm (fun i=>(F i).n) k + (F k).n ≤ sm (szP F) k + szP F k
          unfold szP
          unfold szP at this
          omega
      exact this nf (Nat.le_refl _)
    omega
  · intro f hf;have:=one f hf;unfold szP at this;omega
  · intro f hf;have:=one f hf;unfold szP at this;omega
  · intro f hf;have:=one f hf;unfold szP at this;omega
  · intro f hf;have:=one f hf;unfold szP at this;omega
  · intro f hf i hi
    refine ⟨?_,((hF f hf).2.1 i hi).1⟩
    have h1:=one f hf
    have h2:=sm_one (fun j=>((F f).C j).x.size) hi
    unfold szP at h1
    try dsimp only at h2
    omega
theorem bf_of {nf : Nat} {F : Nat → Pd} (hF : ∀ i,i < nf → RdP (F i)) : BP F nf:=fun i hi=>(hF i hi).1
theorem to_code {va : Value} {nf : Nat} {F : Nat → Pd} (w : World) (ha : RowP 0 w va nf F) (hb : Bd nf F) : Calls Tryz.prog 7 #[.agg #[va]] w fun e w'=>∃ v,e = .returned (.agg #[v]) ∧ RowP w.heap.size w' v nf F ∧ Kb 0 w w' :=
  to_code0 w (fun W k=>to_pros W (ha.keep k) hb.hnp (fun i hi=>⟨hb.hu i hi,hb.hc i hi,hb.hn i hi,hb.hd i hi⟩))
theorem eq_code {va vb : Value} {nf : Nat} {F : Nat → Pd} (w : World) (ha : RowP 0 w va nf F) (hv : RowP 0 w vb nf F) (hb : Bd nf F) : Calls Tryz.prog 10 #[.agg #[va],.agg #[vb]] w fun e w'=>e = .returned (.bool true) ∧ Kb 0 w w' :=
  eq_code0 w (fun W k=>eq_pros W (ha.keep k) (hv.keep k) hb.hnp (fun i hi=>⟨hb.hu i hi,hb.hc i hi,hb.hn i hi,hb.hd i hi,fun j hj=>(hb.hC i hi j hj).2⟩))
theorem im_holds (lo hi x : Int) (w : World) : Calls Tryz.prog 145 #[.agg #[.int .i64 lo,.int .i64 hi],.int .i64 x] w fun e w'=>e = .returned (.bool (dc (lo ≤ x ∧ x ≤ hi))) ∧ Kb 0 w w':=by
  by_cases h1 : lo ≤ x
  · by_cases h2 : x ≤ hi
    · rw [dc_t ⟨h1,h2⟩]
      go_enter Tryz.func145,Tryz.ntmps145
      go_wp2_with fail
      go_ret
      exact ⟨by first | rfl | simp [h2],kb_alloc _ _ _⟩
    · rw [dc_f (fun q=>h2 q.2)]
      go_enter Tryz.func145,Tryz.ntmps145
      go_wp2_with fail
      go_ret
      exact ⟨by first | rfl | simp [h2],kb_alloc _ _ _⟩
  · rw [dc_f (fun q=>h1 q.1)]
    go_enter Tryz.func145,Tryz.ntmps145
    go_wp2_with fail
    go_ret
    exact ⟨rfl,kb_alloc _ _ _⟩
theorem im_just (n : Int) (w : World) : Calls Tryz.prog 154 #[.int .i64 n] w fun e w'=>e = .returned (.agg #[.int .i64 n,.int .i64 n]) ∧ Kb 0 w w':=by
  go_enter Tryz.func154,Tryz.ntmps154
  go_wp2_with fail
  refine bodyPost_ret (by simp [results,Tryz.results154,go_sem];rfl) rfl ?_
  exact ⟨rfl,by repeat (first | exact Kb.refl _ _ | apply Kb.alloc)⟩
theorem im_fieldsof (a : Iv) (w : World) : Calls Tryz.prog 143 #[insv a] w fun e w'=>e = .returned (.agg #[.int .i64 a.a,.int .i64 a.b,.int .i64 a.c,.int .i64 a.d]) ∧ Kb 0 w w':=by
  unfold insv
  go_enter Tryz.func143,Tryz.ntmps143
  go_wp2_with fail
  refine bodyPost_ret (by simp [results,Tryz.results143,go_sem];rfl) rfl ?_
  exact ⟨rfl,by repeat (first | exact Kb.refl _ _ | apply Kb.alloc)⟩
theorem im_ends (o : Int) (w : World) : Calls Tryz.prog 108 #[.int .i64 o] w fun e w'=>e = .returned (.bool (dc (Ends o))) ∧ w' = w:=by
  unfold Ends
  by_cases h1 : o = 19
  · rw [dc_t (.inl h1)]
    have g1:=beq1 h1
    go_enter Tryz.func108,Tryz.ntmps108
    go_wp2_with fail
    go_ret
    exact ⟨by first | rfl | simp [g1],rfl⟩
  by_cases h2 : o = 29
  · rw [dc_t (.inr (.inl h2))]
    have g1:=bne h1
    have g2:=beq1 h2
    go_enter Tryz.func108,Tryz.ntmps108
    go_wp2_with fail
    go_ret
    exact ⟨by first | rfl | simp [g1,g2],rfl⟩
  by_cases h3 : o = 30
  · rw [dc_t (.inr (.inr h3))]
    have g1:=bne h1
    have g2:=bne h2
    have g3:=beq1 h3
    go_enter Tryz.func108,Tryz.ntmps108
    go_wp2_with fail
    go_ret
    exact ⟨by first | rfl | simp [g1,g2,g3],rfl⟩
  rw [dc_f (fun q=>q.elim h1 (fun q=>q.elim h2 h3))]
  have g1:=bne h1
  have g2:=bne h2
  have g3:=bne h3
  go_enter Tryz.func108,Tryz.ntmps108
  go_wp2_with fail
  go_ret
  exact ⟨by first | rfl | simp [g1,g2,g3],rfl⟩
theorem two_new' (w : World) (a b : Array Value) (t1 t2 : TypeId) (W : World) (h : W = (w.alloc (.cells a t1)).alloc (.cells b t2)) : W.heap[w.heap.size]? = some (.cells a t1 (0,0)) ∧ W.heap[w.heap.size + 1]? = some (.cells b t2 (0,0)) ∧ W.heap.size = w.heap.size + 2 ∧ Kb 0 w W:=by
  subst h
  have e1 : (w.alloc (.cells a t1)).heap.size = w.heap.size + 1:=World.size_alloc _ _
  refine ⟨?_,?_,by rw [World.size_alloc,e1],kb_alloc2 _ _ _ _⟩
  · rw [(kb_alloc 0 _ _).block _ (Nat.zero_le _) (by omega)]
    exact alloc_new _ _ _
  · rw [← e1]
    exact alloc_new _ _ _
theorem im_allows {A : Addr} {np ca B r : Nat} {d : Pd} {pu pc pn pm : Option Addr} {cu cc cn cm : Nat} (w : World) (hr : r < 24) (hnp : np ≤ 1048576) (hb : w.cell? ⟨B, 0, none⟩ = some (.slice (some A) np ca)) (hu : d.u ≤ 1048576) (hc : d.c ≤ 1048576) (hni : d.n ≤ 1048576) (hg : 0 ≤ d.g ∧ d.g ≤ 250) :
    Calls Tryz.prog 144 #[.pointer (some ⟨B,0,none⟩),.agg #[.string d.x,.int .i64 d.l,.int .i64 d.m,.bool d.r,.int .i64 d.g,.slice pu d.u cu,.slice pc d.c cc,.slice pn d.n cn,.slice pm d.d cm],.int .u8 (r : Int)] w fun e w'=>e = .returned (.agg #[.int .i64 (rg np d (pcl r)).1,.int .i64 (rg np d (pcl r)).2]) ∧ Kb 0 w w':=by
  have hnpI : (np : Int) ≤ 1048576:=by omega
  have huI : (d.u : Int) ≤ 1048576:=by omega
  have hcI : (d.c : Int) ≤ 1048576:=by omega
  have hniI : (d.n : Int) ≤ 1048576:=by omega
  have o0 : ∀ o p,((w.alloc o).alloc p).cell? ⟨B,0,none⟩ = some (.slice (some A) np ca):=fun o p=>(kb_alloc2 0 w o p).cell hb
  clear hnp hu hc hni
  rcases (by omega : r = 0 ∨ r = 1 ∨ r = 2 ∨ r = 3 ∨ r = 4 ∨ r = 5 ∨ r = 6 ∨ r = 7 ∨ r = 8 ∨ r = 9 ∨ r = 10 ∨ r = 11 ∨ r = 12 ∨ r = 13 ∨ r = 14 ∨ r = 15 ∨ r = 16 ∨ r = 17 ∨ r = 18 ∨ r = 19 ∨ r = 20 ∨ r = 21 ∨ r = 22 ∨ r = 23) with rfl | rfl | rfl | rfl | rfl | rfl | rfl | rfl | rfl | rfl | rfl | rfl | rfl | rfl | rfl | rfl | rfl | rfl | rfl | rfl | rfl | rfl | rfl | rfl
  · clear hr
    go_enter Tryz.func144,Tryz.ntmps144
    go_wp2_with fail
    refine (im_just 0 _).mono ?_
    rintro e w1 ⟨rfl,k1⟩
    obtain ⟨b0,b1,bs,k2⟩:=two_new' w _ _ _ _ _ rfl
    have q0:=k1.cell (cell_of (j:=0) b1 rfl)
    have q1:=k1.cell (cell_of (j:=1) b1 rfl)
    have qf : ∀ j,w1.frozen? ⟨w.heap.size + 1,j,none⟩ = false:=fun j=>(k1.frozen (Nat.zero_le _) (by omega)).trans (frozen_of b1)
    have HK : Hid (Kb 0 w w1):=k2.trans k1
    clear k1 b0 b1 bs k2
    go_wp2_with fail
    refine bodyPost_ret (by simp [results,Tryz.results144,go_sem,q0,q1];rfl) rfl ?_
    exact ⟨rfl,((show Kb 0 w w1 from HK).setCell ⟨w.heap.size + 1,0,none⟩ (Or.inr (by show w.heap.size ≤ w.heap.size + 1;omega)) _).setCell ⟨w.heap.size + 1,1,none⟩ (Or.inr (by show w.heap.size ≤ w.heap.size + 1;omega)) _⟩
  all_goals
    clear hr
    go_enter Tryz.func144,Tryz.ntmps144
    go_wp2_with fail
    refine bodyPost_ret (by simp [results,Tryz.results144,go_sem];rfl) rfl ?_
    exact ⟨rfl,by repeat (first | exact Kb.refl _ _ | apply Kb.alloc)⟩
end Go.Proofs.YtnmeemjoodoalaaGreatDoor.Fo
