import Derived.Test.YtnmeemjoodoalaaGreatDoorMCgc
import Derived.Laws.MakeOwn
set_option maxHeartbeats 64000000
namespace Go.Proofs.YtnmeemjoodoalaaGreatDoor.Fo
open Go.ChangeShapes Go.WideShapes Go.ChangeAt Go.RowKit
set_option linter.unusedVariables false
set_option maxRecDepth 100000
theorem sp_parts0 {pa : Option Addr} {ca : Nat} {F : Nat → Pd} (w : World) :
    Calls Tryz.prog 37 #[.agg #[.slice pa 0 ca]] w fun e w'=>∃ c f n : Nat,e = .returned (.agg #[.int .i64 (c : Int),.int .i64 (f : Int),.int .i64 (n : Int)]) ∧ Ans 5 0 F c f n ∧ Kb 0 w w':=by
  obtain ⟨w2,hw2⟩ : ∃ w2,w2 = (w.alloc (.cells #[.slice pa 0 ca] 30)).alloc (.cells #[.int .i64 0,.int .i64 0,.int .i64 0] 42):=⟨_,rfl⟩
  obtain ⟨b0,b1,sz2,k2⟩:=two_new w _ _ _ _ w2 hw2
  have c2 : w2.cell? ⟨w.heap.size,0,none⟩ = some (.slice pa 0 ca):=cell_of b0 rfl
  have HB : Hid (w2.heap[w.heap.size + 1]? = some (.cells #[.int .i64 0,.int .i64 0,.int .i64 0] 42 (0,0)) ∧ w2.heap.size = w.heap.size + 2 ∧ Kb 0 w w2):=(⟨b1,sz2,k2⟩ : _ ∧ _)
  have HW : Hid (w2 = (w.alloc (.cells #[.slice pa 0 ca] 30)).alloc (.cells #[.int .i64 0,.int .i64 0,.int .i64 0] 42)):=hw2
  have HAN : Hid (Ans 5 0 F 1 0 0):=Or.inl ⟨rfl,rfl,rfl,fun h=>absurd h.1 (by omega)⟩
  clear hw2 b0 b1 sz2 k2
  go_enter Tryz.func37,Tryz.ntmps37
  go_wp2_with fail
  rw [← (show w2 = _ from HW)]
  clear HW
  go_loopw [3,20] (fun s3 s20 wr=>s20 = .int .i64 0 ∧ s3 = .int .i64 0 ∧ wr = w2) (fun _ _ _=>0)
  case atStart=>exact ⟨rfl,rfl,rfl⟩
  case round =>
    obtain ⟨rfl,rfl,rfl⟩:=hrel
    go_wp2_with fail
    obtain ⟨b1,sz2,k2⟩:=(show wr.heap[w.heap.size + 1]? = some (.cells #[.int .i64 0,.int .i64 0,.int .i64 0] 42 (0,0)) ∧ wr.heap.size = w.heap.size + 2 ∧ Kb 0 w wr from HB)
    refine (sp_fault 1 0 0 _).mono ?_
    rintro e w9 ⟨rfl,k9⟩
    have r0 : w9.cell? ⟨w.heap.size + 1,0,none⟩ = some (.int .i64 0):=k9.cell (cell_of b1 rfl)
    have r1 : w9.cell? ⟨w.heap.size + 1,1,none⟩ = some (.int .i64 0):=k9.cell (cell_of b1 rfl)
    have r2 : w9.cell? ⟨w.heap.size + 1,2,none⟩ = some (.int .i64 0):=k9.cell (cell_of b1 rfl)
    have fr : ∀ j,w9.frozen? ⟨w.heap.size + 1,j,none⟩ = false:=fun j=>(k9.frozen (Nat.zero_le _) (by omega)).trans (frozen_of b1)
    have HKW : Hid (Kb 0 w w9):=k2.trans k9
    clear k9 b1 sz2 k2 HB c2
    go_wp2_with fail
    refine bodyPost_ret (by simp [results,Tryz.results37,go_sem,r0,r1,r2];rfl) rfl ?_
    exact ⟨1,0,0,rfl,HAN,(((show Kb 0 w w9 from HKW).setCell ⟨w.heap.size + 1,0,none⟩ (Or.inr (by show w.heap.size ≤ w.heap.size + 1;omega)) _).setCell ⟨w.heap.size + 1,1,none⟩ (Or.inr (by show w.heap.size ≤ w.heap.size + 1;omega)) _).setCell ⟨w.heap.size + 1,2,none⟩ (Or.inr (by show w.heap.size ≤ w.heap.size + 1;omega)) _⟩
theorem ans_up {np : Nat} {F : Nat → Pd} {c f n : Nat} (h : Ans 5 np F c f n) (hc : c ≠ 0) : Ans 7 np F c f n:=by
  rcases h with h | ⟨h1,h2,h3,h4,h5⟩ | ⟨_,h2,_⟩
  · exact .inl h
  · exact .inr (.inl ⟨h1,h2,by omega,h4,h5⟩)
  · exact absurd h2 hc
theorem sp_shape {pa : Option Addr} {np ca : Nat} {F : Nat → Pd} (w : World) (hpa : 0 < np → ∃ A : Addr, pa = some A ∧ np ≤ ca ∧ 0 ≤ A.block ∧ ∀ i, i < np → ProC 0 w (A.add (i * 9)) (F i)) (hb : Bd np F) :
    Calls Tryz.prog 19 #[.agg #[.slice pa np ca]] w fun e w'=>∃ c f n : Nat,e = .returned (.agg #[.int .i64 (c : Int),.int .i64 (f : Int),.int .i64 (n : Int)]) ∧ Ans 7 np F c f n ∧ Kb 0 w w':=by
  have HP : ∀ W,Kb 0 w W → Calls Tryz.prog 37 #[.agg #[.slice pa np ca]] W fun e w'=>∃ c f n : Nat,e = .returned (.agg #[.int .i64 (c : Int),.int .i64 (f : Int),.int .i64 (n : Int)]) ∧ Ans 5 np F c f n ∧ Kb 0 W w':=by
    intro W k
    rcases Nat.eq_zero_or_pos np with h | h
    · subst h;exact sp_parts0 W
    · obtain ⟨A,rfl,hca,-,hfn⟩:=hpa h
      exact sp_parts W (fun i hi=>(hfn i hi).keep (Nat.zero_le _) k) h hca hb
  have hnI : (np : Int) ≤ 1048576:=by have:=hb.hnp;omega
  obtain ⟨w2,hw2⟩ : ∃ w2,w2 = (w.alloc (.cells #[.slice pa np ca] 30)).alloc (.cells #[.int .i64 0,.int .i64 0,.int .i64 0] 42):=⟨_,rfl⟩
  obtain ⟨b0,b1,sz2,k2⟩:=two_new w _ _ _ _ w2 hw2
  have HPW:=HP w2 k2
  have HB : Hid (w2.heap[w.heap.size]? = some (.cells #[.slice pa np ca] 30 (0,0)) ∧ w2.heap[w.heap.size + 1]? = some (.cells #[.int .i64 0,.int .i64 0,.int .i64 0] 42 (0,0)) ∧ w2.heap.size = w.heap.size + 2 ∧ Kb 0 w w2):=(⟨b0,b1,sz2,k2⟩ : _ ∧ _)
  have HW : Hid (w2 = (w.alloc (.cells #[.slice pa np ca] 30)).alloc (.cells #[.int .i64 0,.int .i64 0,.int .i64 0] 42)):=hw2
  have HPA : Hid ((0 < np → ∃ A : Addr,pa = some A ∧ np ≤ ca ∧ 0 ≤ A.block ∧ ∀ i,i < np → ProC 0 w (A.add (i * 9)) (F i)) ∧ Bd np F):=(⟨hpa,hb⟩ : _ ∧ _)
  clear hw2 b0 b1 sz2 k2 HP hpa hb
  go_enter Tryz.func19,Tryz.ntmps19
  go_wp2_with fail
  rw [← (show w2 = _ from HW)]
  clear HW
  refine HPW.mono ?_
  rintro e w3 ⟨c,f,n,rfl,hans,k3⟩
  clear HPW
  obtain ⟨b0,b1,sz2,k2⟩:=(show w2.heap[w.heap.size]? = some (.cells #[.slice pa np ca] 30 (0,0)) ∧ w2.heap[w.heap.size + 1]? = some (.cells #[.int .i64 0,.int .i64 0,.int .i64 0] 42 (0,0)) ∧ w2.heap.size = w.heap.size + 2 ∧ Kb 0 w w2 from HB)
  obtain ⟨w4,hw4⟩ : ∃ w4,w4 = w3.alloc (.cells #[.int .i64 (c : Int),.int .i64 (f : Int),.int .i64 (n : Int)] 42):=⟨_,rfl⟩
  have k34 : Kb 0 w3 w4:=by rw [hw4];exact kb_alloc _ _ _
  have a0 : w4.cell? ⟨w3.heap.size,0,none⟩ = some (.int .i64 (c : Int)):=by rw [hw4];exact cell_of (alloc_new _ _ _) rfl
  have a1 : w4.cell? ⟨w3.heap.size,1,none⟩ = some (.int .i64 (f : Int)):=by rw [hw4];exact cell_of (alloc_new _ _ _) rfl
  have a2 : w4.cell? ⟨w3.heap.size,2,none⟩ = some (.int .i64 (n : Int)):=by rw [hw4];exact cell_of (alloc_new _ _ _) rfl
  have k24:=k3.trans k34
  have HW4 : Hid (w4 = w3.alloc (.cells #[.int .i64 (c : Int),.int .i64 (f : Int),.int .i64 (n : Int)] 42)):=hw4
  have HRES : Hid (∀ W,Kb 0 w4 W → W.cell? ⟨w.heap.size + 1,0,none⟩ = some (.int .i64 0) ∧ W.cell? ⟨w.heap.size + 1,1,none⟩ = some (.int .i64 0) ∧ W.cell? ⟨w.heap.size + 1,2,none⟩ = some (.int .i64 0) ∧ (∀ j,W.frozen? ⟨w.heap.size + 1,j,none⟩ = false) ∧ Kb 0 w W):=(fun W k=>by
    have q:=k24.trans k
    have:=q.size
    exact ⟨q.cell (cell_of b1 rfl),q.cell (cell_of b1 rfl),q.cell (cell_of b1 rfl),fun j=>(q.frozen (Nat.zero_le _) (by omega)).trans (frozen_of b1),k2.trans q⟩ : ∀ W,_)
  have c0 : w4.cell? ⟨w.heap.size,0,none⟩ = some (.slice pa np ca):=k24.cell (cell_of b0 rfl)
  have K4 : Hid (Kb 0 w w4 ∧ Kb 0 w2 w4):=(⟨k2.trans k24,k24⟩ : _ ∧ _)
  have HANS : Hid (Ans 5 np F c f n):=hans
  clear HB b0 b1 sz2 k2 k3 k34 k24 hw4 hans
  by_cases hc : c = 0
  rotate_left
  · have gc : ((c : Int) == 0) = false:=bne (by omega)
    have gc2 : ((c : Int) != 0) = true:=by simp;omega
    have HAN : Hid (Ans 7 np F c f n):=ans_up HANS hc
    have r0 : w4.cell? ⟨w.heap.size + 1,0,none⟩ = some (.int .i64 0):=((show ∀ W,Kb 0 w4 W → W.cell? ⟨w.heap.size + 1,0,none⟩ = some (.int .i64 0) ∧ W.cell? ⟨w.heap.size + 1,1,none⟩ = some (.int .i64 0) ∧ W.cell? ⟨w.heap.size + 1,2,none⟩ = some (.int .i64 0) ∧ (∀ j,W.frozen? ⟨w.heap.size + 1,j,none⟩ = false) ∧ Kb 0 w W from HRES) w4 (Kb.refl _ _)).1
    have r1 : w4.cell? ⟨w.heap.size + 1,1,none⟩ = some (.int .i64 0):=((show ∀ W,Kb 0 w4 W → W.cell? ⟨w.heap.size + 1,0,none⟩ = some (.int .i64 0) ∧ W.cell? ⟨w.heap.size + 1,1,none⟩ = some (.int .i64 0) ∧ W.cell? ⟨w.heap.size + 1,2,none⟩ = some (.int .i64 0) ∧ (∀ j,W.frozen? ⟨w.heap.size + 1,j,none⟩ = false) ∧ Kb 0 w W from HRES) w4 (Kb.refl _ _)).2.1
    have r2 : w4.cell? ⟨w.heap.size + 1,2,none⟩ = some (.int .i64 0):=((show ∀ W,Kb 0 w4 W → W.cell? ⟨w.heap.size + 1,0,none⟩ = some (.int .i64 0) ∧ W.cell? ⟨w.heap.size + 1,1,none⟩ = some (.int .i64 0) ∧ W.cell? ⟨w.heap.size + 1,2,none⟩ = some (.int .i64 0) ∧ (∀ j,W.frozen? ⟨w.heap.size + 1,j,none⟩ = false) ∧ Kb 0 w W from HRES) w4 (Kb.refl _ _)).2.2.1
    have fr : ∀ j,w4.frozen? ⟨w.heap.size + 1,j,none⟩ = false:=fun j=>((show ∀ W,Kb 0 w4 W → W.cell? ⟨w.heap.size + 1,0,none⟩ = some (.int .i64 0) ∧ W.cell? ⟨w.heap.size + 1,1,none⟩ = some (.int .i64 0) ∧ W.cell? ⟨w.heap.size + 1,2,none⟩ = some (.int .i64 0) ∧ (∀ j,W.frozen? ⟨w.heap.size + 1,j,none⟩ = false) ∧ Kb 0 w W from HRES) w4 (Kb.refl _ _)).2.2.2.1 j
    clear HRES HANS hc HPA a0 a1 a2
    have hw4:=(show w4 = _ from HW4)
    clear HW4
    subst hw4
    go_wp2_with fail
    refine bodyPost_ret (by simp [results,Tryz.results19,go_sem,r0,r1,r2];rfl) rfl ?_
    exact ⟨c,f,n,rfl,HAN,((((show Kb 0 w _ from K4.1)).setCell ⟨w.heap.size + 1,0,none⟩ (Or.inr (by show w.heap.size ≤ w.heap.size + 1;omega)) _).setCell ⟨w.heap.size + 1,1,none⟩ (Or.inr (by show w.heap.size ≤ w.heap.size + 1;omega)) _).setCell ⟨w.heap.size + 1,2,none⟩ (Or.inr (by show w.heap.size ≤ w.heap.size + 1;omega)) _⟩
  subst hc
  replace a0 : w4.cell? ⟨w3.heap.size,0,none⟩ = some (.int .i64 0):=a0
  have HW4z : Hid (w4 = w3.alloc (.cells #[.int .i64 0,.int .i64 (f : Int),.int .i64 (n : Int)] 42)):=HW4
  clear HW4
  have HW4:=HW4z
  clear HW4z
  obtain ⟨hsz,hla⟩ : Szu np F ∧ ∀ c',2 ≤ c' → c' ≤ 5 → La (PQ F np c') (LQ F c') np:=by
    rcases (show Ans 5 np F 0 f n from HANS) with h | h | h
    · exact absurd h.1 (by omega)
    · exact absurd h.2.1 (by omega)
    · exact ⟨h.1,h.2.2.2.2⟩
  obtain ⟨A,rfl,hca,-,hfn⟩:=(show (0 < np → ∃ A : Addr,pa = some A ∧ np ≤ ca ∧ 0 ≤ A.block ∧ ∀ i,i < np → ProC 0 w (A.add (i * 9)) (F i)) ∧ Bd np F from HPA).1 hsz.1
  have hb:=(show (0 < np → ∃ A' : Addr,some A = some A' ∧ np ≤ ca ∧ 0 ≤ A'.block ∧ ∀ i,i < np → ProC 0 w (A'.add (i * 9)) (F i)) ∧ Bd np F from HPA).2
  have HLA : Hid (Szu np F ∧ ∀ c',2 ≤ c' → c' ≤ 5 → La (PQ F np c') (LQ F c') np):=(⟨hsz,hla⟩ : _ ∧ _)
  have hhd : ∀ p,p < np → Hd p (F p):=fun p hp=>hla 2 (by omega) (by omega) p hp 0 Nat.zero_lt_one
  have HBOX : Hid (∀ W,Kb 0 w4 W → W.cell? ⟨w.heap.size,0,none⟩ = some (.slice (some A) np ca)):=(fun W k=>k.cell c0 : ∀ W,_)
  have HFN : Hid (∀ W,Kb 0 w4 W → ∀ i,i < np → ProC 0 W (A.add (i * 9)) (F i)):=(fun W k i hi=>(hfn i hi).keep (Nat.zero_le _) ((show Kb 0 w w4 from K4.1).trans k) : ∀ W,_)
  have HUP : Hid (∀ W,Kb 0 w4 W → ∀ p,p < np → ∀ k,k < np → Calls Tryz.prog 38 #[.agg #[.slice (some A) np ca],.int .i64 (p : Int),.int .i64 (k : Int)] W fun e w'=>e = .returned (.bool (dc (Uok (F p) (F k)))) ∧ Kb 0 W w'):=(fun W k p hp kk hk=>sp_upsok W (fun i hi=>(hfn i hi).keep (Nat.zero_le _) ((show Kb 0 w w4 from K4.1).trans k)) hp hk hb.hnp (hb.hu kk hk) (hb.hu p hp) (hhd p hp).2.2.1 : ∀ W,_)
  have HBD : Hid (Bd np F):=hb
  have HMB : Hid (∀ p i,p < np → i < (F p).n → ((F p).N i).o = 11 → 0 ≤ ((F p).N i).b ∧ ((F p).N i).b ≤ (np : Int) - 1):=(fun p i hp hi ho=>by
    have h5:=hla 5 (by omega) (by omega) p hp i (by show i < L5 F p;unfold L5;split <;> omega)
    exact fn_rng (show P5 np F p i from h5).2.1 ho : ∀ p,_)
  have hmk:=run_make (P:=Tryz.prog) w4 79 4 Tryz.t4 (.bool false) Tryz.underlying79 (by kernel_rfl) (by kernel_rfl) .i64 .i64 (np : Int) (np : Int) (by omega) (Int.le_refl _) (by show (1 : Int) * (np : Int) ≤ _;omega) (by omega)
  rw [Int.toNat_natCast] at hmk
  obtain ⟨w5,hw5⟩ : ∃ w5,w5 = w4.alloc (.cells (madeCells (.bool false : Value).cells (np * 1)) 4):=⟨_,rfl⟩
  have hmk2:=hmk
  rw [show np * Tryz.t4.size = np * 1 from rfl,← hw5] at hmk2
  obtain ⟨G,hG⟩ : ∃ G,G = w4.heap.size:=⟨_,rfl⟩
  rw [← hG] at hmk2
  have HA0 : Hid (Ab w5 G np (fun k=>dc (MB F 0 0 (k : Int))) w5):=by
    rw [hG,hw5]
    refine (ab_zero w4 np 4).eqv (fun j _=>?_)
    exact dc_f (mb_zero F _)
  have HG : Hid (G = w4.heap.size ∧ Kb 0 w4 w5):=(⟨hG,by rw [hw5];exact kb_alloc _ _ _⟩ : _ ∧ _)
  clear hmk hw5 hG hb hsz hla hfn hhd HPA HANS a0 a1 a2
  have hw4:=(show w4 = _ from HW4)
  have c5 : w5.cell? ⟨w.heap.size,0,none⟩ = some (.slice (some A) np ca):=(show Kb 0 w4 w5 from HG.2).cell c0
  rw [hw4] at c0 hmk2
  clear HW4 hw4
  go_wp2_with fail
  clear hmk2 c0 c5
  go_loopw [23] (fun sl wr=>∃ p : Nat,sl = .int .i64 (p : Int) ∧ p ≤ np ∧ Hid (Ab w5 G np (fun k=>dc (MB F p 0 (k : Int))) wr ∧ (∀ g,g < p → ∀ y,y < (F g).n → P6 F g y))) (fun sl _=>np - (intOf sl).toNat)
  case atStart=>exact ⟨0,rfl,Nat.zero_le _,(⟨HA0,fun g hg=>by omega⟩ : _ ∧ _)⟩
  case round =>
    clear HA0
    obtain ⟨p,rfl,hp,HX⟩:=hrel
    obtain ⟨hA,hX⟩:=(show Ab w5 G np (fun k=>dc (MB F p 0 (k : Int))) wr ∧ (∀ g,g < p → ∀ y,y < (F g).n → P6 F g y) from HX)
    obtain ⟨hG,k45⟩:=(show G = w4.heap.size ∧ Kb 0 w4 w5 from HG)
    have kw : Kb 0 w4 wr:=hA.old k45 (by omega)
    rcases Nat.lt_or_ge p np with h | h
    · have hI : (p : Int) < (np : Int):=by omega
      obtain ⟨vu,vc,vn,vd,⟨d0,d1,d2,d3,d4,d5,d6,d7,d8⟩,hvu,hvc,hvn,hvd⟩:=(show ∀ W,Kb 0 w4 W → ∀ i,i < np → ProC 0 W (A.add (i * 9)) (F i) from HFN) wr kw p h
      have hvn2:=hvn
      obtain ⟨pu,cu,rfl,-⟩:=hvu
      obtain ⟨pc,cc,rfl,-⟩:=hvc
      obtain ⟨pn,cn,rfl,-⟩:=hvn
      obtain ⟨pm,cm,rfl,-⟩:=hvd
      have hlnI : ((F p).n : Int) ≤ 1048576:=by have:=(show Bd np F from HBD).hn p h;omega
      obtain ⟨w6,hw6⟩ : ∃ w6,w6 = wr.alloc (.cells #[.string (F p).x,.int .i64 (F p).l,.int .i64 (F p).m,.bool (F p).r,.int .i64 (F p).g,.slice pu (F p).u cu,.slice pc (F p).c cc,.slice pn (F p).n cn,.slice pm (F p).d cm] 50):=⟨_,rfl⟩
      have k6 : Kb 0 wr w6:=by rw [hw6];exact kb_alloc _ _ _
      have HB6 : Hid (Ab w5 G np (fun k=>dc (MB F p 0 (k : Int))) w6 ∧ (∀ g,g < p → ∀ y,y < (F g).n → P6 F g y) ∧ (∀ W,Kb 0 w4 W → RowI 0 W (.slice pn (F p).n cn) (F p).n (F p).N)):=(⟨hA.kb k6,hX,fun W k=>by
        obtain ⟨vu',vc',vn',vd',q,-,-,hv,-⟩:=(show ∀ W,Kb 0 w4 W → ∀ i,i < np → ProC 0 W (A.add (i * 9)) (F i) from HFN) W k p h
        obtain ⟨vu2,vc2,vn2,vd2,q2,-,-,hv2,-⟩:=(show ∀ W,Kb 0 w4 W → ∀ i,i < np → ProC 0 W (A.add (i * 9)) (F i) from HFN) w4 (Kb.refl _ _) p h
        have e1:=q2.keep (Nat.zero_le _) k
        have e2:=q2.keep (Nat.zero_le _) kw
        have e3 : vn2 = .slice pn (F p).n cn:=Option.some.inj (e2.c7.symm.trans d7)
        have e4 : vn' = vn2:=Option.some.inj (q.c7.symm.trans e1.c7)
        rw [← e3,← e4];exact hv⟩ : _ ∧ _)
      have HW6 : Hid (w6 = wr.alloc (.cells #[.string (F p).x,.int .i64 (F p).l,.int .i64 (F p).m,.bool (F p).r,.int .i64 (F p).g,.slice pu (F p).u cu,.slice pc (F p).c cc,.slice pn (F p).n cn,.slice pm (F p).d cm] 50)):=hw6
      clear HX hX hA kw k6 hw6 hvn2 k45 hG
      go_wp2_with fail
      rw [← (show w6 = _ from HW6)]
      clear HW6 d0 d1 d2 d3 d4 d5 d6 d7 d8
      go_loopw [31] (fun sl wr=>∃ j : Nat,sl = .int .i64 (j : Int) ∧ j ≤ (F p).n ∧ Hid (Ab w5 G np (fun k=>dc (MB F p j (k : Int))) wr ∧ ∀ y,y < j → P6 F p y)) (fun sl _=>(F p).n - (intOf sl).toNat)
      case atStart=>exact ⟨0,rfl,Nat.zero_le _,(⟨HB6.1,fun y hy=>by omega⟩ : _ ∧ _)⟩
      case round =>
        obtain ⟨j,rfl,hj,HY⟩:=hrel
        obtain ⟨hA,hY⟩:=(show Ab w5 G np (fun k=>dc (MB F p j (k : Int))) wr ∧ ∀ y,y < j → P6 F p y from HY)
        obtain ⟨hG,k45⟩:=(show G = w4.heap.size ∧ Kb 0 w4 w5 from HG)
        have kw : Kb 0 w4 wr:=hA.old k45 (by omega)
        obtain ⟨-,hXP,hrI⟩:=(show Ab w5 G np (fun k=>dc (MB F p 0 (k : Int))) w6 ∧ (∀ g,g < p → ∀ y,y < (F g).n → P6 F g y) ∧ (∀ W,Kb 0 w4 W → RowI 0 W (.slice pn (F p).n cn) (F p).n (F p).N) from HB6)
        rcases Nat.lt_or_ge j (F p).n with h2 | h2
        · have hI2 : (j : Int) < ((F p).n : Int):=by omega
          obtain ⟨pn',cn',e1,hrow2⟩:=hrI wr kw
          obtain ⟨rfl,-,rfl⟩ : pn = pn' ∧ (F p).n = (F p).n ∧ cn = cn':=by simpa using e1
          obtain ⟨b,rfl,hcb,-,hrb⟩:=hrow2 (by omega)
          obtain ⟨q0,q1,q2,q3,q4⟩:=hrb j h2
          have hm:=(show ∀ p i,p < np → i < (F p).n → ((F p).N i).o = 11 → 0 ≤ ((F p).N i).b ∧ ((F p).N i).b ≤ (np : Int) - 1 from HMB) p j h h2
          have hnx:=fun k=>mb_next (F:=F) (p:=p) (i:=j) h2 k
          have h6 : P6 F p j ↔ (((F p).N j).o = 11 → (p : Int) < ((F p).N j).b ∧ ¬ MB F p j ((F p).N j).b ∧ Uok (F p) (F ((F p).N j).b.toNat)):=Iff.rfl
          have hbad : ¬ P6 F p j → Ans 7 np F 6 p j:=fun c=>Or.inr (Or.inl ⟨HLA.1,by omega,by omega,⟨h,h2,c,hY,fun g hg y hy=>hXP g hg y hy⟩,fun c' h1 h3=>HLA.2 c' h1 (by omega)⟩)
          have hgood : P6 F p j → ∀ y,y < j + 1 → P6 F p y:=fun c y hy=>by
            by_cases e : y = j
            · subst e;exact c
            · exact hY y (by omega)
          generalize (F p).N j = v at *
          obtain ⟨vo,va,vb,vc3,vd3⟩:=v
          dsimp only at q0 q1 q2 q3 q4 hm hnx h6
          obtain ⟨w7,hw7⟩ : ∃ w7,w7 = wr.alloc (.cells #[.int .i64 vo,.int .i64 va,.int .i64 vb,.int .i64 vc3,.int .i64 vd3] 81):=⟨_,rfl⟩
          have k7 : Kb 0 wr w7:=by rw [hw7];exact kb_alloc _ _ _
          have HW7 : Hid (w7 = wr.alloc (.cells #[.int .i64 vo,.int .i64 va,.int .i64 vb,.int .i64 vc3,.int .i64 vd3] 81)):=hw7
          have i0 : w7.cell? ⟨wr.heap.size,0,none⟩ = some (.int .i64 vo):=by rw [hw7];exact cell_of (alloc_new _ _ _) rfl
          have i2 : w7.cell? ⟨wr.heap.size,2,none⟩ = some (.int .i64 vb):=by rw [hw7];exact cell_of (alloc_new _ _ _) rfl
          have kw7:=kw.trans k7
          have hA7:=hA.kb k7
          clear hrow2 hrb e1 hw7 HY hY hXP hrI
          by_cases ho : vo = 11
          rotate_left
          · have g1 : (vo == 11) = false:=bne ho
            have g2 : (vo != 11) = true:=by simp [ho]
            have HX3 : Hid (Ab w5 G np (fun k=>dc (MB F p (j + 1) (k : Int))) w7 ∧ ∀ y,y < j + 1 → P6 F p y):=(⟨hA7.eqv (fun k _=>dc_iff ((hnx (k : Int)).trans ⟨fun q=>q.elim id (fun q=>absurd q.1 ho),.inl⟩)),hgood (h6.2 (fun q=>absurd q ho))⟩ : _ ∧ _)
            clear hm hnx h6 hbad hgood kw7 hA7 hA kw k7 k45 hG ho HRES HBOX HFN HUP HBD HMB HLA HB6
            have hw7:=(show w7 = _ from HW7)
            clear HW7
            subst hw7
            go_wp2_with fail
            clear q0 q1 q2 q3 q4
            go_roundw
            case rel=>exact ⟨j + 1,by go_num,by omega,HX3⟩
            case measure=>simp [intOf];omega
          subst ho
          obtain ⟨m1,m2⟩:=hm rfl
          obtain ⟨kb,rfl⟩ : ∃ kb : Nat,vb = (kb : Int):=⟨vb.toNat,by omega⟩
          have hkb : kb < np:=by omega
          have hkI : (kb : Int) < (np : Int):=by omega
          rw [Int.toNat_natCast] at h6
          have cg:=hA7.ce kb hkb
          have fg:=hA7.fz kb
          have HUP2:=(show ∀ W,Kb 0 w4 W → ∀ p,p < np → ∀ k,k < np → Calls Tryz.prog 38 #[.agg #[.slice (some A) np ca],.int .i64 (p : Int),.int .i64 (k : Int)] W fun e w'=>e = .returned (.bool (dc (Uok (F p) (F k)))) ∧ Kb 0 W w' from HUP) w7 kw7 p h kb hkb
          have c2 : w7.cell? ⟨w.heap.size,0,none⟩ = some (.slice (some A) np ca):=(show ∀ W,Kb 0 w4 W → W.cell? ⟨w.heap.size,0,none⟩ = some (.slice (some A) np ca) from HBOX) w7 kw7
          by_cases hb1 : (kb : Int) ≤ (p : Int)
          · have HAN0 : Hid (Ans 7 np F 6 p j):=hbad (fun c=>by have:=(h6.1 c rfl).1;omega)
            have HKC5 : Hid (Kb 0 w4 w7):=kw7
            have gb1 : decide ((kb : Int) ≤ (p : Int)) = true:=decide_eq_true hb1
            have gb2 : decide (kb ≤ p) = true:=decide_eq_true (by omega)
            clear hm hnx h6 hbad hgood kw7 hA7 hA kw k7 k45 hG HBOX HFN HUP HBD HMB HLA HB6 cg fg HUP2 m1 m2
            have hw7:=(show w7 = _ from HW7)
            clear HW7
            subst hw7
            go_wp2_with fail
            clear q0 q1 q2 q3 q4
            have KCUR:=(show Kb 0 w4 _ from HKC5)
            have HRES1:=(show ∀ W,Kb 0 w4 W → W.cell? ⟨w.heap.size + 1,0,none⟩ = some (.int .i64 0) ∧ W.cell? ⟨w.heap.size + 1,1,none⟩ = some (.int .i64 0) ∧ W.cell? ⟨w.heap.size + 1,2,none⟩ = some (.int .i64 0) ∧ (∀ j,W.frozen? ⟨w.heap.size + 1,j,none⟩ = false) ∧ Kb 0 w W from HRES)
            refine (sp_fault 6 (p : Int) (j : Int) _).mono ?_
            rintro e w9 ⟨rfl,k9⟩
            have r0 : w9.cell? ⟨w.heap.size + 1,0,none⟩ = some (.int .i64 0):=k9.cell (HRES1 _ KCUR).1
            have r1 : w9.cell? ⟨w.heap.size + 1,1,none⟩ = some (.int .i64 0):=k9.cell (HRES1 _ KCUR).2.1
            have r2 : w9.cell? ⟨w.heap.size + 1,2,none⟩ = some (.int .i64 0):=k9.cell (HRES1 _ KCUR).2.2.1
            have fr : ∀ j,w9.frozen? ⟨w.heap.size + 1,j,none⟩ = false:=fun j=>(HRES1 w9 (KCUR.trans k9)).2.2.2.1 j
            have HKW : Hid (Kb 0 w w9):=(HRES1 w9 (KCUR.trans k9)).2.2.2.2
            clear k9 KCUR HRES1 HRES
            go_wp2_with fail
            refine bodyPost_ret (by simp [results,Tryz.results19,go_sem,r0,r1,r2];rfl) rfl ?_
            exact ⟨_,_,_,rfl,HAN0,((((show Kb 0 w w9 from HKW)).setCell ⟨w.heap.size + 1,0,none⟩ (Or.inr (by show w.heap.size ≤ w.heap.size + 1;omega)) _).setCell ⟨w.heap.size + 1,1,none⟩ (Or.inr (by show w.heap.size ≤ w.heap.size + 1;omega)) _).setCell ⟨w.heap.size + 1,2,none⟩ (Or.inr (by show w.heap.size ≤ w.heap.size + 1;omega)) _⟩
          have hb2 : ¬ kb ≤ p:=by omega
          by_cases hmb : MB F p j (kb : Int)
          · have HAN0 : Hid (Ans 7 np F 6 p j):=hbad (fun c=>(h6.1 c rfl).2.1 hmb)
            have HKC5 : Hid (Kb 0 w4 w7):=kw7
            rw [dc_t hmb] at cg
            have gb1 : decide ((kb : Int) ≤ (p : Int)) = false:=decide_eq_false hb1
            have gb2 : decide (kb ≤ p) = false:=decide_eq_false (by omega)
            clear hm hnx h6 hbad hgood kw7 hA7 hA kw k7 k45 hG HBOX HFN HUP HBD HMB HLA HB6 HUP2 m1 m2 hmb
            have hw7:=(show w7 = _ from HW7)
            clear HW7
            subst hw7
            go_wp2_with fail
            clear q0 q1 q2 q3 q4
            have KCUR:=(show Kb 0 w4 _ from HKC5)
            have HRES1:=(show ∀ W,Kb 0 w4 W → W.cell? ⟨w.heap.size + 1,0,none⟩ = some (.int .i64 0) ∧ W.cell? ⟨w.heap.size + 1,1,none⟩ = some (.int .i64 0) ∧ W.cell? ⟨w.heap.size + 1,2,none⟩ = some (.int .i64 0) ∧ (∀ j,W.frozen? ⟨w.heap.size + 1,j,none⟩ = false) ∧ Kb 0 w W from HRES)
            refine (sp_fault 6 (p : Int) (j : Int) _).mono ?_
            rintro e w9 ⟨rfl,k9⟩
            have r0 : w9.cell? ⟨w.heap.size + 1,0,none⟩ = some (.int .i64 0):=k9.cell (HRES1 _ KCUR).1
            have r1 : w9.cell? ⟨w.heap.size + 1,1,none⟩ = some (.int .i64 0):=k9.cell (HRES1 _ KCUR).2.1
            have r2 : w9.cell? ⟨w.heap.size + 1,2,none⟩ = some (.int .i64 0):=k9.cell (HRES1 _ KCUR).2.2.1
            have fr : ∀ j,w9.frozen? ⟨w.heap.size + 1,j,none⟩ = false:=fun j=>(HRES1 w9 (KCUR.trans k9)).2.2.2.1 j
            have HKW : Hid (Kb 0 w w9):=(HRES1 w9 (KCUR.trans k9)).2.2.2.2
            clear k9 KCUR HRES1 HRES
            go_wp2_with fail
            refine bodyPost_ret (by simp [results,Tryz.results19,go_sem,r0,r1,r2];rfl) rfl ?_
            exact ⟨_,_,_,rfl,HAN0,((((show Kb 0 w w9 from HKW)).setCell ⟨w.heap.size + 1,0,none⟩ (Or.inr (by show w.heap.size ≤ w.heap.size + 1;omega)) _).setCell ⟨w.heap.size + 1,1,none⟩ (Or.inr (by show w.heap.size ≤ w.heap.size + 1;omega)) _).setCell ⟨w.heap.size + 1,2,none⟩ (Or.inr (by show w.heap.size ≤ w.heap.size + 1;omega)) _⟩
          rw [dc_f hmb] at cg
          have gb1 : decide ((kb : Int) ≤ (p : Int)) = false:=decide_eq_false hb1
          have gb2 : decide (kb ≤ p) = false:=decide_eq_false (by omega)
          by_cases hu : Uok (F p) (F kb)
          rotate_left
          · rw [dc_f hu] at HUP2
            have HAN0 : Hid (Ans 7 np F 6 p j):=hbad (fun c=>hu (h6.1 c rfl).2.2)
            have HKC : Hid (Kb 0 w4 w7):=kw7
            clear hm hnx h6 hbad hgood kw7 hA7 hA kw k7 k45 hG HBOX HFN HUP HBD HMB HLA HB6 m1 m2 hmb hu
            have hw7:=(show w7 = _ from HW7)
            clear HW7
            subst hw7
            go_wp2_with fail
            clear q0 q1 q2 q3 q4
            refine HUP2.mono ?_
            rintro e w8 ⟨rfl,k8⟩
            have HKC5 : Hid (Kb 0 w4 w8):=(show Kb 0 w4 _ from HKC).trans k8
            clear k8 HKC HUP2 cg fg c2 i0 i2
            go_wp2_with fail
            have KCUR:=(show Kb 0 w4 w8 from HKC5)
            have HRES1:=(show ∀ W,Kb 0 w4 W → W.cell? ⟨w.heap.size + 1,0,none⟩ = some (.int .i64 0) ∧ W.cell? ⟨w.heap.size + 1,1,none⟩ = some (.int .i64 0) ∧ W.cell? ⟨w.heap.size + 1,2,none⟩ = some (.int .i64 0) ∧ (∀ j,W.frozen? ⟨w.heap.size + 1,j,none⟩ = false) ∧ Kb 0 w W from HRES)
            refine (sp_fault 6 (p : Int) (j : Int) _).mono ?_
            rintro e w9 ⟨rfl,k9⟩
            have r0 : w9.cell? ⟨w.heap.size + 1,0,none⟩ = some (.int .i64 0):=k9.cell (HRES1 _ KCUR).1
            have r1 : w9.cell? ⟨w.heap.size + 1,1,none⟩ = some (.int .i64 0):=k9.cell (HRES1 _ KCUR).2.1
            have r2 : w9.cell? ⟨w.heap.size + 1,2,none⟩ = some (.int .i64 0):=k9.cell (HRES1 _ KCUR).2.2.1
            have fr : ∀ j,w9.frozen? ⟨w.heap.size + 1,j,none⟩ = false:=fun j=>(HRES1 w9 (KCUR.trans k9)).2.2.2.1 j
            have HKW : Hid (Kb 0 w w9):=(HRES1 w9 (KCUR.trans k9)).2.2.2.2
            clear k9 KCUR HRES1 HRES
            go_wp2_with fail
            refine bodyPost_ret (by simp [results,Tryz.results19,go_sem,r0,r1,r2];rfl) rfl ?_
            exact ⟨_,_,_,rfl,HAN0,((((show Kb 0 w w9 from HKW)).setCell ⟨w.heap.size + 1,0,none⟩ (Or.inr (by show w.heap.size ≤ w.heap.size + 1;omega)) _).setCell ⟨w.heap.size + 1,1,none⟩ (Or.inr (by show w.heap.size ≤ w.heap.size + 1;omega)) _).setCell ⟨w.heap.size + 1,2,none⟩ (Or.inr (by show w.heap.size ≤ w.heap.size + 1;omega)) _⟩
          rw [dc_t hu] at HUP2
          have HX3 : Hid (∀ W,Kb 0 w7 W → Ab w5 G np (fun k=>dc (MB F p (j + 1) (k : Int))) (W.setCell ⟨G,kb,none⟩ (.bool true)) ∧ ∀ y,y < j + 1 → P6 F p y):=(fun W k=>⟨(hA7.kb k).set hkb (fun y hy=>by
            by_cases e : y = kb
            · subst e;rw [if_pos rfl];exact dc_t ((hnx _).2 (.inr ⟨rfl,rfl⟩))
            · rw [if_neg e]
              exact dc_iff ((hnx (y : Int)).trans ⟨fun q=>q.elim id (fun q=>by have:=q.2;omega),.inl⟩)),hgood (h6.2 (fun _=>⟨by omega,hmb,hu⟩))⟩ : ∀ W,_)
          have HCE : Hid (∀ W,Kb 0 w7 W → W.cell? ⟨wr.heap.size,2,none⟩ = some (.int .i64 (kb : Int)) ∧ W.cell? ⟨G,kb,none⟩ = some (.bool false) ∧ W.frozen? ⟨G,kb,none⟩ = false):=(fun W k=>⟨k.cell i2,k.cell cg,(hA7.kb k).fz kb⟩ : ∀ W,_)
          clear hm hnx h6 hbad hgood kw7 hA7 hA kw k7 k45 hG HRES HBOX HFN HUP HBD HMB HLA HB6 m1 m2 hmb hu
          have hw7:=(show w7 = _ from HW7)
          clear HW7
          subst hw7
          go_wp2_with fail
          clear q0 q1 q2 q3 q4
          refine HUP2.mono ?_
          rintro e w8 ⟨rfl,k8⟩
          have HX4 : Hid (Ab w5 G np (fun k=>dc (MB F p (j + 1) (k : Int))) (w8.setCell ⟨G,kb,none⟩ (.bool true)) ∧ ∀ y,y < j + 1 → P6 F p y):=(show ∀ W,Kb 0 _ W → _ from HX3) w8 k8
          obtain ⟨t2,cg2,fg2⟩:=(show ∀ W,Kb 0 _ W → _ from HCE) w8 k8
          clear k8 HUP2 cg fg c2 i0 i2 HX3 HCE
          go_wp2_with fail
          go_roundw
          case rel=>exact ⟨j + 1,by go_num,by omega,HX4⟩
          case measure=>simp [intOf];omega
        · have hI2 : ¬ (j : Int) < ((F p).n : Int):=by omega
          obtain rfl : j = (F p).n:=by omega
          have HX4 : Hid (Ab w5 G np (fun k=>dc (MB F (p + 1) 0 (k : Int))) wr ∧ (∀ g,g < p + 1 → ∀ y,y < (F g).n → P6 F g y)):=(⟨hA.eqv (fun k _=>dc_iff (mb_end _)),fun g hg y hy=>by
            by_cases e : g = p
            · subst e;exact hY y hy
            · exact hXP g (by omega) y hy⟩ : _ ∧ _)
          clear HY hY hA kw hXP hrI k45 hG HRES HBOX HFN HUP HBD HMB HLA HB6
          go_wp2_with fail
          go_roundw
          case rel=>exact ⟨p + 1,by go_num,by omega,HX4⟩
          case measure=>simp [intOf];omega
    · obtain rfl : np = p:=by omega
      have hI : ¬ (np : Int) < (np : Int):=by omega
      have HA1 : Hid (Ab w5 G np (fun k=>dc (MB F np 0 (k : Int))) wr):=hA
      have H6 : Hid (∀ g,g < np → ∀ y,y < (F g).n → P6 F g y):=hX
      have hn1 : 1 ≤ np:=(show Szu np F ∧ ∀ c',2 ≤ c' → c' ≤ 5 → La (PQ F np c') (LQ F c') np from HLA).1.1
      clear HX hX hA kw k45 hG HUP HFN HMB h
      go_wp2_with fail
      clear hI
      go_loopw [9] (fun sl wr=>∃ p : Nat,sl = .int .i64 (p : Int) ∧ 1 ≤ p ∧ p ≤ np ∧ Hid (Ab w5 G np (fun k=>dc (MB F np 0 (k : Int))) wr ∧ (∀ g,g < p → P7 np F g))) (fun sl _=>np - (intOf sl).toNat)
      case atStart=>exact ⟨1,rfl,Nat.le_refl _,hn1,(⟨HA1,fun g hg=>.inl (by omega)⟩ : _ ∧ _)⟩
      case round =>
        clear HA1
        obtain ⟨p,rfl,hp1,hp,HX⟩:=hrel
        obtain ⟨hA,hX⟩:=(show Ab w5 G np (fun k=>dc (MB F np 0 (k : Int))) wr ∧ (∀ g,g < p → P7 np F g) from HX)
        obtain ⟨hG,k45⟩:=(show G = w4.heap.size ∧ Kb 0 w4 w5 from HG)
        have kw : Kb 0 w4 wr:=hA.old k45 (by omega)
        have c2 : wr.cell? ⟨w.heap.size,0,none⟩ = some (.slice (some A) np ca):=(show ∀ W,Kb 0 w4 W → W.cell? ⟨w.heap.size,0,none⟩ = some (.slice (some A) np ca) from HBOX) wr kw
        have hla:=(show Szu np F ∧ ∀ c',2 ≤ c' → c' ≤ 5 → La (PQ F np c') (LQ F c') np from HLA)
        have h6:=(show ∀ g,g < np → ∀ y,y < (F g).n → P6 F g y from H6)
        have hq : ∀ c',2 ≤ c' → c' < 7 → La (PQ F np c') (LQ F c') np:=fun c' h1 h3=>by
          by_cases e : c' = 6
          · subst e;exact h6
          · exact hla.2 c' h1 (by omega)
        rcases Nat.lt_or_ge p np with h | h
        · have hI : (p : Int) < (np : Int):=by omega
          have cg:=hA.ce p h
          by_cases hmb : MB F np 0 (p : Int)
          · rw [dc_t hmb] at cg
            have HX3 : Hid (Ab w5 G np (fun k=>dc (MB F np 0 (k : Int))) wr ∧ (∀ g,g < p + 1 → P7 np F g)):=(⟨hA,fun g hg=>by
              by_cases e : g = p
              · subst e;exact .inr hmb
              · exact hX g (by omega)⟩ : _ ∧ _)
            clear HX hX hA kw hla h6 hq hmb k45 hG HRES HBOX HBD HLA H6
            go_wp2_with fail
            go_roundw
            case rel=>exact ⟨p + 1,by go_num,by omega,by omega,HX3⟩
            case measure=>simp [intOf];omega
          · rw [dc_f hmb] at cg
            have HAN0 : Hid (Ans 7 np F 7 p 0):=Or.inr (Or.inl ⟨hla.1,by omega,by omega,⟨h,Nat.zero_lt_one,fun q=>(show P7 np F p from q).elim (by omega) hmb,fun i hi=>by omega,fun g hg _ _=>hX g hg⟩,hq⟩)
            have HKC5 : Hid (Kb 0 w4 wr):=kw
            clear HX hX hA kw hla h6 hq hmb k45 hG HBOX HBD HLA H6
            go_wp2_with fail
            have KCUR:=(show Kb 0 w4 wr from HKC5)
            have HRES1:=(show ∀ W,Kb 0 w4 W → W.cell? ⟨w.heap.size + 1,0,none⟩ = some (.int .i64 0) ∧ W.cell? ⟨w.heap.size + 1,1,none⟩ = some (.int .i64 0) ∧ W.cell? ⟨w.heap.size + 1,2,none⟩ = some (.int .i64 0) ∧ (∀ j,W.frozen? ⟨w.heap.size + 1,j,none⟩ = false) ∧ Kb 0 w W from HRES)
            refine (sp_fault 7 (p : Int) 0 _).mono ?_
            rintro e w9 ⟨rfl,k9⟩
            have r0 : w9.cell? ⟨w.heap.size + 1,0,none⟩ = some (.int .i64 0):=k9.cell (HRES1 _ KCUR).1
            have r1 : w9.cell? ⟨w.heap.size + 1,1,none⟩ = some (.int .i64 0):=k9.cell (HRES1 _ KCUR).2.1
            have r2 : w9.cell? ⟨w.heap.size + 1,2,none⟩ = some (.int .i64 0):=k9.cell (HRES1 _ KCUR).2.2.1
            have fr : ∀ j,w9.frozen? ⟨w.heap.size + 1,j,none⟩ = false:=fun j=>(HRES1 w9 (KCUR.trans k9)).2.2.2.1 j
            have HKW : Hid (Kb 0 w w9):=(HRES1 w9 (KCUR.trans k9)).2.2.2.2
            clear k9 KCUR HRES1 HRES
            go_wp2_with fail
            refine bodyPost_ret (by simp [results,Tryz.results19,go_sem,r0,r1,r2];rfl) rfl ?_
            exact ⟨_,_,_,rfl,HAN0,((((show Kb 0 w w9 from HKW)).setCell ⟨w.heap.size + 1,0,none⟩ (Or.inr (by show w.heap.size ≤ w.heap.size + 1;omega)) _).setCell ⟨w.heap.size + 1,1,none⟩ (Or.inr (by show w.heap.size ≤ w.heap.size + 1;omega)) _).setCell ⟨w.heap.size + 1,2,none⟩ (Or.inr (by show w.heap.size ≤ w.heap.size + 1;omega)) _⟩
        · have hI : ¬ (p : Int) < (np : Int):=by omega
          obtain rfl : np = p:=by omega
          have r0 : wr.cell? ⟨w.heap.size + 1,0,none⟩ = some (.int .i64 0):=((show ∀ W,Kb 0 w4 W → W.cell? ⟨w.heap.size + 1,0,none⟩ = some (.int .i64 0) ∧ W.cell? ⟨w.heap.size + 1,1,none⟩ = some (.int .i64 0) ∧ W.cell? ⟨w.heap.size + 1,2,none⟩ = some (.int .i64 0) ∧ (∀ j,W.frozen? ⟨w.heap.size + 1,j,none⟩ = false) ∧ Kb 0 w W from HRES) wr kw).1
          have r1 : wr.cell? ⟨w.heap.size + 1,1,none⟩ = some (.int .i64 0):=((show ∀ W,Kb 0 w4 W → W.cell? ⟨w.heap.size + 1,0,none⟩ = some (.int .i64 0) ∧ W.cell? ⟨w.heap.size + 1,1,none⟩ = some (.int .i64 0) ∧ W.cell? ⟨w.heap.size + 1,2,none⟩ = some (.int .i64 0) ∧ (∀ j,W.frozen? ⟨w.heap.size + 1,j,none⟩ = false) ∧ Kb 0 w W from HRES) wr kw).2.1
          have r2 : wr.cell? ⟨w.heap.size + 1,2,none⟩ = some (.int .i64 0):=((show ∀ W,Kb 0 w4 W → W.cell? ⟨w.heap.size + 1,0,none⟩ = some (.int .i64 0) ∧ W.cell? ⟨w.heap.size + 1,1,none⟩ = some (.int .i64 0) ∧ W.cell? ⟨w.heap.size + 1,2,none⟩ = some (.int .i64 0) ∧ (∀ j,W.frozen? ⟨w.heap.size + 1,j,none⟩ = false) ∧ Kb 0 w W from HRES) wr kw).2.2.1
          have fr : ∀ j,wr.frozen? ⟨w.heap.size + 1,j,none⟩ = false:=fun j=>((show ∀ W,Kb 0 w4 W → W.cell? ⟨w.heap.size + 1,0,none⟩ = some (.int .i64 0) ∧ W.cell? ⟨w.heap.size + 1,1,none⟩ = some (.int .i64 0) ∧ W.cell? ⟨w.heap.size + 1,2,none⟩ = some (.int .i64 0) ∧ (∀ j,W.frozen? ⟨w.heap.size + 1,j,none⟩ = false) ∧ Kb 0 w W from HRES) wr kw).2.2.2.1 j
          have HKW : Hid (Kb 0 w wr):=((show ∀ W,Kb 0 w4 W → W.cell? ⟨w.heap.size + 1,0,none⟩ = some (.int .i64 0) ∧ W.cell? ⟨w.heap.size + 1,1,none⟩ = some (.int .i64 0) ∧ W.cell? ⟨w.heap.size + 1,2,none⟩ = some (.int .i64 0) ∧ (∀ j,W.frozen? ⟨w.heap.size + 1,j,none⟩ = false) ∧ Kb 0 w W from HRES) wr kw).2.2.2.2
          have HAN : Hid (Ans 7 np F 0 0 0):=Or.inr (Or.inr ⟨hla.1,rfl,rfl,rfl,fun c' h1 h3=>by
            by_cases e : c' = 7
            · subst e;exact fun g hg _ _=>hX g hg
            · exact hq c' h1 (by omega)⟩)
          clear HX hX hA kw hla h6 hq k45 hG HBOX HBD HLA H6 HRES
          go_wp2_with fail
          refine bodyPost_ret (by simp [results,Tryz.results19,go_sem,r0,r1,r2];rfl) rfl ?_
          exact ⟨0,0,0,rfl,HAN,((((show Kb 0 w wr from HKW)).setCell ⟨w.heap.size + 1,0,none⟩ (Or.inr (by show w.heap.size ≤ w.heap.size + 1;omega)) _).setCell ⟨w.heap.size + 1,1,none⟩ (Or.inr (by show w.heap.size ≤ w.heap.size + 1;omega)) _).setCell ⟨w.heap.size + 1,2,none⟩ (Or.inr (by show w.heap.size ≤ w.heap.size + 1;omega)) _⟩
end Go.Proofs.YtnmeemjoodoalaaGreatDoor.Fo
