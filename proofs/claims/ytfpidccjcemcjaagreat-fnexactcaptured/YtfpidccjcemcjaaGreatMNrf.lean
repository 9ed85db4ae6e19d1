import Derived.Test.YtfpidccjcemcjaaGreatMZsq
import Derived.Test.YtfpidccjcemcjaaGreatMNre
import Derived.Test.YtfpidccjcemcjaaGreatMNia
set_option maxHeartbeats 8000000
namespace Go.Proofs.YtfpidccjcemcjaaGreat.Fo
open Go.ChangeShapes Go.WideShapes Go.ChangeAt Go.RowKit
set_option linter.unusedVariables false
set_option maxRecDepth 100000
theorem an1_z {nf:Nat} {F:Nat→Fd} {f n:Nat} (h:An1 nf F 0 f n):Szu nf F∧La (P2 F) L1 nf∧La (P3 F) (Ln F) nf:=by
 rcases h with ⟨e,_⟩ | ⟨e,_⟩ | ⟨e,_⟩ | ⟨_,_,_,h1,h2,h3⟩
 ·omega
 ·omega
 ·omega
 ·exact ⟨h1,h2,h3⟩
theorem an2_z {nf:Nat} {F:Nat→Fd} {f n:Nat} (h:An2 nf F 0 f n):La (Q4 F) (Ln F) nf∧La (Q5 F) (Ln F) nf:=by
 rcases h with ⟨e,_⟩ | ⟨e,_⟩ | ⟨_,_,_,h1,h2⟩
 ·omega
 ·omega
 ·exact ⟨h1,h2⟩
theorem an1_ans {nf:Nat} {F:Nat→Fd} {c f n:Nat} (h0:c ≠ 0) (h:An1 nf F c f n):Ans nf F c f n:=by
 rcases h with h | ⟨rfl,h1,h2⟩ | ⟨rfl,h1,h2,h3⟩ | ⟨e,_⟩
 ·exact .inl h
 ·exact .inr (.inl ⟨h1,by omega,by omega,h2,fun c' q1 q2=>by omega⟩)
 ·refine .inr (.inl ⟨h1,by omega,by omega,h3,fun c' q1 q2=>?_⟩)
  obtain rfl:c'=2:=by omega
  exact h2
 ·exact absurd e h0
theorem an2_ans {nf:Nat} {F:Nat→Fd} {c f n:Nat} (hz:Szu nf F) (h2:La (P2 F) L1 nf) (h3:La (P3 F) (Ln F) nf) (h0:c ≠ 0) (h:An2 nf F c f n):Ans nf F c f n:=by
 rcases h with ⟨rfl,h4⟩ | ⟨rfl,h4,h5⟩ | ⟨e,_⟩
 ·refine .inr (.inl ⟨hz,by omega,by omega,h4,fun c' q1 q2=>?_⟩)
  rcases (show c'=2∨c'=3 by omega) with rfl | rfl
  ·exact h2
  ·exact h3
 ·refine .inr (.inl ⟨hz,by omega,by omega,h5,fun c' q1 q2=>?_⟩)
  rcases (show c'=2∨c'=3∨c'=4 by omega) with rfl | rfl | rfl
  ·exact h2
  ·exact h3
  ·exact h4
 ·exact absurd e h0
theorem an3_ans {nf:Nat} {F:Nat→Fd} {c f n:Nat} (hz:Szu nf F) (h2:La (P2 F) L1 nf) (h3:La (P3 F) (Ln F) nf) (h4:La (Q4 F) (Ln F) nf) (h5:La (Q5 F) (Ln F) nf) (h:An3 nf F c f n):Ans nf F c f n:=by
 have low:∀ c',2≤c'→c' < 6→La (PQ F nf c') (LQ F c') nf:=fun c' q1 q2=>by
  rcases (show c'=2∨c'=3∨c'=4∨c'=5 by omega) with rfl | rfl | rfl | rfl
  ·exact h2
  ·exact h3
  ·exact h4
  ·exact h5
 rcases h with ⟨a1,a2,a3,a4⟩ | ⟨rfl,rfl,rfl,a4⟩
 ·exact .inr (.inl ⟨hz,by omega,a2,a3,fun c' q1 q2=>(Nat.lt_or_ge c' 6).elim (low c' q1) (fun q=>a4 c' q q2)⟩)
 ·exact .inr (.inr ⟨hz,rfl,rfl,rfl,fun c' q1 q2=>(Nat.lt_or_ge c' 6).elim (low c' q1) (fun q=>a4 c' q q2)⟩)
theorem sp_cu {va : Value} {nf : Nat} {F : Nat → Fd} (w : World) (ha : RowF 0 w va nf F) (hb : Bd nf F) :
  Calls Tryz.prog 14 #[.agg #[va]] w fun e w'=>∃ c f n:Nat,e = .returned (.agg #[.int .i64 (c:Int),.int .i64 (f:Int),.int .i64 (n:Int)])∧Ans nf F c f n∧Kb 0 w w':=by
 have ha0:=ha
 obtain ⟨pa,ca,rfl,ha2⟩:=ha
 obtain ⟨w2,hw2⟩:∃ w2,w2=(w.alloc (.cells #[.slice pa nf ca] 30)).alloc (.cells #[.int .i64 0,.int .i64 0,.int .i64 0] 39):=⟨_,rfl⟩
 have k2:Kb 0 w w2:=by rw [hw2];exact kb_alloc2 _ _ _ _
 have b0:w2.heap[w.heap.size]? = some (.cells #[.slice pa nf ca] 30 (0,0)):=by
  rw [hw2,(kb_alloc 0 _ _).block _ zq (by rw [World.size_alloc];omega)]
  exact alloc_new _ _ _
 have b1:w2.heap[w.heap.size+1]? = some (.cells #[.int .i64 0,.int .i64 0,.int .i64 0] 39 (0,0)):=by
  have e:(w.alloc (.cells #[.slice pa nf ca] 30)).heap.size=w.heap.size+1:=World.size_alloc _ _
  rw [hw2,← e]
  exact alloc_new _ _ _
 have sz2:w2.heap.size=w.heap.size+2:=by rw [hw2];simp
 have HRES:Hid (∀ W,Kb 0 w2 W→W.cell? ⟨w.heap.size+1,0,none⟩=some (.int .i64 0)∧W.cell? ⟨w.heap.size+1,1,none⟩=some (.int .i64 0)∧W.cell? ⟨w.heap.size+1,2,none⟩=some (.int .i64 0)∧(∀ j,W.frozen? ⟨w.heap.size+1,j,none⟩=false)∧Kb 0 w W∧w.heap.size+1 < W.heap.size):=(fun W k=>by
  have:=k.size
  exact ⟨k.cell (cell_of b1 rfl),k.cell (cell_of b1 rfl),k.cell (cell_of b1 rfl),fun j=>(k.frozen zq (by omega)).trans (frozen_of b1),k2.trans k,by omega⟩:∀ W,_)
 have HBOX:Hid (∀ W,Kb 0 w2 W→W.cell? ⟨w.heap.size,0,none⟩=some (.slice pa nf ca)):=(fun W k=>k.cell (cell_of b0 rfl):∀ W,_)
 have HC1:Hid (Calls Tryz.prog 22 #[.agg #[.slice pa nf ca]] w2 fun e w'=>∃ c f n:Nat,e = .returned (.agg #[.int .i64 (c:Int),.int .i64 (f:Int),.int .i64 (n:Int)])∧An1 nf F c f n∧Kb 0 w2 w'):=sp_first w2 (ha0.keep k2) hb
 have HRO:Hid ((∀ W,Kb 0 w2 W→RowF 0 W (.slice pa nf ca) nf F)∧Bd nf F):=(⟨fun W k=>ha0.keep (k2.trans k),hb⟩:_∧_)
 have HW:Hid (w2=(w.alloc (.cells #[.slice pa nf ca] 30)).alloc (.cells #[.int .i64 0,.int .i64 0,.int .i64 0] 39)):=hw2
 clear ha2 ha0 hb hw2 k2 b0 b1 sz2
 go_enter Tryz.func14,Tryz.ntmps14
 go_wp2_with fail
 rw [← (uh HW)]
 clear HW
 refine (uh HC1).mono ?_
 rintro e w3 ⟨c,f,n,rfl,h1,k3⟩
 clear HC1
 obtain ⟨r0,r1,r2,fr,kk,hlt⟩:=(uh HRES) w3 k3
 have u0:=(uh HBOX) w3 k3
 have r0a:∀ o,(w3.alloc o).cell? ⟨w.heap.size+1,0,none⟩=some (.int .i64 0):=fun o=>(kb_alloc 0 w3 o).cell r0
 have r1a:∀ o,(w3.alloc o).cell? ⟨w.heap.size+1,1,none⟩=some (.int .i64 0):=fun o=>(kb_alloc 0 w3 o).cell r1
 have r2a:∀ o,(w3.alloc o).cell? ⟨w.heap.size+1,2,none⟩=some (.int .i64 0):=fun o=>(kb_alloc 0 w3 o).cell r2
 have fra:∀ o j,(w3.alloc o).frozen? ⟨w.heap.size+1,j,none⟩=false:=fun o j=>((kb_alloc 0 w3 o).frozen zq hlt).trans (fr j)
 by_cases hc:c=0
 case neg =>
  have HAN:Hid (Ans nf F c f n):=an1_ans hc h1
  have HKW:Hid (Kb 0 w w3):=kk
  have g0:(((c:Int)) != 0)=true:=by simp;omega
  have g1:(((c:Int)) == 0)=false:=bne (by omega)
  clear h1 k3 r0 r1 r2 fr kk hlt u0 HRES HBOX HRO hc
  go_wp2_with fail
  refine bodyPost_ret (by simp [results,Tryz.results14,go_sem,r0a,r1a,r2a];rfl) rfl ?_
  exact ⟨c,f,n,rfl,HAN,((((uh HKW).trans (kb_alloc 0 w3 _)).setCell ⟨w.heap.size+1,0,none⟩ (Or.inr (by show w.heap.size≤w.heap.size+1;omega)) _).setCell ⟨w.heap.size+1,1,none⟩ (Or.inr (by show w.heap.size≤w.heap.size+1;omega)) _).setCell ⟨w.heap.size+1,2,none⟩ (Or.inr (by show w.heap.size≤w.heap.size+1;omega)) _⟩
 subst hc
 obtain ⟨hz,hl2,hl3⟩:=an1_z h1
 obtain ⟨hro,hb⟩:=(uh HRO)
 obtain ⟨w4,hw4⟩:∃ w4,w4=w3.alloc (.cells #[.int .i64 ((0:Nat):Int),.int .i64 (f:Int),.int .i64 (n:Int)] 39):=⟨_,rfl⟩
 have k4:Kb 0 w2 w4:=by rw [hw4];exact k3.trans (kb_alloc _ _ _)
 have u0a:∀ o,(w3.alloc o).cell? ⟨w.heap.size,0,none⟩=some (.slice pa nf ca):=fun o=>(kb_alloc 0 w3 o).cell u0
 have HC2:Hid (Calls Tryz.prog 23 #[.agg #[.slice pa nf ca]] w4 fun e w'=>∃ c f n:Nat,e = .returned (.agg #[.int .i64 (c:Int),.int .i64 (f:Int),.int .i64 (n:Int)])∧An2 nf F c f n∧Kb 0 w4 w'):=sp_second w4 (hro w4 k4) hb hl2 hl3
 have HA:Hid (Szu nf F∧La (P2 F) L1 nf∧La (P3 F) (Ln F) nf∧Kb 0 w2 w4):=(⟨hz,hl2,hl3,k4⟩:_∧_)
 have HW4:Hid (w4=w3.alloc (.cells #[.int .i64 0,.int .i64 (f:Int),.int .i64 (n:Int)] 39)):=hw4
 clear h1 k3 r0 r1 r2 fr kk hlt u0 r0a r1a r2a fra hz hl2 hl3 hro hb hw4 k4
 go_wp2_with fail
 rw [← (uh HW4)]
 clear HW4 u0a
 refine (uh HC2).mono ?_
 rintro e w5 ⟨c,f2,n2,rfl,h1,k5⟩
 clear HC2
 obtain ⟨hz,hl2,hl3,k4⟩:=(uh HA)
 have k25:=k4.trans k5
 obtain ⟨r0,r1,r2,fr,kk,hlt⟩:=(uh HRES) w5 k25
 have u0:=(uh HBOX) w5 k25
 have r0a:∀ o,(w5.alloc o).cell? ⟨w.heap.size+1,0,none⟩=some (.int .i64 0):=fun o=>(kb_alloc 0 w5 o).cell r0
 have r1a:∀ o,(w5.alloc o).cell? ⟨w.heap.size+1,1,none⟩=some (.int .i64 0):=fun o=>(kb_alloc 0 w5 o).cell r1
 have r2a:∀ o,(w5.alloc o).cell? ⟨w.heap.size+1,2,none⟩=some (.int .i64 0):=fun o=>(kb_alloc 0 w5 o).cell r2
 have fra:∀ o j,(w5.alloc o).frozen? ⟨w.heap.size+1,j,none⟩=false:=fun o j=>((kb_alloc 0 w5 o).frozen zq hlt).trans (fr j)
 by_cases hc:c=0
 case neg =>
  have HAN:Hid (Ans nf F c f2 n2):=an2_ans hz hl2 hl3 hc h1
  have HKW:Hid (Kb 0 w w5):=kk
  have g0:(((c:Int)) != 0)=true:=by simp;omega
  have g1:(((c:Int)) == 0)=false:=bne (by omega)
  clear h1 k5 k4 k25 r0 r1 r2 fr kk hlt u0 HRES HBOX HRO hc hz hl2 hl3 HA
  go_wp2_with fail
  refine bodyPost_ret (by simp [results,Tryz.results14,go_sem,r0a,r1a,r2a];rfl) rfl ?_
  exact ⟨c,f2,n2,rfl,HAN,((((uh HKW).trans (kb_alloc 0 w5 _)).setCell ⟨w.heap.size+1,0,none⟩ (Or.inr (by show w.heap.size≤w.heap.size+1;omega)) _).setCell ⟨w.heap.size+1,1,none⟩ (Or.inr (by show w.heap.size≤w.heap.size+1;omega)) _).setCell ⟨w.heap.size+1,2,none⟩ (Or.inr (by show w.heap.size≤w.heap.size+1;omega)) _⟩
 subst hc
 obtain ⟨hl4,hl5⟩:=an2_z h1
 obtain ⟨hro,hb⟩:=(uh HRO)
 obtain ⟨w6,hw6⟩:∃ w6,w6=w5.alloc (.cells #[.int .i64 ((0:Nat):Int),.int .i64 (f2:Int),.int .i64 (n2:Int)] 39):=⟨_,rfl⟩
 have k6:Kb 0 w2 w6:=by rw [hw6];exact k25.trans (kb_alloc _ _ _)
 have u0a:∀ o,(w5.alloc o).cell? ⟨w.heap.size,0,none⟩=some (.slice pa nf ca):=fun o=>(kb_alloc 0 w5 o).cell u0
 have HC3:Hid (Calls Tryz.prog 24 #[.agg #[.slice pa nf ca]] w6 fun e w'=>∃ c f n:Nat,e = .returned (.agg #[.int .i64 (c:Int),.int .i64 (f:Int),.int .i64 (n:Int)])∧An3 nf F c f n∧Kb 0 w6 w'):=sp_third w6 (hro w6 k6) hb (fun f hf=>fok_of hb hz hl2 hl3 hl4 hf)
 have HA2:Hid (∀ c f n,An3 nf F c f n→Ans nf F c f n):=(fun c f n h=>an3_ans hz hl2 hl3 hl4 hl5 h:∀ c f n,_)
 have HK6:Hid (Kb 0 w2 w6):=k6
 have HW6:Hid (w6=w5.alloc (.cells #[.int .i64 0,.int .i64 (f2:Int),.int .i64 (n2:Int)] 39)):=hw6
 clear h1 k5 k4 k25 r0 r1 r2 fr kk hlt u0 r0a r1a r2a fra hz hl2 hl3 hl4 hl5 hro hb hw6 k6 HA HRO
 go_wp2_with fail
 rw [← (uh HW6)]
 clear HW6 u0a
 refine (uh HC3).mono ?_
 rintro e w7 ⟨c,f3,n3,rfl,h1,k7⟩
 clear HC3
 obtain ⟨r0,r1,r2,fr,kk,hlt⟩:=(uh HRES) w7 ((uh HK6).trans k7)
 have HAN:Hid (Ans nf F c f3 n3):=(uh HA2) c f3 n3 h1
 have HKW:Hid (Kb 0 w w7):=kk
 clear h1 k7 kk hlt HRES HBOX HA2 HK6
 go_wp2_with fail
 refine bodyPost_ret (by simp [results,Tryz.results14,go_sem,r0,r1,r2];rfl) rfl ?_
 exact ⟨c,f3,n3,rfl,HAN,(((uh HKW).setCell ⟨w.heap.size+1,0,none⟩ (Or.inr (by show w.heap.size≤w.heap.size+1;omega)) _).setCell ⟨w.heap.size+1,1,none⟩ (Or.inr (by show w.heap.size≤w.heap.size+1;omega)) _).setCell ⟨w.heap.size+1,2,none⟩ (Or.inr (by show w.heap.size≤w.heap.size+1;omega)) _⟩
end Go.Proofs.YtfpidccjcemcjaaGreat.Fo
