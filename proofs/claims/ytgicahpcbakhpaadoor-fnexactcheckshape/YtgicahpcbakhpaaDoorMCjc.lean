import Derived.Test.YtgicahpcbakhpaaDoorMCjb
import Derived.Test.YtgicahpcbakhpaaDoorMCfc
import Derived.Deep.RegionHeldLaw
set_option maxHeartbeats 16000000
namespace Go.Proofs.YtgicahpcbakhpaaDoor.Fo
open Go.ChangeShapes Go.WideShapes Go.ChangeAt Go.RowKit
set_option linter.unusedVariables false
set_option maxRecDepth 100000
theorem bd_of {nf : Nat} {F : Nat → Pd} (h : nf + sm (szP F) nf ≤ 1048576) (hF : ∀ i,i < nf → RdP (F i)) : Bd nf F:=by
  have one : ∀ f,f < nf → szP F f ≤ 1048576:=fun f hf=>by have:=sm_one (szP F) hf;omega
  refine ⟨by omega,?_,?_,?_,?_,?_,fun f hf=>(hF f hf).2.2,?_⟩
  · have : sm (fun i => (F i).n) nf ≤ sm (szP F) nf := by
      have : ∀ k,k ≤ nf → sm (fun i=>(F i).n) k ≤ sm (szP F) k:=by
        intro k
        induction k with
        | zero=>intro _;exact Nat.le_refl _
        | succ k ih =>
          intro hk
          have:=ih (by omega)
          show sm (fun i=>(F i).n) k + (F k).n ≤ sm (szP F) k + szP F k
          unfold szP
          unfold szP at this
          omega
      exact this nf (Nat.le_refl _)
    omega
  · intro f hf;have:=one f hf;unfold szP at this;omega
  · intro f hf;have:=one f hf;unfold szP at this;omega
  · intro f hf;have:=one f hf;unfold szP at this;omega
  · intro f hf;have:=one f hf;unfold szP at this;omega
  · intro f hf i hi
    refine ⟨?_,(hF f hf).2.1 i hi⟩
    have h1:=one f hf
    have h2:=sm_one (fun j=>((F f).C j).x.size) hi
    unfold szP at h1
    try dsimp only at h2
    omega
theorem bf_of {nf : Nat} {F : Nat → Pd} (hF : ∀ i,i < nf → RdP (F i)) : BP F nf:=fun i hi=>(hF i hi).1
theorem to_code {va : Value} {nf : Nat} {F : Nat → Pd} (w : World) (ha : RowP 0 w va nf F) (hb : Bd nf F) : Calls Tryd.prog 6 #[.agg #[va]] w fun e w'=>∃ v,e = .returned (.agg #[v]) ∧ RowP w.heap.size w' v nf F ∧ Kb 0 w w' :=
  to_code0 w (fun W k=>to_pros W (ha.keep k) hb.hnp (fun i hi=>⟨hb.hu i hi,hb.hc i hi,hb.hn i hi,hb.hd i hi⟩))
theorem eq_code {va vb : Value} {nf : Nat} {F : Nat → Pd} (w : World) (ha : RowP 0 w va nf F) (hv : RowP 0 w vb nf F) (hb : Bd nf F) : Calls Tryd.prog 9 #[.agg #[va],.agg #[vb]] w fun e w'=>e = .returned (.bool true) ∧ Kb 0 w w' :=
  eq_code0 w (fun W k=>eq_pros W (ha.keep k) (hv.keep k) hb.hnp (fun i hi=>⟨hb.hu i hi,hb.hc i hi,hb.hn i hi,hb.hd i hi,fun j hj=>(hb.hC i hi j hj).2⟩))
theorem law_cs {pa : Option Addr} {ca nf : Nat} {F : Nat → Pd} {Ans : Nat → Nat → Nat → Prop} (w : World) (hun : ∀ c f n c' f' n', Ans c f n → Ans c' f' n' → c = c' ∧ f = f' ∧ n = n') (hsp : ∀ W v, RowP 0 W v nf F → Bd nf F → Calls Tryd.prog 5 #[.agg #[v]] W fun e w' => ∃ c f n : Nat, e = .returned (.agg #[.int .i64 (c : Int), .int .i64 (f : Int), .int .i64 (n : Int)]) ∧ Ans c f n ∧ Kb 0 W w') (him : ∀ W v, Kb 0 w W → RowP 0 W v nf F → Bd nf F → Calls Tryd.prog 7 #[.agg #[v]] W fun e w' => ∃ c f n : Nat, e = .returned (.agg #[.int .i64 (c : Int), .int .i64 (f : Int), .int .i64 (n : Int)]) ∧ Ans c f n ∧ Kb 0 W w') (ha : RowP 0 w (.slice pa nf ca) nf F) (hn : (nf : Int) < 140737488355328) (hF : ∀ i, i < nf → RdP (F i)) :
    Calls Tryd.prog 3 #[.agg #[.slice pa nf ca]] w fun e w'=>e = .returned (.bool true) ∧ Kb 0 w w':=by
  have HSZ : Hid (∀ o,Calls Tryd.prog 4 #[.agg #[.slice pa nf ca],.int .i64 1048576] (w.alloc o) (Szd (nf + sm (szP F) nf) 1048576 (w.alloc o))):=(fun o=>sz_code (w.alloc o) (ha.keep (kb_alloc _ _ _)) hn (bf_of hF) : ∀ o,_)
  have HA : Hid (RowP 0 w (.slice pa nf ca) nf F ∧ (∀ i,i < nf → RdP (F i))):=(⟨ha,hF⟩ : _ ∧ _)
  have HSP : Hid (∀ W v,RowP 0 W v nf F → Bd nf F → Calls Tryd.prog 5 #[.agg #[v]] W fun e w'=>∃ c f n : Nat,e = .returned (.agg #[.int .i64 (c : Int),.int .i64 (f : Int),.int .i64 (n : Int)]) ∧ Ans c f n ∧ Kb 0 W w'):=hsp
  have HIM : Hid (∀ W v,Kb 0 w W → RowP 0 W v nf F → Bd nf F → Calls Tryd.prog 7 #[.agg #[v]] W fun e w'=>∃ c f n : Nat,e = .returned (.agg #[.int .i64 (c : Int),.int .i64 (f : Int),.int .i64 (n : Int)]) ∧ Ans c f n ∧ Kb 0 W w'):=him
  have HUN : Hid (∀ c f n c' f' n',Ans c f n → Ans c' f' n' → c = c' ∧ f = f' ∧ n = n'):=hun
  obtain ⟨w0,hw0⟩ : ∃ w0,w0 = w.alloc (.cells #[.slice pa nf ca] 24):=⟨_,rfl⟩
  have k0 : Kb 0 w w0:=by rw [hw0];exact kb_alloc _ _ _
  have b0 : w0.cell? ⟨w.heap.size,0,none⟩ = some (.slice pa nf ca):=by rw [hw0];exact cell_of (alloc_new _ _ _) rfl
  have HS0 : Hid (Calls Tryd.prog 4 #[.agg #[.slice pa nf ca],.int .i64 1048576] w0 (Szd (nf + sm (szP F) nf) 1048576 w0)):=by rw [hw0];exact (show ∀ o,_ from HSZ) _
  have HC : Hid (Kb 0 w w0 ∧ w0.cell? ⟨w.heap.size,0,none⟩ = some (.slice pa nf ca)):=(⟨k0,b0⟩ : _ ∧ _)
  have HW0 : Hid (w0 = w.alloc (.cells #[.slice pa nf ca] 24)):=hw0
  clear ha hn hF hsp him hun HSZ k0 b0 hw0
  go_enter Tryd.func3,Tryd.ntmps3
  go_wp2_with fail
  rw [← (show w0 = _ from HW0)]
  clear HW0
  refine (show Calls Tryd.prog 4 #[.agg #[.slice pa nf ca],.int .i64 1048576] w0 (Szd (nf + sm (szP F) nf) 1048576 w0) from HS0).mono ?_
  rintro e w1 ⟨r,rfl,hr1,hr2,hr3,k1⟩
  clear HS0
  rcases Int.lt_or_le r 0 with h | h
  · have HB : Hid (Kb 0 w w1):=HC.1.trans k1
    clear k1 hr1 HA HSP HIM HC HUN
    go_wp2_with fail
    go_ret
    exact ⟨rfl,HB⟩
  · have h' : ¬ r < 0:=by omega
    have HBD : Hid (Bd nf F):=bd_of (by have:=hr1 h;omega) HA.2
    have HK1 : Hid (Kb 0 w w1 ∧ w1.cell? ⟨w.heap.size,0,none⟩ = some (.slice pa nf ca)):=(⟨HC.1.trans k1,k1.cell HC.2⟩ : _ ∧ _)
    have c1 : w1.cell? ⟨w.heap.size,0,none⟩ = some (.slice pa nf ca):=HK1.2
    clear hr1 k1 HC
    go_wp2_with fail
    refine (to_code w1 (HA.1.keep HK1.1) HBD).mono ?_
    rintro e w2 ⟨v1,rfl,r1,k2⟩
    have HK2 : Hid (Kb 0 w w2 ∧ w2.cell? ⟨w.heap.size,0,none⟩ = some (.slice pa nf ca) ∧ RowP 0 w2 v1 nf F):=(⟨HK1.1.trans k2,k2.cell c1,r1.mono (Nat.zero_le _)⟩ : _ ∧ _ ∧ _)
    obtain ⟨p1,q1,rfl,-⟩:=id r1
    clear c1 HK1 r1 k2
    go_wp2_with fail
    refine ((show ∀ W v,RowP 0 W v nf F → Bd nf F → Calls Tryd.prog 5 #[.agg #[v]] W fun e w'=>∃ c f n : Nat,e = .returned (.agg #[.int .i64 (c : Int),.int .i64 (f : Int),.int .i64 (n : Int)]) ∧ Ans c f n ∧ Kb 0 W w' from HSP) w2 _ HK2.2.2 HBD).mono ?_
    rintro e w3 ⟨c,f,n,rfl,hans,k3⟩
    have HAN : Hid (Ans c f n):=hans
    obtain ⟨w4,hw4⟩ : ∃ w4,w4 = w3.alloc (.cells #[.int .i64 (c : Int),.int .i64 (f : Int),.int .i64 (n : Int)] 27):=⟨_,rfl⟩
    have k4 : Kb 0 w2 w4:=by rw [hw4];exact k3.trans (kb_alloc _ _ _)
    have b4 : w4.heap[w3.heap.size]? = some (.cells #[.int .i64 (c : Int),.int .i64 (f : Int),.int .i64 (n : Int)] 27 (0,0)):=by rw [hw4];exact alloc_new _ _ _
    have HK4 : Hid (Kb 0 w w4 ∧ w4.cell? ⟨w.heap.size,0,none⟩ = some (.slice pa nf ca) ∧ w4.cell? ⟨w3.heap.size,0,none⟩ = some (.int .i64 (c : Int)) ∧ w4.cell? ⟨w3.heap.size,1,none⟩ = some (.int .i64 (f : Int)) ∧ w4.cell? ⟨w3.heap.size,2,none⟩ = some (.int .i64 (n : Int))):=(⟨HK2.1.trans k4,k4.cell HK2.2.1,cell_of b4 rfl,cell_of b4 rfl,cell_of b4 rfl⟩ : _ ∧ _)
    have c3 : ∀ o,(w3.alloc o).cell? ⟨w.heap.size,0,none⟩ = some (.slice pa nf ca):=fun o=>(kb_alloc 0 w3 o).cell (k3.cell HK2.2.1)
    have HW4 : Hid (w4 = w3.alloc (.cells #[.int .i64 (c : Int),.int .i64 (f : Int),.int .i64 (n : Int)] 27)):=hw4
    clear HK2 HSP hans k3 hw4 k4 b4
    go_wp2_with fail
    rw [← (show w4 = _ from HW4)]
    clear HW4 c3
    refine (to_code w4 (HA.1.keep HK4.1) HBD).mono ?_
    rintro e w5 ⟨vx,rfl,rx,k5⟩
    obtain ⟨px,qx,rfl,-⟩:=id rx
    obtain ⟨w6,hw6⟩ : ∃ w6,w6 = w5.alloc (.cells #[.slice px nf qx] 31):=⟨_,rfl⟩
    have k6 : Kb 0 w4 w6:=by rw [hw6];exact k5.trans (kb_alloc _ _ _)
    have HK6 : Hid (Kb 0 w w6 ∧ RowP 0 w6 (.slice px nf qx) nf F ∧ w6.cell? ⟨w.heap.size,0,none⟩ = some (.slice pa nf ca) ∧ (w6.cell? ⟨w3.heap.size,0,none⟩ = some (.int .i64 (c : Int)) ∧ w6.cell? ⟨w3.heap.size,1,none⟩ = some (.int .i64 (f : Int)) ∧ w6.cell? ⟨w3.heap.size,2,none⟩ = some (.int .i64 (n : Int))) ∧ w6.cell? ⟨w5.heap.size,0,none⟩ = some (.slice px nf qx)):=(⟨HK4.1.trans k6,by rw [hw6];exact (rx.mono (Nat.zero_le _)).keep (kb_alloc _ _ _),k6.cell HK4.2.1,⟨k6.cell HK4.2.2.1,k6.cell HK4.2.2.2.1,k6.cell HK4.2.2.2.2⟩,by rw [hw6];exact cell_of (alloc_new _ _ _) rfl⟩ : _ ∧ _)
    have HW6 : Hid (w6 = w5.alloc (.cells #[.slice px nf qx] 31)):=hw6
    clear HK4 rx k5 k6 hw6
    go_wp2_with fail
    rw [← (show w6 = _ from HW6)]
    clear HW6
    refine ((show ∀ W v,Kb 0 w W → RowP 0 W v nf F → Bd nf F → Calls Tryd.prog 7 #[.agg #[v]] W fun e w'=>∃ c f n : Nat,e = .returned (.agg #[.int .i64 (c : Int),.int .i64 (f : Int),.int .i64 (n : Int)]) ∧ Ans c f n ∧ Kb 0 W w' from HIM) w6 _ HK6.1 HK6.2.1 HBD).mono ?_
    rintro e w7 ⟨c',f',n',rfl,hans',k7⟩
    obtain ⟨rfl,rfl,rfl⟩:=(show ∀ c f n c' f' n',Ans c f n → Ans c' f' n' → c = c' ∧ f = f' ∧ n = n' from HUN) _ _ _ _ _ _ (show Ans c f n from HAN) hans'
    obtain ⟨w8,hw8⟩ : ∃ w8,w8 = w7.alloc (.cells #[.int .i64 (c : Int),.int .i64 (f : Int),.int .i64 (n : Int)] 27):=⟨_,rfl⟩
    have k8 : Kb 0 w6 w8:=by rw [hw8];exact k7.trans (kb_alloc _ _ _)
    have HK8 : Hid (Kb 0 w w8 ∧ RowP 0 w8 (.slice px nf qx) nf F ∧ w8.cell? ⟨w.heap.size,0,none⟩ = some (.slice pa nf ca) ∧ w8.cell? ⟨w5.heap.size,0,none⟩ = some (.slice px nf qx)):=(⟨HK6.1.trans k8,HK6.2.1.keep k8,k8.cell HK6.2.2.1,k8.cell HK6.2.2.2.2⟩ : _ ∧ _)
    have x0 : ∀ o,(w7.alloc o).cell? ⟨w3.heap.size,0,none⟩ = some (.int .i64 (c : Int)):=fun o=>(k7.alloc o).cell HK6.2.2.2.1.1
    have x1 : ∀ o,(w7.alloc o).cell? ⟨w3.heap.size,1,none⟩ = some (.int .i64 (f : Int)):=fun o=>(k7.alloc o).cell HK6.2.2.2.1.2.1
    have x2 : ∀ o,(w7.alloc o).cell? ⟨w3.heap.size,2,none⟩ = some (.int .i64 (n : Int)):=fun o=>(k7.alloc o).cell HK6.2.2.2.1.2.2
    have HW8 : Hid (w8 = w7.alloc (.cells #[.int .i64 (c : Int),.int .i64 (f : Int),.int .i64 (n : Int)] 27)):=hw8
    clear HK6 hans' HAN k7 k8 hw8 HUN HIM
    go_wp2_with fail
    rw [← (show w8 = _ from HW8)]
    clear HW8 x0 x1 x2
    refine (eq_fault (c : Int) (f : Int) (n : Int) w8).mono ?_
    rintro e w9 ⟨rfl,k9⟩
    have HK9 : Hid (Kb 0 w w9 ∧ RowP 0 w9 (.slice pa nf ca) nf F ∧ RowP 0 w9 (.slice px nf qx) nf F):=(⟨HK8.1.trans k9,HA.1.keep (HK8.1.trans k9),HK8.2.1.keep k9⟩ : _ ∧ _)
    have c5 : w9.cell? ⟨w5.heap.size,0,none⟩ = some (.slice px nf qx):=k9.cell HK8.2.2.2
    have c0 : w9.cell? ⟨w.heap.size,0,none⟩ = some (.slice pa nf ca):=k9.cell HK8.2.2.1
    have HTO : Hid (∀ W,Kb 0 w9 W → Calls Tryd.prog 6 #[.agg #[.slice pa nf ca]] W fun e w'=>∃ v,e = .returned (.agg #[v]) ∧ RowP W.heap.size w' v nf F ∧ Kb 0 W w'):=(fun W k=>to_code W (HK9.2.1.keep k) HBD : ∀ W,_)
    have HEQ : Hid (∀ W v2,Kb 0 w9 W → RowP 0 W v2 nf F → Calls Tryd.prog 9 #[.agg #[.slice px nf qx],.agg #[v2]] W fun e w'=>e = .returned (.bool true) ∧ Kb 0 W w'):=(fun W v2 k h2=>eq_code W (HK9.2.2.keep k) h2 HBD : ∀ W v2,_)
    have HC5 : Hid (∀ W,Kb 0 w9 W → W.cell? ⟨w5.heap.size,0,none⟩ = some (.slice px nf qx) ∧ W.cell? ⟨w.heap.size,0,none⟩ = some (.slice pa nf ca)):=(fun W k=>⟨k.cell c5,k.cell c0⟩ : ∀ W,_)
    clear HK8 k9
    go_wp2_with fail
    go_region_held_law (fun W'=>W'.cell? ⟨w5.heap.size,0,none⟩ = some (.slice px nf qx) ∧ W'.cell? ⟨w.heap.size,0,none⟩ = some (.slice pa nf ca)) (first | exact s11 | exact s10 | exact ⟨c5,c0⟩)
      (first
        | (go_at_call 6;refine ((show ∀ W,Kb 0 w9 W → _ from HTO) _ (by exact Kb.drewN (Kb.refl _ _) 1)).mono ?_;rintro e w10 ⟨v2,rfl,o2,k10⟩;have K10 : Kb 0 w9 w10:=⟨k10.os,k10.output,k10.size,k10.block⟩;have s10:=(show ∀ W,Kb 0 w9 W → _ from HC5) w10 K10)
        | (go_at_call 9;refine ((show ∀ W v2,_ from HEQ) _ _ K10 (o2.mono (Nat.zero_le _))).mono ?_;rintro e w11 ⟨rfl,k11⟩;have K11 : Kb 0 w9 w11:=K10.trans k11;have s11:=(show ∀ W,Kb 0 w9 W → _ from HC5) w11 K11))
    have HB11 : Hid (Kb 0 w w11):=HK9.1.trans K11
    clear c5 c0 HC5 HEQ HTO o2 k10 K10 s10 k11 K11 s11
    go_wp2_with fail
    go_ret
    exact ⟨rfl,HB11⟩
end Go.Proofs.YtgicahpcbakhpaaDoor.Fo
