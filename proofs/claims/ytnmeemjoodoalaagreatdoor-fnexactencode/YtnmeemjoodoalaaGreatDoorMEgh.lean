import Derived.Test.YtnmeemjoodoalaaGreatDoorMEgf
import Derived.Test.YtnmeemjoodoalaaGreatDoorMCdd
import Derived.Test.YtnmeemjoodoalaaGreatDoorMEaf
import Derived.Deep.RegionHeldLaw
set_option maxHeartbeats 16000000
namespace Go.Proofs.YtnmeemjoodoalaaGreatDoor.Fo
open Go.ChangeShapes Go.WideShapes Go.ChangeAt Go.RowKit
set_option linter.unusedVariables false
set_option maxRecDepth 100000
theorem RowPF.mono {b c : Nat} {W : World} {v : Value} {n : Nat} {F : Nat → Pd} (h : RowPF b W v n F) (hc : c ≤ b) : RowPF c W v n F:=by
  obtain ⟨g,h1,h2,h3⟩:=h
  exact ⟨g,h1,Nat.le_trans hc h2,h3⟩
theorem RowPF.form {b : Nat} {W : World} {v : Value} {n : Nat} {F : Nat → Pd} (h : RowPF b W v n F) : ∃ p c,v = .slice p n c ∧ True:=by
  obtain ⟨g,h1,_⟩:=h
  exact ⟨_,_,h1,trivial⟩
theorem to_code0F {va : Value} {nf : Nat} {F : Nat → Pd} (w : World)
    (g0 : ∀ W,Kb 0 w W → Calls Tryz.prog 22 #[va] W fun e w'=>∃ v,e = .returned v ∧ RowPF W.heap.size w' (v) nf F ∧ Kb 0 W w') :
    Calls Tryz.prog 7 #[.agg #[va]] w fun e w'=>∃ v0,e = .returned (.agg #[v0]) ∧ RowPF w.heap.size w' (v0) nf F ∧ Kb 0 w w':=by
  have G0 : Hid (∀ W,Kb 0 w W → Calls Tryz.prog 22 #[va] W fun e w'=>∃ v,e = .returned v ∧ RowPF W.heap.size w' (v) nf F ∧ Kb 0 W w'):=g0
  clear g0
  go_enter Tryz.func7,Tryz.ntmps7
  go_wp2_with fail
  obtain ⟨w3,hw3⟩ : ∃ w3,w3 = ((w.alloc (.cells #[va] 24)).alloc (.cells #[.slice none 0 0] 30)).alloc (.cells #[.slice none 0 0] 30):=⟨_,rfl⟩
  rw [← hw3]
  obtain ⟨b0,b1,b2,z3,k3⟩:=three_new w _ _ _ _ _ _ w3 hw3
  clear hw3
  refine ((show ∀ W,Kb 0 w W → Calls Tryz.prog 22 #[va] W fun e w'=>∃ v,e = .returned v ∧ RowPF W.heap.size w' (v) nf F ∧ Kb 0 W w' from G0) w3 k3).mono ?_
  rintro e x0 ⟨v0,rfl,r0,q0⟩
  clear G0
  have zq0:=q0.size
  have zz0 : w.heap.size + 3 ≤ w3.heap.size:=by omega
  have b0x0 : x0.heap[w.heap.size]? = some (.cells #[va] 24 (0,0)):=(q0.block _ (Nat.zero_le _) (by omega)).trans b0
  have b1x0 : x0.heap[w.heap.size + 1]? = some (.cells #[.slice none 0 0] 30 (0,0)):=(q0.block _ (Nat.zero_le _) (by omega)).trans b1
  have b2x0 : x0.heap[w.heap.size + 1 + 1]? = some (.cells #[.slice none 0 0] 30 (0,0)):=(q0.block _ (Nat.zero_le _) (by omega)).trans b2
  clear b0 b1 b2
  obtain ⟨p0,l0,rfl,_⟩:=r0.form
  have s0:=r0.mono (show w.heap.size + 3 ≤ w3.heap.size by omega)
  have KW:=k3.trans q0
  have e0 : x0.cell? ⟨w.heap.size + 1 + 1,0,none⟩ = some (.slice none 0 0):=cell_of b2x0 rfl
  have fz : x0.frozen? ⟨w.heap.size + 1 + 1,0,none⟩ = false:=frozen_of b2x0
  have a0 : x0.cell? ⟨w.heap.size + 1,0,none⟩ = some (.slice none 0 0):=cell_of b1x0 rfl
  have fy : ∀ j,x0.frozen? ⟨w.heap.size + 1,j,none⟩ = false:=fun j=>frozen_of b1x0
  have HE : Hid (Kb 0 w x0 ∧ RowPF (w.heap.size + 3) x0 (.slice p0 nf l0) nf F):=(⟨KW,s0⟩ : _ ∧ _)
  clear KW s0 b0x0 b1x0 b2x0 r0 q0 zq0 zz0 k3 z3
  go_wp2_with fail
  refine bodyPost_ret (by simp [results,Tryz.results7,go_sem,a0];rfl) rfl ?_
  obtain ⟨KW,s0⟩:=(show Kb 0 w x0 ∧ RowPF (w.heap.size + 3) x0 (.slice p0 nf l0) nf F from HE)
  clear HE
  have hq:=((Kb.refl (w.heap.size + 3) x0).setCell ⟨w.heap.size + 1 + 1,0,none⟩ (Or.inl (show w.heap.size + 1 + 1 < w.heap.size + 3 by omega)) (.slice p0 nf l0)).setCell ⟨w.heap.size + 1,0,none⟩ (Or.inl (show w.heap.size + 1 < w.heap.size + 3 by omega)) (.slice p0 nf l0)
  have hk:=((KW).setCell ⟨w.heap.size + 1 + 1,0,none⟩ (Or.inr (show w.heap.size ≤ w.heap.size + 1 + 1 by omega)) (.slice p0 nf l0)).setCell ⟨w.heap.size + 1,0,none⟩ (Or.inr (show w.heap.size ≤ w.heap.size + 1 by omega)) (.slice p0 nf l0)
  exact ⟨_,rfl,(s0.keep hq).mono (by omega),hk⟩
theorem to_codeF {va : Value} {nf : Nat} {F : Nat → Pd} (w : World) (ha : RowP 0 w va nf F) (hb : Bd nf F) : Calls Tryz.prog 7 #[.agg #[va]] w fun e w'=>∃ v,e = .returned (.agg #[v]) ∧ RowPF w.heap.size w' v nf F ∧ Kb 0 w w' :=
  to_code0F w (fun W k=>to_prosF W (ha.keep k) hb.hnp (fun i hi=>⟨hb.hu i hi,hb.hc i hi,hb.hn i hi,hb.hd i hi⟩))
theorem Img.len {np : Nat} {F : Nat → Pd} {R : List UInt8} (h : Img np F R) : R.length ≤ 1048576:=by
  obtain ⟨c,f,n,_,rfl⟩:=h
  split
  · rename_i q;omega
  · simp
theorem kb_drewN {W w' : World} (h : ∃ d,w' = W.drewN d) : Kb 0 W w':=by
  obtain ⟨d,rfl⟩:=h
  exact (Kb.refl 0 W).drewN d
theorem smk_le {nf : Nat} {F : Nat → Pd} (h : nf + sm (szP F) nf ≤ 1048576) : sm (fun i=>5 + 2 * (F i).u + 5 * (F i).c + 5 * (F i).n + 4 * (F i).d) nf ≤ 100000000:=by
  have : ∀ k,k ≤ nf → sm (fun i=>5 + 2 * (F i).u + 5 * (F i).c + 5 * (F i).n + 4 * (F i).d) k ≤ 5 * k + 5 * sm (szP F) k:=by
    intro k
    induction k with
    | zero=>intro _;exact Nat.zero_le _
    | succ k ih =>
      intro hk
      have:=ih (by omega)
      show sm (fun i=>5 + 2 * (F i).u + 5 * (F i).c + 5 * (F i).n + 4 * (F i).d) k + (5 + 2 * (F k).u + 5 * (F k).c + 5 * (F k).n + 4 * (F k).d) ≤ 5 * (k + 1) + 5 * (sm (szP F) k + szP F k)
      have e : szP F k = (F k).x.size + (F k).u + ((F k).c + sm (fun j=>((F k).C j).x.size) (F k).c) + (F k).n + ((F k).d + sm (fun j=>((F k).D j).x.size) (F k).d):=rfl
      omega
  have:=this nf (Nat.le_refl _)
  omega
theorem law_enc {pa : Option Addr} {ca nf : Nat} {F : Nat → Pd} (w : World) (hsp : ∀ W v, RowP 0 W v nf F → Bd nf F → Calls Tryz.prog 6 #[.agg #[v]] W fun e w' => ∃ v' R, e = .returned v' ∧ Img nf F R ∧ QK W R v' w') (him : ∀ W v, Kb 0 w W → RowP 0 W v nf F → Bd nf F → Calls Tryz.prog 8 #[.agg #[v]] W fun e w' => ∃ v' R, e = .returned v' ∧ Img nf F R ∧ w'.ownsRow W.heap.size 5 1 v' R.length (Lib.byteCells R) ∧ Kb 0 W w') (ha : RowP 0 w (.slice pa nf ca) nf F) (hn : (nf : Int) < 140737488355328) (hF : ∀ i, i < nf → RdP (F i)) :
    Calls Tryz.prog 3 #[.agg #[.slice pa nf ca]] w fun e w'=>e = .returned (.bool true) ∧ Kb 0 w w':=by
  have HSZ : Hid (∀ o,Calls Tryz.prog 5 #[.agg #[.slice pa nf ca],.int .i64 1048576] (w.alloc o) (Szd (nf + sm (szP F) nf) 1048576 (w.alloc o))):=(fun o=>sz_code (w.alloc o) (ha.keep (kb_alloc _ _ _)) hn (bf_of hF) : ∀ o,_)
  have HA : Hid (RowP 0 w (.slice pa nf ca) nf F ∧ (∀ i,i < nf → RdP (F i))):=(⟨ha,hF⟩ : _ ∧ _)
  have HSP : Hid (∀ W v,RowP 0 W v nf F → Bd nf F → Calls Tryz.prog 6 #[.agg #[v]] W fun e w'=>∃ v' R,e = .returned v' ∧ Img nf F R ∧ QK W R v' w'):=hsp
  have HIM : Hid (∀ W v,Kb 0 w W → RowP 0 W v nf F → Bd nf F → Calls Tryz.prog 8 #[.agg #[v]] W fun e w'=>∃ v' R,e = .returned v' ∧ Img nf F R ∧ w'.ownsRow W.heap.size 5 1 v' R.length (Lib.byteCells R) ∧ Kb 0 W w'):=him
  obtain ⟨w0,hw0⟩ : ∃ w0,w0 = w.alloc (.cells #[.slice pa nf ca] 24):=⟨_,rfl⟩
  have k0 : Kb 0 w w0:=by rw [hw0];exact kb_alloc _ _ _
  have b0 : w0.cell? ⟨w.heap.size,0,none⟩ = some (.slice pa nf ca):=by rw [hw0];exact cell_of (alloc_new _ _ _) rfl
  have HS0 : Hid (Calls Tryz.prog 5 #[.agg #[.slice pa nf ca],.int .i64 1048576] w0 (Szd (nf + sm (szP F) nf) 1048576 w0)):=by rw [hw0];exact (show ∀ o,_ from HSZ) _
  have HC : Hid (Kb 0 w w0 ∧ w0.cell? ⟨w.heap.size,0,none⟩ = some (.slice pa nf ca)):=(⟨k0,b0⟩ : _ ∧ _)
  have HW0 : Hid (w0 = w.alloc (.cells #[.slice pa nf ca] 24)):=hw0
  clear ha hn hF hsp him HSZ k0 b0 hw0
  go_enter Tryz.func3,Tryz.ntmps3
  go_wp2_with fail
  rw [← (show w0 = _ from HW0)]
  clear HW0
  refine (show Calls Tryz.prog 5 #[.agg #[.slice pa nf ca],.int .i64 1048576] w0 (Szd (nf + sm (szP F) nf) 1048576 w0) from HS0).mono ?_
  rintro e w1 ⟨r,rfl,hr1,hr2,hr3,k1⟩
  clear HS0
  rcases Int.lt_or_le r 0 with h | h
  · have HB : Hid (Kb 0 w w1):=HC.1.trans k1
    clear k1 hr1 HA HSP HIM HC
    go_wp2_with fail
    go_ret
    exact ⟨rfl,HB⟩
  · have h' : ¬ r < 0:=by omega
    have HBD : Hid (Bd nf F ∧ sm (fun i=>5 + 2 * (F i).u + 5 * (F i).c + 5 * (F i).n + 4 * (F i).d) nf ≤ 100000000):=(⟨bd_of (by have:=hr1 h;omega) HA.2,smk_le (by have:=hr1 h;omega)⟩ : _ ∧ _)
    have HK1 : Hid (Kb 0 w w1 ∧ w1.cell? ⟨w.heap.size,0,none⟩ = some (.slice pa nf ca)):=(⟨HC.1.trans k1,k1.cell HC.2⟩ : _ ∧ _)
    have c1 : w1.cell? ⟨w.heap.size,0,none⟩ = some (.slice pa nf ca):=HK1.2
    clear hr1 k1 HC
    go_wp2_with fail
    refine (to_code w1 (HA.1.keep HK1.1) HBD.1).mono ?_
    rintro e w2 ⟨v1,rfl,r1,k2⟩
    have HK2 : Hid (Kb 0 w w2 ∧ w2.cell? ⟨w.heap.size,0,none⟩ = some (.slice pa nf ca) ∧ RowP 0 w2 v1 nf F):=(⟨HK1.1.trans k2,k2.cell c1,r1.mono (Nat.zero_le _)⟩ : _ ∧ _ ∧ _)
    obtain ⟨p1,q1,rfl,-⟩:=id r1
    clear c1 HK1 r1 k2
    go_wp2_with fail
    refine ((show ∀ W v,RowP 0 W v nf F → Bd nf F → Calls Tryz.prog 6 #[.agg #[v]] W fun e w'=>∃ v' R,e = .returned v' ∧ Img nf F R ∧ QK W R v' w' from HSP) w2 _ HK2.2.2 HBD.1).mono ?_
    rintro e w3 ⟨vw,R,rfl,hans,qw⟩
    have hRl:=hans.len
    obtain ⟨gw,hgw,ow⟩:=own_of qw.1
    obtain ⟨pw,cw,rfl⟩:=qw.slice
    have HAN : Hid (Img nf F R ∧ R.length ≤ 1048576):=(⟨hans,hRl⟩ : _ ∧ _)
    have HK3 : Hid (Kb 0 w w3 ∧ w3.cell? ⟨w.heap.size,0,none⟩ = some (.slice pa nf ca) ∧ (0 < R.length → gw < w3.heap.size) ∧ OwnR w3 (.slice pw R.length cw) gw R.length (fun i=>.int .u8 ((R.getD i 0).toNat : Int))):=(⟨HK2.1.trans qw.2,qw.2.cell HK2.2.1,fun q=>(hgw q).2,ow⟩ : _ ∧ _)
    have c3 : w3.cell? ⟨w.heap.size,0,none⟩ = some (.slice pa nf ca):=HK3.2.1
    clear HK2 HSP hans qw hgw ow hRl
    go_wp2_with fail
    clear c3
    refine (to_codeF w3 (HA.1.keep HK3.1) HBD.1).mono ?_
    rintro e w5 ⟨vx,rfl,rx,k5⟩
    obtain ⟨g,rfl,hgB,hmst⟩:=mst_of rx
    obtain ⟨w6,hw6⟩ : ∃ w6,w6 = w5.alloc (.cells #[.slice (some ⟨g,0,none⟩) nf nf] 30):=⟨_,rfl⟩
    have k56 : Kb 0 w5 w6:=by rw [hw6];exact kb_alloc _ _ _
    have s6 : w6.heap.size = w5.heap.size + 1:=by rw [hw6];simp
    have HK6 : Hid (Kb 0 w3 w6 ∧ RowP 0 w6 (.slice (some ⟨g,0,none⟩) nf nf) nf F ∧ Mst g w5.heap.size nf F w6 ∧ w3.heap.size ≤ g ∧ w3.heap.size ≤ w5.heap.size ∧ w5.heap.size < w6.heap.size ∧ w6.cell? ⟨w5.heap.size,0,none⟩ = some (.slice (some ⟨g,0,none⟩) nf nf)):=(⟨k5.trans k56,(rx.row.mono (Nat.zero_le _)).keep k56,hmst.kb k56,hgB,k5.size,by omega,by rw [hw6];exact cell_of (alloc_new _ _ _) rfl⟩ : _ ∧ _)
    have HW6 : Hid (w6 = w5.alloc (.cells #[.slice (some ⟨g,0,none⟩) nf nf] 30)):=hw6
    clear rx k5 k56 hw6 hmst hgB s6
    go_wp2_with fail
    rw [← (show w6 = _ from HW6)]
    clear HW6
    refine ((show ∀ W v,Kb 0 w W → RowP 0 W v nf F → Bd nf F → Calls Tryz.prog 8 #[.agg #[v]] W fun e w'=>∃ v' R,e = .returned v' ∧ Img nf F R ∧ w'.ownsRow W.heap.size 5 1 v' R.length (Lib.byteCells R) ∧ Kb 0 W w' from HIM) w6 _ (HK3.1.trans HK6.1) HK6.2.1 HBD.1).mono ?_
    rintro e w7 ⟨vg,R',rfl,hans',og,k7⟩
    obtain rfl:=(show _ ∧ _ from HAN).1.uniq hans'
    obtain ⟨gg,hgg,og2⟩:=own_of og
    obtain ⟨pg,cg,rfl⟩:=(show ∃ p c,vg = .slice p R.length c from by
      rcases og.2 with ⟨h1,h2⟩ | ⟨g,cap,cur,h1,_⟩
      · exact ⟨none,0,by rw [h2];exact h1⟩
      · exact ⟨_,cap,h1⟩)
    have HK7 : Hid (Kb 0 w3 w7 ∧ RowP 0 w7 (.slice (some ⟨g,0,none⟩) nf nf) nf F ∧ Mst g w5.heap.size nf F w7 ∧ w7.cell? ⟨w5.heap.size,0,none⟩ = some (.slice (some ⟨g,0,none⟩) nf nf) ∧ (0 < R.length → w5.heap.size ≤ gg ∧ gg < w7.heap.size) ∧ OwnR w7 (.slice pg R.length cg) gg R.length (fun i=>.int .u8 ((R.getD i 0).toNat : Int))):=(⟨HK6.1.trans k7,HK6.2.1.keep k7,HK6.2.2.1.kb k7,k7.cell HK6.2.2.2.2.2.2,fun q=>⟨by have:=(hgg q).1;have:=HK6.2.2.2.2.2.1;omega,(hgg q).2⟩,og2⟩ : _ ∧ _)
    have HGB : Hid (w3.heap.size ≤ g ∧ w3.heap.size ≤ w5.heap.size):=(⟨HK6.2.2.2.1,HK6.2.2.2.2.1⟩ : _ ∧ _)
    have HW3 : Hid (∀ W,Kb 0 w3 W → OwnR W (.slice pw R.length cw) gw R.length (fun i=>.int .u8 ((R.getD i 0).toNat : Int))):=(fun W k=>(show OwnR w3 _ gw _ _ from HK3.2.2.2).kb (fun q=>k.block gw (Nat.zero_le _) (HK3.2.2.1 (by omega))) : ∀ W,_)
    have HRL : Hid (R.length ≤ 1048576):=(show _ ∧ _ from HAN).2
    obtain ⟨nR,hnR⟩ : ∃ nR,nR = R.length:=⟨_,rfl⟩
    have hnRI : (nR : Int) ≤ 1048576:=by have:=(show R.length ≤ 1048576 from HRL);omega
    rw [← hnR] at HK7 HW3 HRL
    rw [← hnR]
    have HNR : Hid (nR = R.length):=hnR
    clear HK6 og hgg og2 k7 hans' hnR
    have HEQ1:=eq_byts w7 (HK7.2.2.2.2.2.row) ((show ∀ W,_ from HW3) w7 HK7.1).row (show nR ≤ 1048576 from HRL)
    go_wp2_with fail
    refine HEQ1.mono ?_
    rintro e w8 ⟨rfl,d8⟩
    have k8:=kb_drewN d8
    have HK8 : Hid (Kb 0 w3 w8 ∧ RowP 0 w8 (.slice (some ⟨g,0,none⟩) nf nf) nf F ∧ Mst g w5.heap.size nf F w8 ∧ w8.cell? ⟨w5.heap.size,0,none⟩ = some (.slice (some ⟨g,0,none⟩) nf nf) ∧ (0 < nR → w5.heap.size ≤ gg ∧ gg < w8.heap.size) ∧ OwnR w8 (.slice pg nR cg) gg nR (fun i=>.int .u8 ((R.getD i 0).toNat : Int))):=(⟨HK7.1.trans k8,HK7.2.1.keep k8,HK7.2.2.1.kb k8,k8.cell HK7.2.2.2.1,fun q=>⟨(HK7.2.2.2.2.1 q).1,Nat.lt_of_lt_of_le (HK7.2.2.2.2.1 q).2 k8.size⟩,HK7.2.2.2.2.2.kb (fun q=>k8.block gg (Nat.zero_le _) (HK7.2.2.2.2.1 (by omega)).2)⟩ : _ ∧ _)
    have c5 : w8.cell? ⟨w5.heap.size,0,none⟩ = some (.slice (some ⟨g,0,none⟩) nf nf):=HK8.2.2.2.1
    have c0 : w8.cell? ⟨w.heap.size,0,none⟩ = some (.slice pa nf ca):=HK8.1.cell HK3.2.1
    have HTO : Hid (∀ W,Kb 0 w8 W → Calls Tryz.prog 7 #[.agg #[.slice pa nf ca]] W fun e w'=>∃ v,e = .returned (.agg #[v]) ∧ RowP W.heap.size w' v nf F ∧ Kb 0 W w'):=(fun W k=>to_code W (HA.1.keep ((HK3.1.trans HK8.1).trans k)) HBD.1 : ∀ W,_)
    have HEQ : Hid (∀ W v2,Kb 0 w8 W → RowP 0 W v2 nf F → Calls Tryz.prog 10 #[.agg #[.slice (some ⟨g,0,none⟩) nf nf],.agg #[v2]] W fun e w'=>e = .returned (.bool true) ∧ Kb 0 W w'):=(fun W v2 k h2=>eq_code W (HK8.2.1.keep k) h2 HBD.1 : ∀ W v2,_)
    have HC5 : Hid (∀ W,Kb 0 w8 W → W.cell? ⟨w5.heap.size,0,none⟩ = some (.slice (some ⟨g,0,none⟩) nf nf) ∧ W.cell? ⟨w.heap.size,0,none⟩ = some (.slice pa nf ca)):=(fun W k=>⟨k.cell c5,k.cell c0⟩ : ∀ W,_)
    clear HK7 HEQ1 d8 k8
    go_wp2_with fail
    go_region_held_law (fun W'=>W'.cell? ⟨w5.heap.size,0,none⟩ = some (.slice (some ⟨g,0,none⟩) nf nf) ∧ W'.cell? ⟨w.heap.size,0,none⟩ = some (.slice pa nf ca)) (first | exact s11 | exact s10 | exact ⟨c5,c0⟩)
      (first
        | (go_at_call 7;refine ((show ∀ W,Kb 0 w8 W → _ from HTO) _ (by exact Kb.drewN (Kb.refl _ _) 1)).mono ?_;rintro e w10 ⟨v2,rfl,o2,k10⟩;have K10 : Kb 0 w8 w10:=⟨k10.os,k10.output,k10.size,k10.block⟩;have s10:=(show ∀ W,Kb 0 w8 W → _ from HC5) w10 K10)
        | (go_at_call 10;refine ((show ∀ W v2,_ from HEQ) _ _ K10 (o2.mono (Nat.zero_le _))).mono ?_;rintro e w11 ⟨rfl,k11⟩;have K11 : Kb 0 w8 w11:=K10.trans k11;have s11:=(show ∀ W,Kb 0 w8 W → _ from HC5) w11 K11))
    have HK11 : Hid (Kb 0 w3 w11 ∧ Mst g w5.heap.size nf F w11 ∧ (0 < nR → w5.heap.size ≤ gg ∧ gg < w11.heap.size) ∧ OwnR w11 (.slice pg nR cg) gg nR (fun i=>.int .u8 ((R.getD i 0).toNat : Int))):=(⟨HK8.1.trans K11,HK8.2.2.1.kb K11,fun q=>⟨(HK8.2.2.2.2.1 q).1,Nat.lt_of_lt_of_le (HK8.2.2.2.2.1 q).2 K11.size⟩,HK8.2.2.2.2.2.kb (fun q=>K11.block gg (Nat.zero_le _) (HK8.2.2.2.2.1 (by omega)).2)⟩ : _ ∧ _)
    have c11 : w11.cell? ⟨w5.heap.size,0,none⟩ = some (.slice (some ⟨g,0,none⟩) nf nf):=s11.1
    clear c5 c0 HC5 HEQ HTO o2 k10 K10 s10 k11 K11 s11 HK8
    have HMC:=mark_code (B:=w3.heap.size) (show Bd nf F ∧ _ from HBD).1.hnp (fun i hi=>⟨(show Bd nf F ∧ _ from HBD).1.hu i hi,(show Bd nf F ∧ _ from HBD).1.hc i hi,(show Bd nf F ∧ _ from HBD).1.hn i hi,(show Bd nf F ∧ _ from HBD).1.hd i hi⟩) (show _ ∧ _ from HBD).2 (show _ ∧ _ from HGB).1 HK11.2.1
    go_wp2_with fail
    refine HMC.mono ?_
    rintro e w12 ⟨km,rfl,k12⟩
    have hkm : ¬ (km : Int) < 0:=by omega
    have HK12 : Hid (Kb 0 w3 w12 ∧ (0 < nR → w5.heap.size ≤ gg ∧ gg < w12.heap.size) ∧ OwnR w12 (.slice pg nR cg) gg nR (fun i=>.int .u8 ((R.getD i 0).toNat : Int))):=(⟨⟨k12.os.trans HK11.1.os,k12.output.trans HK11.1.output,Nat.le_trans HK11.1.size k12.size,fun b _ hb=>(k12.block b (Nat.lt_of_lt_of_le hb HK11.1.size) (Or.inl hb)).trans (HK11.1.block b (Nat.zero_le _) hb)⟩,fun q=>⟨(HK11.2.2.1 q).1,Nat.lt_of_lt_of_le (HK11.2.2.1 q).2 k12.size⟩,HK11.2.2.2.kb (fun q=>k12.block gg (HK11.2.2.1 (by omega)).2 (Or.inr (HK11.2.2.1 (by omega)).1))⟩ : _ ∧ _)
    clear HMC k12 HK11 c11
    have HEQ2:=eq_byts w12 (HK12.2.2.row) ((show ∀ W,_ from HW3) w12 HK12.1).row (show nR ≤ 1048576 from HRL)
    go_wp2_with fail
    refine HEQ2.mono ?_
    rintro e w13 ⟨rfl,d13⟩
    have k13:=kb_drewN d13
    have HK13 : Hid (Kb 0 w3 w13 ∧ (0 < nR → w5.heap.size ≤ gg ∧ gg < w13.heap.size) ∧ OwnR w13 (.slice pg nR cg) gg nR (fun i=>.int .u8 ((R.getD i 0).toNat : Int))):=(⟨HK12.1.trans k13,fun q=>⟨(HK12.2.1 q).1,Nat.lt_of_lt_of_le (HK12.2.1 q).2 k13.size⟩,HK12.2.2.kb (fun q=>k13.block gg (Nat.zero_le _) (HK12.2.1 (by omega)).2)⟩ : _ ∧ _)
    clear HEQ2 d13 k13 HK12
    have HMB:=mark_byts w13 1 HK13.2.2 (show nR ≤ 1048576 from HRL) (by omega) (by omega)
    go_wp2_with fail
    refine HMB.mono ?_
    rintro e w14 ⟨rfl,kq14,om14⟩
    have HK14 : Hid (Kb 0 w3 w14 ∧ (0 < nR → gg < w14.heap.size) ∧ OwnR w14 (.slice pg nR cg) gg nR (fun i=>.int .u8 (((1 : Int) + (i : Int)) % 256))):=(⟨⟨kq14.os.trans HK13.1.os,kq14.output.trans HK13.1.output,Nat.le_trans HK13.1.size kq14.size,fun b _ hb=>(kq14.block b (Nat.lt_of_lt_of_le hb HK13.1.size) (fun e=>by have:=(HK13.2.1 e.1).1;have:=(show _ ∧ _ from HGB).2;have:=e.2;omega)).trans (HK13.1.block b (Nat.zero_le _) hb)⟩,fun q=>Nat.lt_of_lt_of_le (HK13.2.1 q).2 kq14.size,om14⟩ : _ ∧ _)
    clear HMB kq14 om14 HK13
    have HHB:=held_byts w14 1 HK14.2.2.row (show nR ≤ 1048576 from HRL) (by omega) (by omega)
    go_wp2_with fail
    refine HHB.mono ?_
    rintro e w15 ⟨rfl,d15⟩
    have k15:=kb_drewN d15
    have hpos : ¬ (1 : Int) + (nR : Int) < 0:=by omega
    have HK15 : Hid (Kb 0 w3 w15 ∧ (0 < nR → gg < w15.heap.size) ∧ OwnR w15 (.slice pg nR cg) gg nR (fun i=>.int .u8 (((1 : Int) + (i : Int)) % 256))):=(⟨HK14.1.trans k15,fun q=>Nat.lt_of_lt_of_le (HK14.2.1 q) k15.size,HK14.2.2.kb (fun q=>k15.block gg (Nat.zero_le _) (HK14.2.1 (by omega)))⟩ : _ ∧ _)
    have c15 : w15.cell? ⟨w.heap.size,0,none⟩ = some (.slice pa nf ca):=HK15.1.cell HK3.2.1
    clear HHB d15 k15 HK14
    go_wp2_with fail
    refine (to_code w15 (HA.1.keep (HK3.1.trans HK15.1)) HBD.1).mono ?_
    rintro e w16 ⟨v16,rfl,r16,k16⟩
    have HR16 : Hid (RowP 0 w16 v16 nf F ∧ Kb 0 w15 w16):=(⟨r16.mono (Nat.zero_le _),k16⟩ : _ ∧ _)
    obtain ⟨p16,q16,rfl,-⟩:=id r16
    clear r16 k16 c15
    go_wp2_with fail
    refine ((show ∀ W v,Kb 0 w W → RowP 0 W v nf F → Bd nf F → Calls Tryz.prog 8 #[.agg #[v]] W fun e w'=>∃ v' R,e = .returned v' ∧ Img nf F R ∧ w'.ownsRow W.heap.size 5 1 v' R.length (Lib.byteCells R) ∧ Kb 0 W w' from HIM) w16 _ ((HK3.1.trans HK15.1).trans HR16.2) HR16.1 HBD.1).mono ?_
    rintro e w17 ⟨vh,R2,rfl,hans2,oh,k17⟩
    obtain rfl:=(show _ ∧ _ from HAN).1.uniq hans2
    obtain ⟨gh,hgh,oh2⟩:=own_of oh
    obtain ⟨ph,ch,rfl⟩:=(show ∃ p c,vh = .slice p R.length c from by
      rcases oh.2 with ⟨h1,h2⟩ | ⟨g,cap,cur,h1,_⟩
      · exact ⟨none,0,by rw [h2];exact h1⟩
      · exact ⟨_,cap,h1⟩)
    have K17 : Kb 0 w15 w17:=HR16.2.trans k17
    rw [← (show nR = R.length from HNR)] at oh2
    rw [← (show nR = R.length from HNR)]
    have HK17 : Hid (Kb 0 w3 w17 ∧ OwnR w17 (.slice pg nR cg) gg nR (fun i=>.int .u8 (((1 : Int) + (i : Int)) % 256)) ∧ OwnR w17 (.slice ph nR ch) gh nR (fun i=>.int .u8 ((R.getD i 0).toNat : Int))):=(⟨HK15.1.trans K17,HK15.2.2.kb (fun q=>K17.block gg (Nat.zero_le _) (HK15.2.1 (by omega))),oh2⟩ : _ ∧ _)
    clear oh hgh oh2 k17 hans2 K17 HR16 HK15 HIM
    have HEQ3:=eq_byts w17 (HK17.2.2.row) ((show ∀ W,_ from HW3) w17 HK17.1).row (show nR ≤ 1048576 from HRL)
    go_wp2_with fail
    refine HEQ3.mono ?_
    rintro e w18 ⟨rfl,d18⟩
    obtain ⟨dd,rfl⟩:=d18
    have HK18 : Hid (Kb 0 w3 (w17.drewN dd) ∧ OwnR (w17.drewN dd) (.slice pg nR cg) gg nR (fun i=>.int .u8 (((1 : Int) + (i : Int)) % 256))):=(⟨HK17.1.drewN dd,OwnR.kb (W':=w17.drewN dd) HK17.2.1 (fun _=>rfl)⟩ : _ ∧ _)
    obtain ⟨w18,hw18⟩ : ∃ w18,w18 = w17.drewN dd:=⟨_,rfl⟩
    rw [← hw18] at HK18
    rw [← hw18]
    clear HEQ3 HK17 hw18
    have HHC:=held_byts w18 1 HK18.2.row (show nR ≤ 1048576 from HRL) (by omega) (by omega)
    go_wp2_with fail
    refine HHC.mono ?_
    rintro e w19 ⟨rfl,d19⟩
    have HB19 : Hid (Kb 0 w w19):=(HK3.1.trans HK18.1).trans (kb_drewN d19)
    clear HHC d19 HK18
    go_wp2_with fail
    go_ret
    exact ⟨rfl,HB19⟩
end Go.Proofs.YtnmeemjoodoalaaGreatDoor.Fo
