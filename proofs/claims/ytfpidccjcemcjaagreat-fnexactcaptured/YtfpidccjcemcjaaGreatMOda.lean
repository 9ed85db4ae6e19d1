import Derived.Test.YtfpidccjcemcjaaGreatMZsq
import Derived.Test.YtfpidccjcemcjaaGreatMOcd
import Derived.Test.YtfpidccjcemcjaaGreatMObd
import Derived.Test.YtfpidccjcemcjaaGreatMOad
import Derived.Deep.RegionHeldLaw
set_option maxHeartbeats 16000000
namespace Go.Proofs.YtfpidccjcemcjaaGreat.Fo
open Go.ChangeShapes Go.WideShapes Go.ChangeAt Go.RowKit
set_option linter.unusedVariables false
set_option maxRecDepth 100000
theorem kb_drewN {W w':World} (h:∃ d,w'=W.drewN d):Kb 0 W w':=by
 obtain ⟨d,rfl⟩:=h
 exact (Kb.refl 0 W).drewN d
def smk (F:Nat→Fd) (i:Nat):Nat:=4+(F i).p+2*(F i).u+sm (fun j=>6+((F i).N j).p+((F i).N j).q) (F i).n
theorem smn_le (N:Nat→Nd):∀ k,sm (fun j=>6+(N j).p+(N j).q) k≤6*k+sm (szN N) k
 | 0=>Nat.zero_le _
 | k+1=>by
  have:=smn_le N k
  show sm (fun j=>6+(N j).p+(N j).q) k+(6+(N k).p+(N k).q)≤6*(k+1)+(sm (szN N) k+szN N k)
  have e:szN N k=(N k).a.x.size+(N k).p+(N k).q:=rfl
  omega
theorem smk_le {nf:Nat} {F:Nat→Fd} (h:nf+sm (szF F) nf≤1048576):sm (fun i=>4+(F i).p+2*(F i).u+sm (fun j=>6+((F i).N j).p+((F i).N j).q) (F i).n) nf≤100000000:=by
 have:∀ k,k≤nf→sm (fun i=>4+(F i).p+2*(F i).u+sm (fun j=>6+((F i).N j).p+((F i).N j).q) (F i).n) k≤4*k+6*sm (szF F) k:=by
  intro k
  induction k with
  | zero=>intro _;exact Nat.zero_le _
  | succ k ih =>
   intro hk
   have:=ih (by omega)
   show sm (fun i=>4+(F i).p+2*(F i).u+sm (fun j=>6+((F i).N j).p+((F i).N j).q) (F i).n) k+(4+(F k).p+2*(F k).u+sm (fun j=>6+((F k).N j).p+((F k).N j).q) (F k).n)≤4*(k+1)+6*(sm (szF F) k+szF F k)
   have e:szF F k=(F k).x.size+(F k).p+(F k).u+((F k).n+sm (szN (F k).N) (F k).n):=rfl
   have:=smn_le (F k).N (F k).n
   omega
 have:=this nf (Nat.le_refl _)
 omega
theorem cN_le {nf:Nat} {F:Nat→Fd} (hb:Bd nf F) (fn:Int):cN nf F fn≤1048576:=by
 by_cases h:Ans nf F 0 0 0∧0≤fn∧fn < (nf:Int)
 ·obtain ⟨h1,h2,h3⟩:=h
  obtain ⟨f,rfl⟩:∃ f:Nat,fn=(f:Int):=⟨fn.toNat,by omega⟩
  rw [cN_t h1 (by omega)]
  exact hb.hp f (by omega)
 ·rw [cN_f h];omega
theorem OwnR.slice {W:World} {v:Value} {g n:Nat} {A:Nat→Value} (h:OwnR W v g n A):∃ p c,v = .slice p n c:=by
 obtain ⟨p,c,e,_⟩:=h.sl
 exact ⟨p,c,e⟩
theorem law_cap {pa : Option Addr} {ca nf : Nat} {F : Nat → Fd} (w : World) (fn : Int) (hsp : ∀ W v, RowF 0 W v nf F → Bd nf F → Calls Tryz.prog 5 #[.agg #[v], .int .i64 fn] W fun e w' => ∃ v', e = .returned v' ∧ Cpa nf F fn W v' w') (him : ∀ W v, Kb 0 w W → RowF 0 W v nf F → Bd nf F → Calls Tryz.prog 7 #[.agg #[v], .int .i64 fn] W fun e w' => ∃ v', e = .returned v' ∧ Cpa nf F fn W v' w') (ha : RowF 0 w (.slice pa nf ca) nf F) (hn : (nf : Int) < 140737488355328) (hF : ∀ i, i < nf → RdF (F i)) :
  Calls Tryz.prog 3 #[.agg #[.slice pa nf ca],.int .i64 fn] w fun e w'=>e = .returned (.bool true)∧Kb 0 w w':=by
 have HSZ:Hid (∀ o,Calls Tryz.prog 4 #[.agg #[.slice pa nf ca],.int .i64 1048576] (w.alloc o) (Szd (nf+sm (szF F) nf) 1048576 (w.alloc o))):=(fun o=>sz_unit (w.alloc o) (ha.keep (kb_alloc _ _ _)) hn (bf_of hF):∀ o,_)
 have HA:Hid (RowF 0 w (.slice pa nf ca) nf F∧(∀ i,i < nf→RdF (F i))):=(⟨ha,hF⟩:_∧_)
 have HSP:Hid (∀ W v,RowF 0 W v nf F→Bd nf F→Calls Tryz.prog 5 #[.agg #[v],.int .i64 fn] W fun e w'=>∃ v',e = .returned v'∧Cpa nf F fn W v' w'):=hsp
 have HIM:Hid (∀ W v,Kb 0 w W→RowF 0 W v nf F→Bd nf F→Calls Tryz.prog 7 #[.agg #[v],.int .i64 fn] W fun e w'=>∃ v',e = .returned v'∧Cpa nf F fn W v' w'):=him
 obtain ⟨w0,hw0⟩:∃ w0,w0=w.alloc (.cells #[.slice pa nf ca] 24):=⟨_,rfl⟩
 have k0:Kb 0 w w0:=by rw [hw0];exact kb_alloc _ _ _
 have b0:w0.cell? ⟨w.heap.size,0,none⟩=some (.slice pa nf ca):=by rw [hw0];exact cell_of (alloc_new _ _ _) rfl
 have HS0:Hid (Calls Tryz.prog 4 #[.agg #[.slice pa nf ca],.int .i64 1048576] w0 (Szd (nf+sm (szF F) nf) 1048576 w0)):=by rw [hw0];exact (uh HSZ) _
 have HC:Hid (Kb 0 w w0∧w0.cell? ⟨w.heap.size,0,none⟩=some (.slice pa nf ca)):=(⟨k0,b0⟩:_∧_)
 have HW0:Hid (w0=w.alloc (.cells #[.slice pa nf ca] 24)):=hw0
 clear ha hn hF hsp him HSZ k0 b0 hw0
 go_enter Tryz.func3,Tryz.ntmps3
 go_wp2_with fail
 rw [← (uh HW0)]
 clear HW0
 refine (uh HS0).mono ?_
 rintro e w1 ⟨r,rfl,hr1,hr2,hr3,k1⟩
 clear HS0
 rcases Int.lt_or_le r 0 with h | h
 ·have HB:Hid (Kb 0 w w1):=HC.1.trans k1
  clear k1 hr1 HA HSP HIM HC
  go_wp2_with fail
  go_ret
  exact ⟨rfl,HB⟩
 ·have h':¬ r < 0:=by omega
  have HBD:Hid (Bd nf F∧sm (fun i=>4+(F i).p+2*(F i).u+sm (fun j=>6+((F i).N j).p+((F i).N j).q) (F i).n) nf≤100000000):=(⟨bd_of (by have:=hr1 h;omega) HA.2,smk_le (by have:=hr1 h;omega)⟩:_∧_)
  have HK1:Hid (Kb 0 w w1∧w1.cell? ⟨w.heap.size,0,none⟩=some (.slice pa nf ca)):=(⟨HC.1.trans k1,k1.cell HC.2⟩:_∧_)
  have c1:w1.cell? ⟨w.heap.size,0,none⟩=some (.slice pa nf ca):=HK1.2
  clear hr1 k1 HC
  go_wp2_with fail
  refine (to_unit w1 (HA.1.keep HK1.1) HBD.1).mono ?_
  rintro e w2 ⟨v1,rfl,r1,k2⟩
  have HK2:Hid (Kb 0 w w2∧w2.cell? ⟨w.heap.size,0,none⟩=some (.slice pa nf ca)∧RowF 0 w2 v1 nf F):=(⟨HK1.1.trans k2,k2.cell c1,r1.mono zq⟩:_∧_∧_)
  obtain ⟨p1,q1,rfl,-⟩:=id r1
  clear c1 HK1 r1 k2
  go_wp2_with fail
  refine ((uh HSP) w2 _ HK2.2.2 HBD.1).mono ?_
  rintro e w3 ⟨vw,rfl,gw,ow,hgw,kw3⟩
  have HAN:Hid (cN nf F fn≤1048576):=cN_le HBD.1 fn
  obtain ⟨pw,cw,rfl⟩:=ow.slice
  have HK3:Hid (Kb 0 w w3∧w3.cell? ⟨w.heap.size,0,none⟩=some (.slice pa nf ca)∧(0 < cN nf F fn→gw < w3.heap.size)∧OwnR w3 (.slice pw (cN nf F fn) cw) gw (cN nf F fn) (fun i=>.bool (dc (cD F fn (i:Int))))):=(⟨HK2.1.trans kw3,kw3.cell HK2.2.1,fun q=>(hgw q).2,ow⟩:_∧_)
  have c3:w3.cell? ⟨w.heap.size,0,none⟩=some (.slice pa nf ca):=HK3.2.1
  clear HK2 HSP hgw ow kw3
  go_wp2_with fail
  clear c3
  refine (to_unitT w3 (HA.1.keep HK3.1) HBD.1).mono ?_
  rintro e w5 ⟨vx,rfl,rx,k5⟩
  obtain ⟨S,g,rfl,hmst⟩:=ust_of rx
  obtain ⟨w6,hw6⟩:∃ w6,w6=w5.alloc (.cells #[.slice (some ⟨g,0,none⟩) nf nf] 30):=⟨_,rfl⟩
  have k56:Kb 0 w5 w6:=by rw [hw6];exact kb_alloc _ _ _
  have s6:w6.heap.size=w5.heap.size+1:=by rw [hw6];simp
  have HK6:Hid (Kb 0 w3 w6∧RowF 0 w6 (.slice (some ⟨g,0,none⟩) nf nf) nf F∧Ust S g w3.heap.size w5.heap.size nf F w6∧w3.heap.size≤g∧w3.heap.size≤w5.heap.size∧w5.heap.size < w6.heap.size∧w6.cell? ⟨w5.heap.size,0,none⟩=some (.slice (some ⟨g,0,none⟩) nf nf)):=(⟨k5.trans k56,(rx.row.mono zq).keep k56,hmst.km (Km.of_kb k56),hmst.gB,k5.size,by omega,by rw [hw6];exact cell_of (alloc_new _ _ _) rfl⟩:_∧_)
  have HW6:Hid (w6=w5.alloc (.cells #[.slice (some ⟨g,0,none⟩) nf nf] 30)):=hw6
  clear rx k5 k56 hw6 hmst s6
  go_wp2_with fail
  rw [← (uh HW6)]
  clear HW6
  refine ((uh HIM) w6 _ (HK3.1.trans HK6.1) HK6.2.1 HBD.1).mono ?_
  rintro e w7 ⟨vg,rfl,gg,og2,hgg,k7⟩
  obtain ⟨pg,cg,rfl⟩:=og2.slice
  have HK7:Hid (Kb 0 w3 w7∧RowF 0 w7 (.slice (some ⟨g,0,none⟩) nf nf) nf F∧Ust S g w3.heap.size w5.heap.size nf F w7∧w7.cell? ⟨w5.heap.size,0,none⟩=some (.slice (some ⟨g,0,none⟩) nf nf)∧(0 < (cN nf F fn)→w5.heap.size≤gg∧gg < w7.heap.size)∧OwnR w7 (.slice pg (cN nf F fn) cg) gg (cN nf F fn) (fun i=>.bool (dc (cD F fn (i:Int))))):=(⟨HK6.1.trans k7,HK6.2.1.keep k7,HK6.2.2.1.km (Km.of_kb k7),k7.cell HK6.2.2.2.2.2.2,fun q=>⟨by have:=(hgg q).1;have:=HK6.2.2.2.2.2.1;omega,(hgg q).2⟩,og2⟩:_∧_)
  have HGB:Hid (w3.heap.size≤g∧w3.heap.size≤w5.heap.size):=(⟨HK6.2.2.2.1,HK6.2.2.2.2.1⟩:_∧_)
  have HW3:Hid (∀ W,Kb 0 w3 W→OwnR W (.slice pw (cN nf F fn) cw) gw (cN nf F fn) (fun i=>.bool (dc (cD F fn (i:Int))))):=(fun W k=>(show OwnR w3 _ gw _ _ from HK3.2.2.2).kb (fun q=>k.block gw zq (HK3.2.2.1 (by omega))):∀ W,_)
  have HRL:Hid ((cN nf F fn)≤1048576):=HAN
  obtain ⟨nR,hnR⟩:∃ nR,nR=(cN nf F fn):=⟨_,rfl⟩
  have hnRI:(nR:Int)≤1048576:=by have:=(uh HRL);omega
  rw [← hnR] at HK7 HW3 HRL
  rw [← hnR]
  have HNR:Hid (nR=(cN nf F fn)):=hnR
  clear HK6 hgg og2 k7 hnR
  have HEQ1:=eq_bools w7 (HK7.2.2.2.2.2.row) ((uh HW3) w7 HK7.1).row (uh HRL)
  go_wp2_with fail
  refine HEQ1.mono ?_
  rintro e w8 ⟨rfl,d8⟩
  have k8:=kb_drewN d8
  have HK8:Hid (Kb 0 w3 w8∧RowF 0 w8 (.slice (some ⟨g,0,none⟩) nf nf) nf F∧Ust S g w3.heap.size w5.heap.size nf F w8∧w8.cell? ⟨w5.heap.size,0,none⟩=some (.slice (some ⟨g,0,none⟩) nf nf)∧(0 < nR→w5.heap.size≤gg∧gg < w8.heap.size)∧OwnR w8 (.slice pg nR cg) gg nR (fun i=>.bool (dc (cD F fn (i:Int))))):=(⟨HK7.1.trans k8,HK7.2.1.keep k8,HK7.2.2.1.km (Km.of_kb k8),k8.cell HK7.2.2.2.1,fun q=>⟨(HK7.2.2.2.2.1 q).1,Nat.lt_of_lt_of_le (HK7.2.2.2.2.1 q).2 k8.size⟩,HK7.2.2.2.2.2.kb (fun q=>k8.block gg zq (HK7.2.2.2.2.1 (by omega)).2)⟩:_∧_)
  have c5:w8.cell? ⟨w5.heap.size,0,none⟩=some (.slice (some ⟨g,0,none⟩) nf nf):=HK8.2.2.2.1
  have c0:w8.cell? ⟨w.heap.size,0,none⟩=some (.slice pa nf ca):=HK8.1.cell HK3.2.1
  have HTO:Hid (∀ W,Kb 0 w8 W→Calls Tryz.prog 6 #[.agg #[.slice pa nf ca]] W fun e w'=>∃ v,e = .returned (.agg #[v])∧RowF W.heap.size w' v nf F∧Kb 0 W w'):=(fun W k=>to_unit W (HA.1.keep ((HK3.1.trans HK8.1).trans k)) HBD.1:∀ W,_)
  have HEQ:Hid (∀ W v2,Kb 0 w8 W→RowF 0 W v2 nf F→Calls Tryz.prog 9 #[.agg #[.slice (some ⟨g,0,none⟩) nf nf],.agg #[v2]] W fun e w'=>e = .returned (.bool true)∧Kb 0 W w'):=(fun W v2 k h2=>eq_unit W (HK8.2.1.keep k) h2 HBD.1:∀ W v2,_)
  have HC5:Hid (∀ W,Kb 0 w8 W→W.cell? ⟨w5.heap.size,0,none⟩=some (.slice (some ⟨g,0,none⟩) nf nf)∧W.cell? ⟨w.heap.size,0,none⟩=some (.slice pa nf ca)):=(fun W k=>⟨k.cell c5,k.cell c0⟩:∀ W,_)
  clear HK7 HEQ1 d8 k8
  go_wp2_with fail
  go_region_held_law (fun W'=>W'.cell? ⟨w5.heap.size,0,none⟩=some (.slice (some ⟨g,0,none⟩) nf nf)∧W'.cell? ⟨w.heap.size,0,none⟩=some (.slice pa nf ca)) (first | exact s11 | exact s10 | exact ⟨c5,c0⟩)
   (first
    | (go_at_call 6;refine ((uh HTO) _ (by exact Kb.drewN (Kb.refl _ _) 1)).mono ?_;rintro e w10 ⟨v2,rfl,o2,k10⟩;have K10:Kb 0 w8 w10:=⟨k10.os,k10.output,k10.size,k10.block⟩;have s10:=(uh HC5) w10 K10)
    | (go_at_call 9;refine ((uh HEQ) _ _ K10 (o2.mono zq)).mono ?_;rintro e w11 ⟨rfl,k11⟩;have K11:Kb 0 w8 w11:=K10.trans k11;have s11:=(uh HC5) w11 K11))
  have HK11:Hid (Kb 0 w3 w11∧Ust S g w3.heap.size w5.heap.size nf F w11∧(0 < nR→w5.heap.size≤gg∧gg < w11.heap.size)∧OwnR w11 (.slice pg nR cg) gg nR (fun i=>.bool (dc (cD F fn (i:Int))))):=(⟨HK8.1.trans K11,HK8.2.2.1.km (Km.of_kb K11),fun q=>⟨(HK8.2.2.2.2.1 q).1,Nat.lt_of_lt_of_le (HK8.2.2.2.2.1 q).2 K11.size⟩,HK8.2.2.2.2.2.kb (fun q=>K11.block gg zq (HK8.2.2.2.2.1 (by omega)).2)⟩:_∧_)
  have c11:w11.cell? ⟨w5.heap.size,0,none⟩=some (.slice (some ⟨g,0,none⟩) nf nf):=s11.1
  clear c5 c0 HC5 HEQ HTO o2 k10 K10 s10 k11 K11 s11 HK8
  have HMC:=mark_unit (uh HBD).1.hnf HK11.2.1 (fun i hi=>⟨(uh HBD).1.hp i hi,(uh HBD).1.hu i hi,(uh HBD).1.hn i hi,fun j hj=>⟨((uh HBD).1.hN i hi j hj).1,((uh HBD).1.hN i hi j hj).2.1⟩⟩) (uh HBD).2
  go_wp2_with fail
  refine HMC.mono ?_
  rintro e w12 ⟨km,rfl,k12⟩
  have hkm:¬ (km:Int) < 0:=by omega
  have HK12:Hid (Kb 0 w3 w12∧(0 < nR→w5.heap.size≤gg∧gg < w12.heap.size)∧OwnR w12 (.slice pg nR cg) gg nR (fun i=>.bool (dc (cD F fn (i:Int))))):=(⟨⟨k12.os.trans HK11.1.os,k12.output.trans HK11.1.output,Nat.le_trans HK11.1.size k12.size,fun b _ hb=>(k12.block b (Nat.lt_of_lt_of_le hb HK11.1.size) (Or.inl hb)).trans (HK11.1.block b zq hb)⟩,fun q=>⟨(HK11.2.2.1 q).1,Nat.lt_of_lt_of_le (HK11.2.2.1 q).2 k12.size⟩,HK11.2.2.2.kb (fun q=>k12.block gg (HK11.2.2.1 (by omega)).2 (Or.inr (HK11.2.2.1 (by omega)).1))⟩:_∧_)
  clear HMC k12 HK11 c11
  have HEQ2:=eq_bools w12 (HK12.2.2.row) ((uh HW3) w12 HK12.1).row (uh HRL)
  go_wp2_with fail
  refine HEQ2.mono ?_
  rintro e w13 ⟨rfl,d13⟩
  have k13:=kb_drewN d13
  have HK13:Hid (Kb 0 w3 w13∧(0 < nR→w5.heap.size≤gg∧gg < w13.heap.size)∧OwnR w13 (.slice pg nR cg) gg nR (fun i=>.bool (dc (cD F fn (i:Int))))):=(⟨HK12.1.trans k13,fun q=>⟨(HK12.2.1 q).1,Nat.lt_of_lt_of_le (HK12.2.1 q).2 k13.size⟩,HK12.2.2.kb (fun q=>k13.block gg zq (HK12.2.1 (by omega)).2)⟩:_∧_)
  clear HEQ2 d13 k13 HK12
  have HMB:=mark_bools w13 1 HK13.2.2 (uh HRL) (by omega) (by omega)
  go_wp2_with fail
  refine HMB.mono ?_
  rintro e w14 ⟨rfl,kq14,om14⟩
  have HK14:Hid (Kb 0 w3 w14∧(0 < nR→gg < w14.heap.size)∧OwnR w14 (.slice pg nR cg) gg nR (fun i=>.bool (((1:Int)+(i:Int)) % 3 == 0))):=(⟨⟨kq14.os.trans HK13.1.os,kq14.output.trans HK13.1.output,Nat.le_trans HK13.1.size kq14.size,fun b _ hb=>(kq14.block b (Nat.lt_of_lt_of_le hb HK13.1.size) (fun e=>by have:=(HK13.2.1 e.1).1;have:=(uh HGB).2;have:=e.2;omega)).trans (HK13.1.block b zq hb)⟩,fun q=>Nat.lt_of_lt_of_le (HK13.2.1 q).2 kq14.size,om14⟩:_∧_)
  clear HMB kq14 om14 HK13
  have HHB:=held_bools w14 1 HK14.2.2.row (uh HRL) (by omega) (by omega)
  go_wp2_with fail
  refine HHB.mono ?_
  rintro e w15 ⟨rfl,d15⟩
  have k15:=kb_drewN d15
  have hpos:¬ (1:Int)+(nR:Int) < 0:=by omega
  have HK15:Hid (Kb 0 w3 w15∧(0 < nR→gg < w15.heap.size)∧OwnR w15 (.slice pg nR cg) gg nR (fun i=>.bool (((1:Int)+(i:Int)) % 3 == 0))):=(⟨HK14.1.trans k15,fun q=>Nat.lt_of_lt_of_le (HK14.2.1 q) k15.size,HK14.2.2.kb (fun q=>k15.block gg zq (HK14.2.1 (by omega)))⟩:_∧_)
  have c15:w15.cell? ⟨w.heap.size,0,none⟩=some (.slice pa nf ca):=HK15.1.cell HK3.2.1
  clear HHB d15 k15 HK14
  go_wp2_with fail
  refine (to_unit w15 (HA.1.keep (HK3.1.trans HK15.1)) HBD.1).mono ?_
  rintro e w16 ⟨v16,rfl,r16,k16⟩
  have HR16:Hid (RowF 0 w16 v16 nf F∧Kb 0 w15 w16):=(⟨r16.mono zq,k16⟩:_∧_)
  obtain ⟨p16,q16,rfl,-⟩:=id r16
  clear r16 k16 c15
  go_wp2_with fail
  refine ((uh HIM) w16 _ ((HK3.1.trans HK15.1).trans HR16.2) HR16.1 HBD.1).mono ?_
  rintro e w17 ⟨vh,rfl,gh,oh2,hgh,k17⟩
  obtain ⟨ph,ch,rfl⟩:=oh2.slice
  have K17:Kb 0 w15 w17:=HR16.2.trans k17
  rw [← (uh HNR)] at oh2
  rw [← (uh HNR)]
  have HK17:Hid (Kb 0 w3 w17∧OwnR w17 (.slice pg nR cg) gg nR (fun i=>.bool (((1:Int)+(i:Int)) % 3 == 0))∧OwnR w17 (.slice ph nR ch) gh nR (fun i=>.bool (dc (cD F fn (i:Int))))):=(⟨HK15.1.trans K17,HK15.2.2.kb (fun q=>K17.block gg zq (HK15.2.1 (by omega))),oh2⟩:_∧_)
  clear hgh oh2 k17 K17 HR16 HK15 HIM
  have HEQ3:=eq_bools w17 (HK17.2.2.row) ((uh HW3) w17 HK17.1).row (uh HRL)
  go_wp2_with fail
  refine HEQ3.mono ?_
  rintro e w18 ⟨rfl,d18⟩
  obtain ⟨dd,rfl⟩:=d18
  have HK18:Hid (Kb 0 w3 (w17.drewN dd)∧OwnR (w17.drewN dd) (.slice pg nR cg) gg nR (fun i=>.bool (((1:Int)+(i:Int)) % 3 == 0))):=(⟨HK17.1.drewN dd,OwnR.kb (W':=w17.drewN dd) HK17.2.1 (fun _=>rfl)⟩:_∧_)
  obtain ⟨w18,hw18⟩:∃ w18,w18=w17.drewN dd:=⟨_,rfl⟩
  rw [← hw18] at HK18
  rw [← hw18]
  clear HEQ3 HK17 hw18
  have HHC:=held_bools w18 1 HK18.2.row (uh HRL) (by omega) (by omega)
  go_wp2_with fail
  refine HHC.mono ?_
  rintro e w19 ⟨rfl,d19⟩
  have HB19:Hid (Kb 0 w w19):=(HK3.1.trans HK18.1).trans (kb_drewN d19)
  clear HHC d19 HK18
  go_wp2_with fail
  go_ret
  exact ⟨rfl,HB19⟩
end Go.Proofs.YtfpidccjcemcjaaGreat.Fo
