import Derived.Test.YtjakooihcbdcaaaDoorMCdd
import Derived.Test.YtjakooihcbdcaaaDoorMLda
import Derived.Deep.RegionHeldLaw
set_option maxHeartbeats 16000000
namespace Go.Proofs.YtjakooihcbdcaaaDoor.Fo
open Go.ChangeShapes Go.WideShapes Go.ChangeAt Go.RowKit
set_option linter.unusedVariables false
set_option maxRecDepth 100000
theorem law_ls {pa : Option Addr} {ca nf : Nat} {F : Nat → Pd} (w : World) (hsp : ∀ W v, RowP 0 W v nf F → Bd nf F → Calls Tryd.prog 5 #[.agg #[v]] W fun e w' => ∃ T, e = .returned (.string T) ∧ Lst nf F T ∧ Kb 0 W w') (him : ∀ W v, Kb 0 w W → RowP 0 W v nf F → Bd nf F → Calls Tryd.prog 7 #[.agg #[v]] W fun e w' => ∃ T, e = .returned (.string T) ∧ Lst nf F T ∧ Kb 0 W w') (ha : RowP 0 w (.slice pa nf ca) nf F) (hn : (nf : Int) < 140737488355328) (hF : ∀ i, i < nf → RdP (F i)) :
    Calls Tryd.prog 3 #[.agg #[.slice pa nf ca]] w fun e w'=>e = .returned (.bool true) ∧ Kb 0 w w':=by
  have HSZ : Hid (∀ o,Calls Tryd.prog 4 #[.agg #[.slice pa nf ca],.int .i64 1048576] (w.alloc o) (Szd (nf + sm (szP F) nf) 1048576 (w.alloc o))):=(fun o=>sz_code (w.alloc o) (ha.keep (kb_alloc _ _ _)) hn (bf_of hF) : ∀ o,_)
  have HA : Hid (RowP 0 w (.slice pa nf ca) nf F ∧ (∀ i,i < nf → RdP (F i))):=(⟨ha,hF⟩ : _ ∧ _)
  have HSP : Hid (∀ W v,RowP 0 W v nf F → Bd nf F → Calls Tryd.prog 5 #[.agg #[v]] W fun e w'=>∃ T,e = .returned (.string T) ∧ Lst nf F T ∧ Kb 0 W w'):=hsp
  have HIM : Hid (∀ W v,Kb 0 w W → RowP 0 W v nf F → Bd nf F → Calls Tryd.prog 7 #[.agg #[v]] W fun e w'=>∃ T,e = .returned (.string T) ∧ Lst nf F T ∧ Kb 0 W w'):=him
  obtain ⟨w0,hw0⟩ : ∃ w0,w0 = w.alloc (.cells #[.slice pa nf ca] 24):=⟨_,rfl⟩
  have k0 : Kb 0 w w0:=by rw [hw0];exact kb_alloc _ _ _
  have b0 : w0.cell? ⟨w.heap.size,0,none⟩ = some (.slice pa nf ca):=by rw [hw0];exact cell_of (alloc_new _ _ _) rfl
  have HS0 : Hid (Calls Tryd.prog 4 #[.agg #[.slice pa nf ca],.int .i64 1048576] w0 (Szd (nf + sm (szP F) nf) 1048576 w0)):=by rw [hw0];exact (show ∀ o,_ from HSZ) _
  have HC : Hid (Kb 0 w w0 ∧ w0.cell? ⟨w.heap.size,0,none⟩ = some (.slice pa nf ca)):=(⟨k0,b0⟩ : _ ∧ _)
  have HW0 : Hid (w0 = w.alloc (.cells #[.slice pa nf ca] 24)):=hw0
  clear ha hn hF hsp him HSZ k0 b0 hw0
  go_enter Tryd.func3,Tryd.ntmps3
  go_wp2_with fail
  rw [← (show w0 = _ from HW0)]
  clear HW0
  refine (show Calls Tryd.prog 4 #[.agg #[.slice pa nf ca],.int .i64 1048576] w0 (Szd (nf + sm (szP F) nf) 1048576 w0) from HS0).mono ?_
  rintro e w1 ⟨r,rfl,hr1,hr2,hr3,k1⟩
  clear HS0
  rcases Int.lt_or_le r 0 with h | h
  · have HB : Hid (Kb 0 w w1):=HC.1.trans k1
    clear k1 hr1 HA HSP HIM HC
    go_wp2_with fail
    go_ret
    exact ⟨rfl,HB⟩
  · have h' : ¬ r < 0:=by omega
    have HBD : Hid (Bd nf F):=bd_of (by have:=hr1 h;omega) HA.2
    have HK1 : Hid (Kb 0 w w1 ∧ w1.cell? ⟨w.heap.size,0,none⟩ = some (.slice pa nf ca)):=(⟨HC.1.trans k1,k1.cell HC.2⟩ : _ ∧ _)
    have c1 : w1.cell? ⟨w.heap.size,0,none⟩ = some (.slice pa nf ca):=HK1.2
    clear hr1 k1 HC
    go_wp2_with fail
    refine (to_code w1 (HA.1.keep HK1.1) HBD).mono ?_
    rintro e w2 ⟨v1,rfl,r1,k2⟩
    have HK2 : Hid (Kb 0 w w2 ∧ w2.cell? ⟨w.heap.size,0,none⟩ = some (.slice pa nf ca) ∧ RowP 0 w2 v1 nf F):=(⟨HK1.1.trans k2,k2.cell c1,r1.mono (Nat.zero_le _)⟩ : _ ∧ _ ∧ _)
    obtain ⟨p1,q1,rfl,-⟩:=id r1
    clear c1 HK1 r1 k2
    go_wp2_with fail
    refine ((show ∀ W v,RowP 0 W v nf F → Bd nf F → Calls Tryd.prog 5 #[.agg #[v]] W fun e w'=>∃ T,e = .returned (.string T) ∧ Lst nf F T ∧ Kb 0 W w' from HSP) w2 _ HK2.2.2 HBD).mono ?_
    rintro e w3 ⟨T,rfl,hans,k3⟩
    have HAN : Hid (Lst nf F T):=hans
    have HK4 : Hid (Kb 0 w w3 ∧ w3.cell? ⟨w.heap.size,0,none⟩ = some (.slice pa nf ca)):=(⟨HK2.1.trans k3,k3.cell HK2.2.1⟩ : _ ∧ _)
    have c3 : w3.cell? ⟨w.heap.size,0,none⟩ = some (.slice pa nf ca):=HK4.2
    clear HK2 HSP hans k3
    go_wp2_with fail
    clear c3
    refine (to_code w3 (HA.1.keep HK4.1) HBD).mono ?_
    rintro e w5 ⟨vx,rfl,rx,k5⟩
    obtain ⟨px,qx,rfl,-⟩:=id rx
    obtain ⟨w6,hw6⟩ : ∃ w6,w6 = w5.alloc (.cells #[.slice px nf qx] 29):=⟨_,rfl⟩
    have k6 : Kb 0 w3 w6:=by rw [hw6];exact k5.trans (kb_alloc _ _ _)
    have HK6 : Hid (Kb 0 w w6 ∧ RowP 0 w6 (.slice px nf qx) nf F ∧ w6.cell? ⟨w.heap.size,0,none⟩ = some (.slice pa nf ca) ∧ w6.cell? ⟨w5.heap.size,0,none⟩ = some (.slice px nf qx)):=(⟨HK4.1.trans k6,by rw [hw6];exact (rx.mono (Nat.zero_le _)).keep (kb_alloc _ _ _),k6.cell HK4.2,by rw [hw6];exact cell_of (alloc_new _ _ _) rfl⟩ : _ ∧ _)
    have HW6 : Hid (w6 = w5.alloc (.cells #[.slice px nf qx] 29)):=hw6
    clear HK4 rx k5 k6 hw6
    go_wp2_with fail
    rw [← (show w6 = _ from HW6)]
    clear HW6
    refine ((show ∀ W v,Kb 0 w W → RowP 0 W v nf F → Bd nf F → Calls Tryd.prog 7 #[.agg #[v]] W fun e w'=>∃ T,e = .returned (.string T) ∧ Lst nf F T ∧ Kb 0 W w' from HIM) w6 _ HK6.1 HK6.2.1 HBD).mono ?_
    rintro e w9 ⟨T',rfl,hans',k7⟩
    obtain rfl:=(show Lst nf F T from HAN).uniq hans'
    have HK9 : Hid (Kb 0 w w9 ∧ RowP 0 w9 (.slice pa nf ca) nf F ∧ RowP 0 w9 (.slice px nf qx) nf F):=(⟨HK6.1.trans k7,HA.1.keep (HK6.1.trans k7),HK6.2.1.keep k7⟩ : _ ∧ _)
    have c5 : w9.cell? ⟨w5.heap.size,0,none⟩ = some (.slice px nf qx):=k7.cell HK6.2.2.2
    have c0 : w9.cell? ⟨w.heap.size,0,none⟩ = some (.slice pa nf ca):=k7.cell HK6.2.2.1
    have HTO : Hid (∀ W,Kb 0 w9 W → Calls Tryd.prog 6 #[.agg #[.slice pa nf ca]] W fun e w'=>∃ v,e = .returned (.agg #[v]) ∧ RowP W.heap.size w' v nf F ∧ Kb 0 W w'):=(fun W k=>to_code W (HK9.2.1.keep k) HBD : ∀ W,_)
    have HEQ : Hid (∀ W v2,Kb 0 w9 W → RowP 0 W v2 nf F → Calls Tryd.prog 8 #[.agg #[.slice px nf qx],.agg #[v2]] W fun e w'=>e = .returned (.bool true) ∧ Kb 0 W w'):=(fun W v2 k h2=>eq_code W (HK9.2.2.keep k) h2 HBD : ∀ W v2,_)
    have HC5 : Hid (∀ W,Kb 0 w9 W → W.cell? ⟨w5.heap.size,0,none⟩ = some (.slice px nf qx) ∧ W.cell? ⟨w.heap.size,0,none⟩ = some (.slice pa nf ca)):=(fun W k=>⟨k.cell c5,k.cell c0⟩ : ∀ W,_)
    clear HK6 k7 hans' HAN HIM
    go_wp2_with fail
    go_region_held_law (fun W'=>W'.cell? ⟨w5.heap.size,0,none⟩ = some (.slice px nf qx) ∧ W'.cell? ⟨w.heap.size,0,none⟩ = some (.slice pa nf ca)) (first | exact s11 | exact s10 | exact ⟨c5,c0⟩)
      (first
        | (go_at_call 6;refine ((show ∀ W,Kb 0 w9 W → _ from HTO) _ (by exact Kb.drewN (Kb.refl _ _) 1)).mono ?_;rintro e w10 ⟨v2,rfl,o2,k10⟩;have K10 : Kb 0 w9 w10:=⟨k10.os,k10.output,k10.size,k10.block⟩;have s10:=(show ∀ W,Kb 0 w9 W → _ from HC5) w10 K10)
        | (go_at_call 8;refine ((show ∀ W v2,_ from HEQ) _ _ K10 (o2.mono (Nat.zero_le _))).mono ?_;rintro e w11 ⟨rfl,k11⟩;have K11 : Kb 0 w9 w11:=K10.trans k11;have s11:=(show ∀ W,Kb 0 w9 W → _ from HC5) w11 K11))
    have HB11 : Hid (Kb 0 w w11):=HK9.1.trans K11
    clear c5 c0 HC5 HEQ HTO o2 k10 K10 s10 k11 K11 s11
    go_wp2_with fail
    go_ret
    exact ⟨rfl,HB11⟩
theorem nm_at (n : Nat) (h : n < 43) : ((opl.map Value.string).toArray)[n]? = some (.string (opn n)):=by
  have hl : opl.length = 43:=rfl
  unfold opn
  simp [List.getD,hl,h]
theorem sp_name (n : Nat) (h : n < 43) (w : World) : Calls Tryd.prog 12 #[.int .i64 (n : Int)] w fun e w'=>e = .returned (.string (opn n)) ∧ Kb 0 w w':=by
  have hI : (n : Int) < 43:=by omega
  have hI0 : ¬ (n : Int) < 0:=by omega
  have hnm:=nm_at n h
  clear h
  generalize opn n = T at *
  have HN : Hid (((opl.map Value.string).toArray)[n]? = some (.string T)):=hnm
  clear hnm
  go_enter Tryd.func12,Tryd.ntmps12
  go_upto_region 2 with fail
  generalize hw : World.alloc w _ = w1
  have hc : w1.cell? ⟨w.heap.size,n,none⟩ = some (.string T):=by rw [← hw];exact cell_of (alloc_new _ _ _) (show ((opl.map Value.string).toArray)[n]? = some (.string T) from HN)
  have HK : Hid (Kb 0 w w1):=by rw [← hw];exact kb_alloc _ _ _
  clear hw HN
  go_wp2_with fail
  go_ret
  exact ⟨rfl,HK⟩
end Go.Proofs.YtjakooihcbdcaaaDoor.Fo
