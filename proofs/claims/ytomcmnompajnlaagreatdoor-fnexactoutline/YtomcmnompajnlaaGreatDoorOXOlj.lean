import Derived.Test.YtomcmnompajnlaaGreatDoorOXOle
set_option maxRecDepth 100000
set_option maxHeartbeats 16000000
namespace Go.Proofs.YtomcmnompajnlaaGreatDoor.Fo
open Go.ChangeShapes Go.WideShapes Go.ChangeAt Go.RowKit
set_option linter.unusedVariables false
theorem of_ex (F:Nat→Gv) (n:Nat):∃ P,Of F n P∧P.length≤3000:=by
  obtain ⟨c,f,h⟩:=fl_ex2 F n
  by_cases h0:c=0
  · subst h0
    obtain ⟨hn,h3,hK,hz,_⟩:=fl_sound2 h
    have:=ol_le hK hz n (n - 1) ByteArray.empty 0 (by omega)
    exact ⟨_,.inr ⟨f,h,rfl⟩,by omega⟩
  · exact ⟨[],.inl ⟨c,f,h,h0,rfl⟩,by simp⟩
theorem Ky.owne {S:Nat→Prop} {a w:World} (h:Ky S a w) {v:Value} {g n:Nat} {A:Nat→Ev} (ho:OwnE a v g n A) (hs : 0 < n→¬ S g):OwnE w v g n A :=
  ho.block (fun hn=>h.block g (ho.lt hn) (hs hn))
theorem sp_out {v : Value} {n : Nat} {F : Nat → Gv} {P : List En} (w : World) (hf : RowF w v n F) (hn : n ≤ 1048576) (hp : ∀ i, i < n → (F i).p ≤ 1048576) (hq : ∀ i, i < n → (F i).q ≤ 1048576) (hP : Of F n P) :
    Calls Tryz.prog 20 #[.agg #[v]] w fun e w'=>∃ u,e = .returned u∧(∃ g,OwnE w' u g P.length (eva P)∧(0 < P.length→w.heap.size≤g∧g < w'.heap.size))∧Below w.heap.size w w':=by
  refine (sp_outline w hf hn hp hq hP).mono ?_
  rintro e w' ⟨u,rfl,ho,hb⟩
  exact ⟨u,rfl,own_ents ho,hb⟩
theorem im_out {v : Value} {n : Nat} {F : Nat → Gv} {P : List En} (w : World) (hg : Gd w) (hf : RowF w v n F) (hn : n ≤ 1048576) (hp : ∀ i, i < n → (F i).p ≤ 1048576) (hq : ∀ i, i < n → (F i).q ≤ 1048576) (hm : ∀ i, i < n → -9223372036854775808 ≤ (F i).a.m ∧ (F i).a.m ≤ 9223372036854775807) (hA : ∀ i, i < n → ∀ j, j < (F i).p → ((F i).A j).size ≤ 140737488355328) (hP : Of F n P) :
    Calls Tryz.prog 21 #[.agg #[v]] w fun e w'=>∃ u,e = .returned u∧(∃ g,OwnE w' u g P.length (eva P)∧(0 < P.length→w.heap.size≤g∧g < w'.heap.size))∧Kz w w':=by
  refine (im_outline w hg hf hn hp hq hm hA hP).mono ?_
  rintro e w' ⟨u,rfl,ho,hb⟩
  exact ⟨u,rfl,own_ents ho,hb⟩
theorem law_outline {pa : Option Addr} {ca n : Nat} {F : Nat → Gv} (w : World) (hg : Gd w) (ha : RowF w (.slice pa n ca) n F) (hn : (n : Int) < 140737488355328)
    (hF:∀ i,i < n→((F i).a.x.size:Int) < 140737488355328∧((F i).p:Int) < 140737488355328∧(∀ j,j < (F i).p→(((F i).A j).size:Int) < 140737488355328)∧((F i).q:Int) < 140737488355328)
    (hm:∀ i,i < n → -9223372036854775808≤(F i).a.m∧(F i).a.m≤9223372036854775807) :
    Calls Tryz.prog 5 #[.agg #[.slice pa n ca]] w fun e w'=>e = .returned (.bool true)∧Rd.Kept w w':=by
  obtain ⟨P,hP,hPl⟩:=of_ex F n
  have hAs:∀ i,i < n→∀ j,j < (F i).p→((F i).A j).size≤140737488355328:=fun i hi j hj=>by have:=(hF i hi).2.2.1 j hj;omega
  have HAS:Hid (∀ i,i < n→∀ j,j < (F i).p→((F i).A j).size≤140737488355328):=hAs
  clear hAs
  have HSZ:Hid (∀ o:Obj,Calls Tryz.prog 8 #[.agg #[.slice pa n ca],.int .i64 1048576] (w.alloc o) fun e w'=>∃ r:Int,e = .returned (.int .i64 r)∧(0≤r→(n:Int)+(smr F n:Int)≤1048576) ∧ -1≤r∧r≤1048576∧Below (w.alloc o).heap.size (w.alloc o) w'):=(fun o=>sz_sheet (w.alloc o) (ha.below (bel1 _ _)) hn hF:∀ o:Obj,_)
  have HA:Hid (RowF w (.slice pa n ca) n F∧Gd w∧(∀ i,i < n → -9223372036854775808≤(F i).a.m∧(F i).a.m≤9223372036854775807)∧Of F n P∧P.length≤3000):=(⟨ha,hg,hm,hP,by omega⟩:_∧_∧_∧_∧_)
  clear ha hn hF hg hm hP hPl
  go_enter Tryz.func5,Tryz.ntmps5
  go_wp2_with fail
  refine ((show ∀ o:Obj,_ from HSZ) _).mono ?_
  rintro e w1 ⟨r,rfl,hr1,hr2,hr3,hb1⟩
  clear HSZ
  have B1:Kz w w1:=.of_below ((bel1 w _).trans (hb1.mono (by simp)))
  rcases Int.lt_or_le r 0 with h | h
  · have HB:Hid (Kz w w1):=B1
    clear B1 hb1 hr1 HA
    go_wp2_with fail
    go_ret
    exact ⟨rfl,(show Kz w w1 from HB).kept⟩
  · have h':¬ r < 0:=by omega
    have hsum:n+smr F n≤1048576:=by have:=hr1 h;omega
    have HS:Hid (n+smr F n≤1048576):=hsum
    have c0:w1.cell? ⟨w.heap.size,0,none⟩=some (.slice pa n ca):=cell_keepz (.of_below hb1) (cell_new1 w _ 24)
    have HK1:Hid (Kz w w1∧w1.cell? ⟨w.heap.size,0,none⟩=some (.slice pa n ca)):=(⟨B1,c0⟩:_∧_)
    clear hr1 hsum hb1 B1
    go_wp2_with fail
    refine (to_sheet w1 (HA.1.kz HK1.1) HS).mono ?_
    rintro e w2 ⟨v1,g1,t1,rfl,o1,hb2⟩
    have k2:Kz w1 w2:=.of_below hb2
    have HK2:Hid (Kz w w2∧w2.cell? ⟨w.heap.size,0,none⟩=some (.slice pa n ca)∧RowF w2 v1 n F):=(⟨HK1.1.trans k2,cell_keepz k2 HK1.2,o1.row⟩:_∧_∧_)
    obtain ⟨p1,q1,rfl,_⟩:=o1.sl
    clear c0 HK1 o1 hb2 k2
    go_wp2_with fail
    refine (sp_out w2 HK2.2.2 (by have:=(show n+smr F n≤1048576 from HS);omega) (smr_p HS).1 (smr_p HS).2 HA.2.2.2.1).mono ?_
    rintro e w3 ⟨uw,rfl,⟨gw,hgw1,hgw2⟩,hb3⟩
    have k3:Kz w2 w3:=.of_below hb3
    have HK3:Hid (Kz w w3∧w3.cell? ⟨w.heap.size,0,none⟩=some (.slice pa n ca)∧OwnE w3 uw gw P.length (eva P)∧(0 < P.length→gw < w3.heap.size)∧w.heap.size < w3.heap.size):=(⟨HK2.1.trans k3,cell_keepz k3 HK2.2.1,hgw1,fun hp=>(hgw2 hp).2,lt_of_cell (cell_keepz k3 HK2.2.1)⟩:_∧_∧_∧_∧_)
    obtain ⟨pw,kw,rfl,_⟩:=hgw1.sl
    have c0:w3.cell? ⟨w.heap.size,0,none⟩=some (.slice pa n ca):=HK3.2.1
    clear HK2 hgw1 hgw2 hb3 k3
    go_wp2_with fail
    refine (to_sheet w3 (HA.1.kz HK3.1) HS).mono ?_
    rintro e w4 ⟨vx,gx,tx',rfl,ox,hb4⟩
    obtain ⟨px,kx,rfl,_⟩:=ox.sl
    have k4:Kz w3 w4:=.of_below hb4
    obtain ⟨W5,hW5⟩:∃ W5,W5=w4.alloc (.cells #[.slice px n kx] 31):=⟨_,rfl⟩
    have k5:Kz w4 W5:=by rw [hW5];exact .of_below (bel1 _ _)
    have z5:W5.heap.size=w4.heap.size+1:=by rw [hW5];simp
    have k35:=k4.trans k5
    have o3:=(show Kz w w3∧w3.cell? ⟨w.heap.size,0,none⟩=some (.slice pa n ca)∧OwnE w3 (.slice pw P.length kw) gw P.length (eva P)∧(0 < P.length→gw < w3.heap.size)∧w.heap.size < w3.heap.size from HK3)
    have HK5:Hid (Kz w W5∧W5.cell? ⟨w.heap.size,0,none⟩=some (.slice pa n ca)∧OwnE W5 (.slice pw P.length kw) gw P.length (eva P)∧(0 < P.length→gw < w3.heap.size)∧w.heap.size < w3.heap.size∧OwnF W5 (.slice px n kx) gx n F tx' w3.heap.size w4.heap.size∧W5.cell? ⟨w4.heap.size,0,none⟩=some (.slice px n kx)∧W5.heap.size=w4.heap.size+1∧w3.heap.size≤w4.heap.size) :=
      (⟨o3.1.trans k35,cell_keepz k35 o3.2.1,(Ky.of_kz (S:=fun _=>False) k35).owne o3.2.2.1 (fun _ f=>f),o3.2.2.2.1,o3.2.2.2.2,ox.keep (fun b _ _ h3=>k5.block b h3),by rw [hW5];exact cell_new1 _ _ _,z5,k4.size⟩:_∧_∧_∧_∧_∧_∧_∧_∧_)
    clear HK3 ox hb4 k4 k5 k35 z5 o3 c0
    go_wp2_with fail
    rw [← hW5]
    clear hW5
    refine (im_out W5 (HK5.1.gd HA.2.1) HK5.2.2.2.2.2.1.row (by have:=(show n+smr F n≤1048576 from HS);omega) (smr_p HS).1 (smr_p HS).2 HA.2.2.1 HAS HA.2.2.2.1).mono ?_
    rintro e w6 ⟨ug,rfl,⟨gg,hgg1,hgg2⟩,k6⟩
    obtain ⟨pg,kg,rfl,_⟩:=hgg1.sl
    have HSD:Hid (∀ k,((w3.heap.size≤k∧k < w4.heap.size)∨(0 < P.length∧k=gg))→w.heap.size≤k∧k ≠ w.heap.size∧k ≠ w4.heap.size∧(0 < P.length→k ≠ gw)):=(fun k hk=>by
      have y1:=HK5.2.2.2.1
      have y2:=HK5.2.2.2.2.1
      have y3:=HK5.2.2.2.2.2.2.2.1
      have y4:=HK5.2.2.2.2.2.2.2.2
      rcases hk with hk | ⟨hp,rfl⟩
      · exact ⟨by omega,by omega,by omega,fun hp=>by have:=y1 hp;omega⟩
      · have:=hgg2 hp
        exact ⟨by omega,by omega,by omega,fun hp=>by have:=y1 hp;omega⟩:∀ k,_)
    have HK6:Hid (Kz w w6∧w6.cell? ⟨w.heap.size,0,none⟩=some (.slice pa n ca)∧OwnE w6 (.slice pw P.length kw) gw P.length (eva P)∧OwnE w6 (.slice pg P.length kg) gg P.length (eva P)∧OwnF w6 (.slice px n kx) gx n F tx' w3.heap.size w4.heap.size∧w6.cell? ⟨w4.heap.size,0,none⟩=some (.slice px n kx)∧w4.heap.size < w6.heap.size∧(0 < P.length→w4.heap.size < gg)) :=
      (⟨HK5.1.trans k6,cell_keepz k6 HK5.2.1,(Ky.of_kz (S:=fun _=>False) k6).owne HK5.2.2.1 (fun _ f=>f),hgg1,HK5.2.2.2.2.2.1.keep (fun b _ _ h3=>k6.block b h3),cell_keepz k6 HK5.2.2.2.2.2.2.1,by have:=k6.size;have:=HK5.2.2.2.2.2.2.2.1;omega,fun hp=>by have:=(hgg2 hp).1;have:=HK5.2.2.2.2.2.2.2.1;omega⟩:_∧_∧_∧_∧_∧_∧_∧_)
    clear HK5 hgg1 hgg2 k6
    go_wp2_with fail
    refine (eq_ents w6 HK6.2.2.2.1 HK6.2.2.1 (by have:=(show P.length≤3000 from HA.2.2.2.2);omega)).mono ?_
    rintro e W7 ⟨rfl,k7⟩
    have HK7:Hid (Kz w6 W7):=k7
    have c5:W7.cell? ⟨w4.heap.size,0,none⟩=some (.slice px n kx):=cell_keepz k7 HK6.2.2.2.2.2.1
    have c0:W7.cell? ⟨w.heap.size,0,none⟩=some (.slice pa n ca):=cell_keepz k7 HK6.2.1
    have HTO:Hid (∀ W,Kz W7 W→Calls Tryz.prog 10 #[.agg #[.slice pa n ca]] W fun e w'=>∃ v g t,e = .returned (.agg #[v])∧OwnF w' v g n F t W.heap.size w'.heap.size∧Below W.heap.size W w'):=(fun W hb=>to_sheet W (HA.1.kz ((HK6.1.trans HK7).trans hb)) HS:∀ W,_)
    have HEQ:Hid (∀ W v2,Kz W7 W→RowF W v2 n F→Calls Tryz.prog 13 #[.agg #[.slice px n kx],.agg #[v2]] W fun e w'=>e = .returned (.bool true)∧Below W.heap.size W w'):=(fun W v2 hb h2=>eq_sheet W (HK6.2.2.2.2.1.row.kz ((show Kz w6 W7 from HK7).trans hb)) h2 HS:∀ W v2,_)
    have HC5:Hid (∀ W,Kz W7 W→W.cell? ⟨w4.heap.size,0,none⟩=some (.slice px n kx)∧W.cell? ⟨w.heap.size,0,none⟩=some (.slice pa n ca)):=(fun W hb=>⟨cell_keepz hb c5,cell_keepz hb c0⟩:∀ W,_)
    clear k7
    go_wp2_with fail
    go_region_held_law (fun W'=>W'.cell? ⟨w4.heap.size,0,none⟩=some (.slice px n kx)∧W'.cell? ⟨w.heap.size,0,none⟩=some (.slice pa n ca)) (first | exact s11 | exact s10 | exact ⟨c5,c0⟩)
      (first
        | (go_at_call 10;refine ((show ∀ W,Kz W7 W→_ from HTO) _ (by exact Kz.drewN (Kz.refl _) 1)).mono ?_;rintro e w8 ⟨v2,g2,t2,rfl,o2,hb10⟩;have K10:Kz W7 w8:=⟨hb10.os,hb10.output,hb10.size,hb10.block⟩;have s10:=(show ∀ W,Kz W7 W→_ from HC5) w8 K10)
        | (go_at_call 13;refine ((show ∀ W v2,_ from HEQ) _ _ K10 o2.row).mono ?_;rintro e w9 ⟨rfl,hb11⟩;have K11:Kz W7 w9:=K10.trans (.of_below hb11);have s11:=(show ∀ W,Kz W7 W→_ from HC5) w9 K11))
    have k9:Kz w6 w9:=(show Kz w6 W7 from HK7).trans K11
    have HK9:Hid (Kz w6 w9):=k9
    clear c5 c0 HC5 HEQ HTO o2 hb10 K10 s10 hb11 K11 s11 HK7
    have c5:w9.cell? ⟨w4.heap.size,0,none⟩=some (.slice px n kx):=cell_keepz k9 HK6.2.2.2.2.2.1
    have HMK:Hid (Calls Tryz.prog 17 #[.agg #[.slice px n kx],.int .i64 1] w9 fun e w'=>e = .returned (.int .i64 (kst F 1 n:Int))∧Kq (fun b=>w3.heap.size≤b∧b < w4.heap.size) w9 w'∧OwnF w' (.slice px n kx) gx n (mkf F 1) tx' w3.heap.size w4.heap.size):=mark_sheet w9 (HK6.2.2.2.2.1.keep (fun b _ _ h3=>k9.block b h3)) HS (by have:=k9.size;have:=HK6.2.2.2.2.2.2.1;omega)
    clear k9
    go_wp2_with fail
    refine (show Calls Tryz.prog 17 #[.agg #[.slice px n kx],.int .i64 1] w9 _ from HMK).mono ?_
    rintro e w10 ⟨rfl,hq10,_⟩
    obtain ⟨S,hS⟩:∃ S:Nat→Prop,S=fun k=>(w3.heap.size≤k∧k < w4.heap.size)∨(0 < P.length∧k=gg):=⟨_,rfl⟩
    have y10:Ky S w6 w10:=(Ky.of_kz HK9).trans (Ky.of_kq hq10 (fun k hk=>by rw [hS];exact .inl hk))
    have ow10:OwnE w10 (.slice pw P.length kw) gw P.length (eva P):=y10.owne HK6.2.2.1 (fun hp f=>by rw [hS] at f;exact ((show ∀ k,_→_ from HSD) gw f).2.2.2 hp rfl)
    have og10:OwnE w10 (.slice pg P.length kg) gg P.length (eva P):=((Ky.of_kz (S:=fun k=>w3.heap.size≤k∧k < w4.heap.size) HK9).trans (Ky.of_kq hq10 (fun k hk=>hk))).owne HK6.2.2.2.1 (fun hp f=>by have:=HK6.2.2.2.2.2.2.2 hp;omega)
    have HK10:Hid (Ky S w6 w10∧OwnE w10 (.slice pw P.length kw) gw P.length (eva P)∧OwnE w10 (.slice pg P.length kg) gg P.length (eva P)):=(⟨y10,ow10,og10⟩:_∧_∧_)
    have HSS:Hid (S=fun k=>(w3.heap.size≤k∧k < w4.heap.size)∨(0 < P.length∧k=gg)):=hS
    clear hq10 y10 ow10 og10 HMK c5 HK9 hS
    obtain ⟨kk,hkk⟩:∃ kk,kk=kst F 1 n:=⟨_,rfl⟩
    rw [← hkk]
    clear hkk
    have hkn:¬ ((kk:Int) < 0):=by omega
    go_wp2_with fail
    refine (eq_ents w10 HK10.2.2 HK10.2.1 (by have:=(show P.length≤3000 from HA.2.2.2.2);omega)).mono ?_
    rintro e w11 ⟨rfl,k11⟩
    have HK11:Hid (Kz w10 w11):=k11
    have og11:=(Ky.of_kz (S:=fun _=>False) k11).owne HK10.2.2 (fun _ f=>f)
    clear k11
    have HMK:Hid (Calls Tryz.prog 23 #[.slice pg P.length kg,.int .i64 1] w11 fun e w'=>e = .returned (.int .i64 (1+4*(P.length:Int)))∧Ky (fun j=>0 < P.length∧j=gg) w11 w'∧OwnE w' (.slice pg P.length kg) gg P.length mkE):=mark_ents w11 og11 HA.2.2.2.2
    clear og11
    go_wp2_with fail
    refine (show Calls Tryz.prog 23 #[.slice pg P.length kg,.int .i64 1] w11 _ from HMK).mono ?_
    rintro e w12 ⟨rfl,hq12,og12⟩
    have y12:Ky S w6 w12:=HK10.1.trans ((Ky.of_kz HK11).trans ⟨hq12.os,hq12.output,hq12.size,fun k hk hn=>hq12.block k hk (fun f=>hn (by rw [show S = _ from HSS];exact .inr f))⟩)
    have ow12:OwnE w12 (.slice pw P.length kw) gw P.length (eva P):=y12.owne HK6.2.2.1 (fun hp f=>by rw [show S = _ from HSS] at f;exact ((show ∀ k,_→_ from HSD) gw f).2.2.2 hp rfl)
    have k12:Kz w w12:=Ky.kz HK6.1 y12 (fun i hi=>by rw [show S = _ from HSS] at hi;exact ((show ∀ k,_→_ from HSD) i hi).1)
    have cz12:w12.cell? ⟨w.heap.size,0,none⟩=some (.slice pa n ca):=y12.cell HK6.2.1 (fun hi=>by rw [show S = _ from HSS] at hi;exact ((show ∀ k,_→_ from HSD) _ hi).2.1 rfl)
    have HK12:Hid (Kz w w12∧w12.cell? ⟨w.heap.size,0,none⟩=some (.slice pa n ca)∧OwnE w12 (.slice pw P.length kw) gw P.length (eva P)∧OwnE w12 (.slice pg P.length kg) gg P.length mkE):=(⟨k12,cz12,ow12,og12⟩:_∧_∧_∧_)
    clear hq12 og12 y12 ow12 k12 cz12 HMK HK10 HK11 HSS HSD HK6
    obtain ⟨mm,hmm⟩:∃ mm,mm=1+4*(P.length:Int):=⟨_,rfl⟩
    have hmn:¬ mm < 0:=by omega
    have HHE:Hid (∀ W,Kz w12 W→Calls Tryz.prog 24 #[.slice pg P.length kg,.int .i64 1] W fun e w'=>e = .returned (.int .i64 mm)∧Kz W w'):=(fun W hb=>by rw [hmm];exact held_ents W ((Ky.of_kz (S:=fun _=>False) hb).owne HK12.2.2.2 (fun _ f=>f)) HA.2.2.2.2:∀ W,_)
    rw [← hmm]
    clear hmm
    go_wp2_with fail
    refine ((show ∀ W,Kz w12 W→_ from HHE) w12 (Kz.refl _)).mono ?_
    rintro e w13 ⟨rfl,k13⟩
    have c0:w13.cell? ⟨w.heap.size,0,none⟩=some (.slice pa n ca):=cell_keepz k13 HK12.2.1
    have HK13:Hid (Kz w12 w13):=k13
    clear k13
    go_wp2_with fail
    refine (to_sheet w13 (HA.1.kz (HK12.1.trans HK13)) HS).mono ?_
    rintro e w14 ⟨vy,gy,ty,rfl,oy,hb14⟩
    obtain ⟨py,ky,rfl,_⟩:=oy.sl
    have k14:Kz w12 w14:=(show Kz w12 w13 from HK13).trans (.of_below hb14)
    have HK14:Hid (Kz w12 w14∧RowF w14 (.slice py n ky) n F):=(⟨k14,oy.row⟩:_∧_)
    clear hb14 oy c0 k14 HK13
    go_wp2_with fail
    refine (im_out w14 ((HK12.1.trans HK14.1).gd HA.2.1) HK14.2 (by have:=(show n+smr F n≤1048576 from HS);omega) (smr_p HS).1 (smr_p HS).2 HA.2.2.1 HAS HA.2.2.2.1).mono ?_
    rintro e w15 ⟨uh,rfl,⟨gh,hgh1,_⟩,k15⟩
    obtain ⟨ph,kh,rfl,_⟩:=hgh1.sl
    have k15':Kz w12 w15:=HK14.1.trans k15
    have HK15:Hid (Kz w12 w15∧OwnE w15 (.slice ph P.length kh) gh P.length (eva P)∧OwnE w15 (.slice pw P.length kw) gw P.length (eva P)):=(⟨k15',hgh1,(Ky.of_kz (S:=fun _=>False) k15').owne HK12.2.2.1 (fun _ f=>f)⟩:_∧_∧_)
    clear hgh1 k15 k15' HK14
    go_wp2_with fail
    refine (eq_ents w15 HK15.2.1 HK15.2.2 (by have:=(show P.length≤3000 from HA.2.2.2.2);omega)).mono ?_
    rintro e w16 ⟨rfl,k16⟩
    have HK16:Hid (Kz w12 w16):=(show Kz w12 w15 from HK15.1).trans k16
    clear HK15 k16
    go_wp2_with fail
    refine ((show ∀ W,Kz w12 W→_ from HHE) w16 HK16).mono ?_
    rintro e w17 ⟨rfl,k17⟩
    have HB17:Hid (Kz w w17):=((show Kz w w12 from HK12.1).trans HK16).trans k17
    clear HHE HK12 HK16 k17
    go_wp2_with fail
    go_ret
    exact ⟨rfl,(show Kz w _ from HB17).kept⟩
end Go.Proofs.YtomcmnompajnlaaGreatDoor.Fo
