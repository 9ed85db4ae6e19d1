import Derived.Test.YtjakooihcbdcaaaGreatDoorMZsq
import Derived.Test.YtjakooihcbdcaaaGreatDoorMTme
set_option maxHeartbeats 16000000
namespace Go.Proofs.YtjakooihcbdcaaaGreatDoor.Fo
open Go.ChangeShapes Go.WideShapes Go.ChangeAt Go.RowKit
set_option linter.unusedVariables false
set_option maxRecDepth 100000
theorem ch_34 {av : Nat → Prop} {vg : Value} {G : List Gv} (a : Iv) (w : World) (h1 : Rg av w vg G) (hn : G.length ≤ 50) (hop : a.o = 34) (hk : 0 ≤ a.a) :
  Calls Tryz.prog 62 #[.agg #[.int .i64 a.o,.int .i64 a.a,.int .i64 a.b,.int .i64 a.c,.int .i64 a.d],vg] w (ChA a G w):=by
 obtain ⟨o,oa,ob,oc,od⟩:=a;dsimp only at hop;subst hop;by_cases hnil:G = []
 ·subst hnil;have hF:dc (gfit ⟨34,oa,ob,oc,od⟩ [])=false:=dc_f (by unfold gfit;simp [dfr]);have HNF:Hid (¬ gfit ⟨34,oa,ob,oc,od⟩ []):=(by unfold gfit;simp [dfr]:¬ gfit ⟨34,oa,ob,oc,od⟩ [])
  unfold ChA;rw [hF];clear hF;obtain ⟨pg,cg,rfl,hcg,r1⟩:=h1;obtain ⟨w2,hw2⟩:∃ w2,w2=w.alloc (.cells #[.int .i64 34,.int .i64 oa,.int .i64 ob,.int .i64 oc,.int .i64 od] 84):=⟨_,rfl⟩
  have k2:Kb 0 w w2:=by rw [hw2];exact kb_alloc _ _ _
  have hs2:w2.heap.size=w.heap.size+1:=by rw [hw2];exact World.size_alloc _ _
  have hbk:w2.heap[w.heap.size]? = some (.cells #[.int .i64 34,.int .i64 oa,.int .i64 ob,.int .i64 oc,.int .i64 od] 84 (0,0)):=by rw [hw2];exact alloc_new _ _ _
  have hR:Rg av w (.slice pg ([]:List Gv).length cg) ([]:List Gv):=⟨pg,cg,rfl,hcg,r1⟩
  have HC:=sp_guards w2 (hR.kb k2) (by simp);have HN:Hid (([]:List Gv).length≤1000):=(by simp:([]:List Gv).length≤1000)
  have HW:Hid (w2 = _):=hw2;have HG:Hid (Rg av w (.slice pg ([]:List Gv).length cg) ([]:List Gv)∧Kb 0 w w2∧w2.heap.size=w.heap.size+1∧w2.heap[w.heap.size]? = some (.cells #[.int .i64 34,.int .i64 oa,.int .i64 ob,.int .i64 oc,.int .i64 od] 84 (0,0))):=(⟨hR,k2,hs2,hbk⟩:_∧_)
  clear hw2 r1 hcg hR k2 hs2 hbk hn;go_enter Tryz.func62,Tryz.ntmps62;go_wp2_with fail;rw [← (uh HW)];clear HW;refine HC.mono ?_;rintro e w3 ⟨v,rfl,hO,k3⟩;obtain ⟨ad,cap,rfl⟩:=own_shape hO;obtain ⟨hR,k2,hs2,hbk⟩:=(uh HG)
  have hb3:=(k3.block w.heap.size zq (by omega)).trans hbk;have c0:w3.cell? ⟨w.heap.size,0,none⟩=some (.int .i64 34):=cell_of hb3 rfl;have c1:w3.cell? ⟨w.heap.size,1,none⟩=some (.int .i64 oa):=cell_of hb3 rfl;have c2:w3.cell? ⟨w.heap.size,2,none⟩=some (.int .i64 ob):=cell_of hb3 rfl;have k03:=k2.trans k3;have hs3:=k3.size;clear HG HC hbk;have HKK:Hid (Kb 0 w w3):=k03;clear hO hR k2 hb3 k03 hs2 k3 hs3 HN;go_wp2_with fail;refine bodyPost_ret (by simp [results,Tryz.results62,go_sem];rfl) rfl ?_;exact ⟨_,_,_,rfl,fun q=>absurd q HNF,HKK⟩
 obtain ⟨m,g,hL⟩:=last_of hnil;have HL:Hid (LastP G m g∧(gfit ⟨34,oa,ob,oc,od⟩ G↔(g.1=false∧kpt G≤oa))):=(⟨hL,by unfold gfit;simp [hL.2.2.2.1]⟩:_∧_)
 clear hL hnil;obtain ⟨pg,cg,rfl,hcg,r1⟩:=h1;obtain ⟨w2,hw2⟩:∃ w2,w2=w.alloc (.cells #[.int .i64 34,.int .i64 oa,.int .i64 ob,.int .i64 oc,.int .i64 od] 84):=⟨_,rfl⟩
 have k2:Kb 0 w w2:=by rw [hw2];exact kb_alloc _ _ _
 have hs2:w2.heap.size=w.heap.size+1:=by rw [hw2];exact World.size_alloc _ _
 have hbk:w2.heap[w.heap.size]? = some (.cells #[.int .i64 34,.int .i64 oa,.int .i64 ob,.int .i64 oc,.int .i64 od] 84 (0,0)):=by rw [hw2];exact alloc_new _ _ _
 have hR:Rg av w (.slice pg G.length cg) G:=⟨pg,cg,rfl,hcg,r1⟩
 have HC:=sp_guards w2 (hR.kb k2) (by omega);have hnI:(G.length:Int)≤1000:=by omega
 have HN:Hid (G.length≤1000):=(by omega:G.length≤1000)
 have HW:Hid (w2 = _):=hw2;have HG:Hid (Rg av w (.slice pg G.length cg) G∧Kb 0 w w2∧w2.heap.size=w.heap.size+1∧w2.heap[w.heap.size]? = some (.cells #[.int .i64 34,.int .i64 oa,.int .i64 ob,.int .i64 oc,.int .i64 od] 84 (0,0))):=(⟨hR,k2,hs2,hbk⟩:_∧_)
 clear hw2 r1 hcg hR k2 hs2 hbk hn;go_enter Tryz.func62,Tryz.ntmps62;go_wp2_with fail;rw [← (uh HW)];clear HW;refine HC.mono ?_;rintro e w3 ⟨v,rfl,hO,k3⟩;obtain ⟨ad,cap,rfl⟩:=own_shape hO;have hl:=(uh HL).1.1;have hgm:=(uh HL).1.2.1
 obtain ⟨q,rfl,hcap,hq2⟩:∃ q,ad=some ⟨q,0,none⟩∧m+1≤cap∧w2.heap.size≤q:=by
  rcases hO.2 with ⟨e,e'⟩ | ⟨q,c',cur,e,h1',h2',h3',_⟩
  ·rw [hl] at e';omega
  ·obtain ⟨rfl,rfl⟩:ad=some ⟨q,0,none⟩∧cap=c':=by simpa using e
   exact ⟨q,rfl,by rw [hl] at h3';exact h3',h1'⟩
 have hcs:∀ t,t < 3→w3.cell? ⟨q,m*3+t,none⟩=(gcl g)[t]?:=fun t ht=>by
  have e:=gcl_at G m g hgm t ht;have:=World.ownsRow.cellAt hO (m*3+t) (by rw [hl];omega);rw [this,e]
 obtain ⟨b,hbq⟩:∃ b:Addr,b=⟨q,0,none⟩:=⟨_,rfl⟩
 have d0:w3.cell? (b.add (m*3))=some (.bool g.1):=by rw [hbq,addr0];exact hcs 0 (by omega)
 have HBQ:Hid (b=⟨q,0,none⟩∧w2.heap.size≤q):=(⟨hbq,hq2⟩:_∧_)
 rw [← hbq] at hO;rw [← hbq];have hcI:(m:Int)+1≤(cap:Int):=by omega
 have hmI:(m:Int)+1≤1000:=by omega
 obtain ⟨hR,k2,hs2,hbk⟩:=(uh HG)
 have hb3:=(k3.block w.heap.size zq (by omega)).trans hbk;have c0:w3.cell? ⟨w.heap.size,0,none⟩=some (.int .i64 34):=cell_of hb3 rfl;have c1:w3.cell? ⟨w.heap.size,1,none⟩=some (.int .i64 oa):=cell_of hb3 rfl;have c2:w3.cell? ⟨w.heap.size,2,none⟩=some (.int .i64 ob):=cell_of hb3 rfl;have k03:=k2.trans k3;have hs3:=k3.size;clear HG HC hbk;have HFI:=(uh HL).2;rcases hg:g.1 with _ | _
 ·rw [hg] at d0;have HAB:=sp_above oa w3 (hR.kb k03) (uh HN);rw [dc_iff (above_iff hk)] at HAB;by_cases hkp:kpt G≤oa
  ·have HGT:=HFI.2 ⟨hg,hkp⟩;rw [dc_t hkp] at HAB;have d1:w3.cell? ⟨(b.add (m*3)).block,(b.add (m*3)).off+1,none⟩=some (.int .i64 g.2.1):=by rw [hbq,addr0];exact hcs 1 (by omega)
   have hfz:∀ j,w3.frozen? ⟨q,j,none⟩=false:=fun j=>by
    have:=hO;rw [hbq] at this;exact World.ownsRow.frozenAt this j
   have HST:Hid (∀ w4,Kb 0 w3 w4→w4.cell? ⟨w.heap.size,0,none⟩=some (.int .i64 34)∧w4.cell? ⟨w.heap.size,1,none⟩=some (.int .i64 oa)∧w4.cell? ⟨(b.add (m*3)).block,(b.add (m*3)).off+1,none⟩=some (.int .i64 g.2.1)∧w4.frozen? ⟨(b.add (m*3)).block,(b.add (m*3)).off+1,none⟩=false∧(w4.setCell ⟨(b.add (m*3)).block,(b.add (m*3)).off+1,none⟩ (.int .i64 oa)).cell? ⟨w.heap.size,0,none⟩=some (.int .i64 34)∧Rg (fun k=>w.heap.size≤k) (w4.setCell ⟨(b.add (m*3)).block,(b.add (m*3)).off+1,none⟩ (.int .i64 oa)) (.slice (some b) (m+1) cap) (gbh ⟨34,oa,ob,oc,od⟩ G)∧Kb 0 w (w4.setCell ⟨(b.add (m*3)).block,(b.add (m*3)).off+1,none⟩ (.int .i64 oa))):=(fun w4 k4=>by
    have hq3:q < w3.heap.size:=lt_of_cell' (hcs 0 (by omega));have e0:b.add (m*3)=⟨q,m*3,none⟩:=by rw [hbq,addr0]
    have hc4:∀ j,w4.cell? ⟨q,j,none⟩=w3.cell? ⟨q,j,none⟩:=fun j=>World.cell?_of_block (k4.block q zq hq3);have hw0:(w4.setCell ⟨q,m*3+1,none⟩ (.int .i64 oa)).heap[w.heap.size]? = w4.heap[w.heap.size]?:=Below.heap_setCell _ _ _ _ (by show w.heap.size ≠ q;omega);have hb4:w4.heap[w.heap.size]? = w3.heap[w.heap.size]?:=k4.block _ zq (by omega);have kz:Kb 0 w (w4.setCell ⟨q,m*3+1,none⟩ (.int .i64 oa)):=(k03.trans k4).setCell _ (Or.inr (by show w.heap.size≤q;omega)) _;refine ⟨k4.cell c0,k4.cell c1,k4.cell d1,?_,?_,?_,?_⟩
    ·rw [e0];exact (k4.frozen zq hq3).trans (hfz _)
    ·rw [e0];exact (World.cell?_of_block hw0).trans (k4.cell c0)
    ·rw [e0];have hLL:=(uh HL).1;have eG:gbh ⟨34,oa,ob,oc,od⟩ G=G.dropLast ++ [(g.1,oa,g.2.2)]:=by unfold gbh;simp [hLL.2.2.2.2.2.2]
     have eL:(gbh ⟨34,oa,ob,oc,od⟩ G).length=m+1:=by rw [eG,List.length_append,hLL.2.2.2.2.2.1];rfl
     refine ⟨some b,cap,by rw [eL],by rw [eL];exact hcap,fun _=>⟨b,rfl,by rw [hbq];show w.heap.size≤q;omega,fun j x hx=>?_⟩⟩;have hj:j < m+1:=by have:=(List.getElem?_eq_some_iff.1 hx).1;omega
     have eb:b.add (j*3)=⟨q,j*3,none⟩:=by rw [hbq,addr0]
     rw [eb];by_cases ej:j=m
     ·subst ej;rw [eG,List.getElem?_append_right (by rw [hLL.2.2.2.2.2.1];exact Nat.le_refl _),hLL.2.2.2.2.2.1,Nat.sub_self] at hx;have ex:(g.1,oa,g.2.2)=x:=by simpa using hx
      subst ex;exact ⟨(set_ne _ q (j*3+1) (j*3) _ (by omega)).trans ((hc4 _).trans (hcs 0 (by omega))),set_eq _ _ _ _ _ ((hc4 _).trans (hcs 1 (by omega))),(set_ne _ q (j*3+1) (j*3+2) _ (by omega)).trans ((hc4 _).trans (hcs 2 (by omega)))⟩
     ·rw [eG,List.getElem?_append_left (by rw [hLL.2.2.2.2.2.1];omega)] at hx;have hx2:G[j]? = some x:=by rw [hLL.2.2.2.2.1,List.getElem?_append_left (by rw [hLL.2.2.2.2.2.1];omega)];exact hx
      have hcj:∀ t,t < 3→w3.cell? ⟨q,j*3+t,none⟩=(gcl x)[t]?:=fun t ht=>by
       have e:=gcl_at G j x hx2 t ht;have hO2:=hO;rw [hbq] at hO2;have:=World.ownsRow.cellAt hO2 (j*3+t) (by rw [hl];omega);rw [this,e]
      exact ⟨(set_ne _ q (m*3+1) (j*3) _ (by omega)).trans ((hc4 _).trans (hcj 0 (by omega))),(set_ne _ q (m*3+1) (j*3+1) _ (by omega)).trans ((hc4 _).trans (hcj 1 (by omega))),(set_ne _ q (m*3+1) (j*3+2) _ (by omega)).trans ((hc4 _).trans (hcj 2 (by omega)))⟩
    ·rw [e0];exact kz:∀ w4,_)
   rw [hl] at HAB ⊢;have HGH:Hid (gfit ⟨34,oa,ob,oc,od⟩ G):=HGT;clear hO hR k2 hb3 k03 hs2 k3 hs3 HN hnI hcs hbq hq2 hcap hl hgm HGT HFI hg hk hkp hfz d1;go_upto_region 17 with (go_at_call 112;refine HAB.mono ?_;rintro e w4 ⟨rfl,k4⟩;obtain ⟨z0,z1,z2,z3,z4,z5,z6⟩:=(uh HST) _ k4;have HZ:Hid (Rg (fun k=>w.heap.size≤k) (w4.setCell ⟨(b.add (m*3)).block,(b.add (m*3)).off+1,none⟩ (.int .i64 oa)) (.slice (some b) (m+1) cap) (gbh ⟨34,oa,ob,oc,od⟩ G)∧Kb 0 w (w4.setCell ⟨(b.add (m*3)).block,(b.add (m*3)).off+1,none⟩ (.int .i64 oa))):=(⟨z5,z6⟩:_∧_);clear HAB HST z5 z6 k4 c0 c1 d0);go_wp2_with fail;refine bodyPost_ret (by simp [results,Tryz.results62,go_sem];rfl) rfl ?_;exact ⟨_,_,_,by rw [dc_t (uh HGH)],fun _=>(uh HZ).1,(uh HZ).2⟩
  ·have HNF:Hid (¬ gfit ⟨34,oa,ob,oc,od⟩ G):=(fun q=>hkp (HFI.1 q).2:¬ gfit ⟨34,oa,ob,oc,od⟩ G)
   rw [dc_f hkp] at HAB;have HKK:Hid (Kb 0 w w3):=k03;rw [hl] at HAB ⊢;clear hO hR k2 hb3 k03 hs2 k3 hs3 HN hnI hcs hbq hq2 hcap hl hgm HFI hg hk hkp;go_wp2_with (go_at_call 112;refine HAB.mono ?_;rintro e w4 ⟨rfl,k4⟩;have HK4:Hid (Kb 0 w w4):=(uh HKK).trans k4;clear HAB k4 HKK);refine bodyPost_ret (by simp [results,Tryz.results62,go_sem];rfl) rfl ?_;exact ⟨_,_,_,by rw [dc_f HNF],fun q=>absurd q HNF,HK4⟩
 ·rw [hg] at d0;have hNF:¬ gfit ⟨34,oa,ob,oc,od⟩ G:=fun q=>by have:=(HFI.1 q).1;rw [hg] at this;cases this
  rw [hl];have HNF:Hid (¬ gfit ⟨34,oa,ob,oc,od⟩ G):=hNF;have HKK:Hid (Kb 0 w w3):=k03;clear hO hR k2 hb3 k03 hs2 k3 hs3 HN hnI hcs hbq hq2 hcap hl hgm hNF HFI hg hk;go_wp2_with fail;refine bodyPost_ret (by simp [results,Tryz.results62,go_sem];rfl) rfl ?_;exact ⟨_,_,_,by rw [dc_f HNF],fun q=>absurd q HNF,HKK⟩
theorem ch_36 {av : Nat → Prop} {vg : Value} {G : List Gv} (a : Iv) (w : World) (h1 : Rg av w vg G) (hn : G.length ≤ 50) (hop : a.o = 36) :
  Calls Tryz.prog 62 #[.agg #[.int .i64 a.o,.int .i64 a.a,.int .i64 a.b,.int .i64 a.c,.int .i64 a.d],vg] w (ChA a G w):=by
 obtain ⟨o,oa,ob,oc,od⟩:=a;dsimp only at hop;subst hop;by_cases hnil:G = []
 ·subst hnil;have hF:dc (gfit ⟨36,oa,ob,oc,od⟩ [])=false:=dc_f (by unfold gfit;simp [dfr]);have HNF:Hid (¬ gfit ⟨36,oa,ob,oc,od⟩ []):=(by unfold gfit;simp [dfr]:¬ gfit ⟨36,oa,ob,oc,od⟩ [])
  unfold ChA;rw [hF];clear hF;obtain ⟨pg,cg,rfl,hcg,r1⟩:=h1;obtain ⟨w2,hw2⟩:∃ w2,w2=w.alloc (.cells #[.int .i64 36,.int .i64 oa,.int .i64 ob,.int .i64 oc,.int .i64 od] 84):=⟨_,rfl⟩
  have k2:Kb 0 w w2:=by rw [hw2];exact kb_alloc _ _ _
  have hs2:w2.heap.size=w.heap.size+1:=by rw [hw2];exact World.size_alloc _ _
  have hbk:w2.heap[w.heap.size]? = some (.cells #[.int .i64 36,.int .i64 oa,.int .i64 ob,.int .i64 oc,.int .i64 od] 84 (0,0)):=by rw [hw2];exact alloc_new _ _ _
  have hR:Rg av w (.slice pg ([]:List Gv).length cg) ([]:List Gv):=⟨pg,cg,rfl,hcg,r1⟩
  have HC:=sp_guards w2 (hR.kb k2) (by simp);have HN:Hid (([]:List Gv).length≤1000):=(by simp:([]:List Gv).length≤1000)
  have HW:Hid (w2 = _):=hw2;have HG:Hid (Rg av w (.slice pg ([]:List Gv).length cg) ([]:List Gv)∧Kb 0 w w2∧w2.heap.size=w.heap.size+1∧w2.heap[w.heap.size]? = some (.cells #[.int .i64 36,.int .i64 oa,.int .i64 ob,.int .i64 oc,.int .i64 od] 84 (0,0))):=(⟨hR,k2,hs2,hbk⟩:_∧_)
  clear hw2 r1 hcg hR k2 hs2 hbk hn;go_enter Tryz.func62,Tryz.ntmps62;go_wp2_with fail;rw [← (uh HW)];clear HW;refine HC.mono ?_;rintro e w3 ⟨v,rfl,hO,k3⟩;obtain ⟨ad,cap,rfl⟩:=own_shape hO;obtain ⟨hR,k2,hs2,hbk⟩:=(uh HG)
  have hb3:=(k3.block w.heap.size zq (by omega)).trans hbk;have c0:w3.cell? ⟨w.heap.size,0,none⟩=some (.int .i64 36):=cell_of hb3 rfl;have c1:w3.cell? ⟨w.heap.size,1,none⟩=some (.int .i64 oa):=cell_of hb3 rfl;have c2:w3.cell? ⟨w.heap.size,2,none⟩=some (.int .i64 ob):=cell_of hb3 rfl;have k03:=k2.trans k3;have hs3:=k3.size;clear HG HC hbk;have HKK:Hid (Kb 0 w w3):=k03;clear hO hR k2 hb3 k03 hs2 k3 hs3 HN;go_wp2_with fail;refine bodyPost_ret (by simp [results,Tryz.results62,go_sem];rfl) rfl ?_;exact ⟨_,_,_,rfl,fun q=>absurd q HNF,HKK⟩
 obtain ⟨m,g,hL⟩:=last_of hnil;have HL:Hid (LastP G m g∧(gfit ⟨36,oa,ob,oc,od⟩ G↔g.1=false)):=(⟨hL,by unfold gfit;simp [hL.2.2.2.1]⟩:_∧_)
 clear hL hnil;obtain ⟨pg,cg,rfl,hcg,r1⟩:=h1;obtain ⟨w2,hw2⟩:∃ w2,w2=w.alloc (.cells #[.int .i64 36,.int .i64 oa,.int .i64 ob,.int .i64 oc,.int .i64 od] 84):=⟨_,rfl⟩
 have k2:Kb 0 w w2:=by rw [hw2];exact kb_alloc _ _ _
 have hs2:w2.heap.size=w.heap.size+1:=by rw [hw2];exact World.size_alloc _ _
 have hbk:w2.heap[w.heap.size]? = some (.cells #[.int .i64 36,.int .i64 oa,.int .i64 ob,.int .i64 oc,.int .i64 od] 84 (0,0)):=by rw [hw2];exact alloc_new _ _ _
 have hR:Rg av w (.slice pg G.length cg) G:=⟨pg,cg,rfl,hcg,r1⟩
 have HC:=sp_guards w2 (hR.kb k2) (by omega);have hnI:(G.length:Int)≤1000:=by omega
 have HN:Hid (G.length≤1000):=(by omega:G.length≤1000)
 have HW:Hid (w2 = _):=hw2;have HG:Hid (Rg av w (.slice pg G.length cg) G∧Kb 0 w w2∧w2.heap.size=w.heap.size+1∧w2.heap[w.heap.size]? = some (.cells #[.int .i64 36,.int .i64 oa,.int .i64 ob,.int .i64 oc,.int .i64 od] 84 (0,0))):=(⟨hR,k2,hs2,hbk⟩:_∧_)
 clear hw2 r1 hcg hR k2 hs2 hbk hn;go_enter Tryz.func62,Tryz.ntmps62;go_wp2_with fail;rw [← (uh HW)];clear HW;refine HC.mono ?_;rintro e w3 ⟨v,rfl,hO,k3⟩;obtain ⟨ad,cap,rfl⟩:=own_shape hO;have hl:=(uh HL).1.1;have hgm:=(uh HL).1.2.1
 obtain ⟨q,rfl,hcap,hq2⟩:∃ q,ad=some ⟨q,0,none⟩∧m+1≤cap∧w2.heap.size≤q:=by
  rcases hO.2 with ⟨e,e'⟩ | ⟨q,c',cur,e,h1',h2',h3',_⟩
  ·rw [hl] at e';omega
  ·obtain ⟨rfl,rfl⟩:ad=some ⟨q,0,none⟩∧cap=c':=by simpa using e
   exact ⟨q,rfl,by rw [hl] at h3';exact h3',h1'⟩
 have hcs:∀ t,t < 3→w3.cell? ⟨q,m*3+t,none⟩=(gcl g)[t]?:=fun t ht=>by
  have e:=gcl_at G m g hgm t ht;have:=World.ownsRow.cellAt hO (m*3+t) (by rw [hl];omega);rw [this,e]
 obtain ⟨b,hbq⟩:∃ b:Addr,b=⟨q,0,none⟩:=⟨_,rfl⟩
 have d0:w3.cell? (b.add (m*3))=some (.bool g.1):=by rw [hbq,addr0];exact hcs 0 (by omega)
 have HBQ:Hid (b=⟨q,0,none⟩∧w2.heap.size≤q):=(⟨hbq,hq2⟩:_∧_)
 rw [← hbq] at hO;rw [← hbq];have hcI:(m:Int)+1≤(cap:Int):=by omega
 have hmI:(m:Int)+1≤1000:=by omega
 obtain ⟨hR,k2,hs2,hbk⟩:=(uh HG)
 have hb3:=(k3.block w.heap.size zq (by omega)).trans hbk;have c0:w3.cell? ⟨w.heap.size,0,none⟩=some (.int .i64 36):=cell_of hb3 rfl;have c1:w3.cell? ⟨w.heap.size,1,none⟩=some (.int .i64 oa):=cell_of hb3 rfl;have c2:w3.cell? ⟨w.heap.size,2,none⟩=some (.int .i64 ob):=cell_of hb3 rfl;have k03:=k2.trans k3;have hs3:=k3.size;clear HG HC hbk;have HFI:=(uh HL).2;rcases hg:g.1 with _ | _
 ·rw [hg] at d0;have HGT:=HFI.2 hg
  have HZ:Hid (Rg (fun k=>w.heap.size≤k) w3 (.slice (some b) m cap) (gbh ⟨36,oa,ob,oc,od⟩ G)∧Kb 0 w w3):=by
   refine And.intro ?_ k03;have hLL:=(uh HL).1;rw [show gbh ⟨36,oa,ob,oc,od⟩ G=G.dropLast from by unfold gbh;simp];obtain ⟨p',c',e,h5,h6⟩:=hO.rg;obtain ⟨rfl,rfl⟩:some b=p'∧cap=c':=by simpa using e
   refine ⟨some b,cap,by rw [hLL.2.2.2.2.2.1],by rw [hLL.2.2.2.2.2.1];omega,fun h=>⟨b,rfl,by rw [hbq];show w.heap.size≤q;omega,fun j x hx=>?_⟩⟩;obtain ⟨b',e2,-,h7⟩:=h6 (by rw [hl];omega);have e2:b=b':=by simpa using e2
   rw [e2];refine h7 j x ?_;have hj:=(List.getElem?_eq_some_iff.1 hx).1;rw [hLL.2.2.2.2.1,List.getElem?_append_left hj];exact hx
  rw [hl];have HGH:Hid (gfit ⟨36,oa,ob,oc,od⟩ G):=HGT;clear hO hR k2 hb3 k03 hs2 k3 hs3 HN hnI hcs hbq hq2 hcap hl hgm HGT HFI hg;go_wp2_with fail;refine bodyPost_ret (by simp [results,Tryz.results62,go_sem];rfl) rfl ?_;exact ⟨_,_,_,by rw [dc_t (uh HGH)],fun _=>(uh HZ).1,(uh HZ).2⟩
 ·rw [hg] at d0;have hNF:¬ gfit ⟨36,oa,ob,oc,od⟩ G:=fun q=>by have:=HFI.1 q;rw [hg] at this;cases this
  rw [hl];have HNF:Hid (¬ gfit ⟨36,oa,ob,oc,od⟩ G):=hNF;have HKK:Hid (Kb 0 w w3):=k03;clear hO hR k2 hb3 k03 hs2 k3 hs3 HN hnI hcs hbq hq2 hcap hl hgm hNF HFI hg;go_wp2_with fail;refine bodyPost_ret (by simp [results,Tryz.results62,go_sem];rfl) rfl ?_;exact ⟨_,_,_,by rw [dc_f HNF],fun q=>absurd q HNF,HKK⟩
theorem ch_35 {av : Nat → Prop} {vg : Value} {G : List Gv} (a : Iv) (w : World) (h1 : Rg av w vg G) (hn : G.length ≤ 50) (hop : a.o = 35) :
  Calls Tryz.prog 62 #[.agg #[.int .i64 a.o,.int .i64 a.a,.int .i64 a.b,.int .i64 a.c,.int .i64 a.d],vg] w (ChA a G w):=by
 obtain ⟨o,oa,ob,oc,od⟩:=a;dsimp only at hop;subst hop;by_cases hnil:G = []
 ·subst hnil;have hF:dc (gfit ⟨35,oa,ob,oc,od⟩ [])=false:=dc_f (by unfold gfit;simp [dfr]);have HNF:Hid (¬ gfit ⟨35,oa,ob,oc,od⟩ []):=(by unfold gfit;simp [dfr]:¬ gfit ⟨35,oa,ob,oc,od⟩ [])
  unfold ChA;rw [hF];clear hF;obtain ⟨pg,cg,rfl,hcg,r1⟩:=h1;obtain ⟨w2,hw2⟩:∃ w2,w2=w.alloc (.cells #[.int .i64 35,.int .i64 oa,.int .i64 ob,.int .i64 oc,.int .i64 od] 84):=⟨_,rfl⟩
  have k2:Kb 0 w w2:=by rw [hw2];exact kb_alloc _ _ _
  have hs2:w2.heap.size=w.heap.size+1:=by rw [hw2];exact World.size_alloc _ _
  have hbk:w2.heap[w.heap.size]? = some (.cells #[.int .i64 35,.int .i64 oa,.int .i64 ob,.int .i64 oc,.int .i64 od] 84 (0,0)):=by rw [hw2];exact alloc_new _ _ _
  have hR:Rg av w (.slice pg ([]:List Gv).length cg) ([]:List Gv):=⟨pg,cg,rfl,hcg,r1⟩
  have HC:=sp_guards w2 (hR.kb k2) (by simp);have HN:Hid (([]:List Gv).length≤1000):=(by simp:([]:List Gv).length≤1000)
  have HW:Hid (w2 = _):=hw2;have HG:Hid (Rg av w (.slice pg ([]:List Gv).length cg) ([]:List Gv)∧Kb 0 w w2∧w2.heap.size=w.heap.size+1∧w2.heap[w.heap.size]? = some (.cells #[.int .i64 35,.int .i64 oa,.int .i64 ob,.int .i64 oc,.int .i64 od] 84 (0,0))):=(⟨hR,k2,hs2,hbk⟩:_∧_)
  clear hw2 r1 hcg hR k2 hs2 hbk hn;go_enter Tryz.func62,Tryz.ntmps62;go_wp2_with fail;rw [← (uh HW)];clear HW;refine HC.mono ?_;rintro e w3 ⟨v,rfl,hO,k3⟩;obtain ⟨ad,cap,rfl⟩:=own_shape hO;obtain ⟨hR,k2,hs2,hbk⟩:=(uh HG)
  have hb3:=(k3.block w.heap.size zq (by omega)).trans hbk;have c0:w3.cell? ⟨w.heap.size,0,none⟩=some (.int .i64 35):=cell_of hb3 rfl;have c1:w3.cell? ⟨w.heap.size,1,none⟩=some (.int .i64 oa):=cell_of hb3 rfl;have c2:w3.cell? ⟨w.heap.size,2,none⟩=some (.int .i64 ob):=cell_of hb3 rfl;have k03:=k2.trans k3;have hs3:=k3.size;clear HG HC hbk;have HKK:Hid (Kb 0 w w3):=k03;clear hO hR k2 hb3 k03 hs2 k3 hs3 HN;go_wp2_with fail;refine bodyPost_ret (by simp [results,Tryz.results62,go_sem];rfl) rfl ?_;exact ⟨_,_,_,rfl,fun q=>absurd q HNF,HKK⟩
 obtain ⟨m,g,hL⟩:=last_of hnil;have HL:Hid (LastP G m g∧(gfit ⟨35,oa,ob,oc,od⟩ G↔g.1=false)):=(⟨hL,by unfold gfit;simp [hL.2.2.2.1]⟩:_∧_)
 clear hL hnil;obtain ⟨pg,cg,rfl,hcg,r1⟩:=h1;obtain ⟨w2,hw2⟩:∃ w2,w2=w.alloc (.cells #[.int .i64 35,.int .i64 oa,.int .i64 ob,.int .i64 oc,.int .i64 od] 84):=⟨_,rfl⟩
 have k2:Kb 0 w w2:=by rw [hw2];exact kb_alloc _ _ _
 have hs2:w2.heap.size=w.heap.size+1:=by rw [hw2];exact World.size_alloc _ _
 have hbk:w2.heap[w.heap.size]? = some (.cells #[.int .i64 35,.int .i64 oa,.int .i64 ob,.int .i64 oc,.int .i64 od] 84 (0,0)):=by rw [hw2];exact alloc_new _ _ _
 have hR:Rg av w (.slice pg G.length cg) G:=⟨pg,cg,rfl,hcg,r1⟩
 have HC:=sp_guards w2 (hR.kb k2) (by omega);have hnI:(G.length:Int)≤1000:=by omega
 have HN:Hid (G.length≤1000):=(by omega:G.length≤1000)
 have HW:Hid (w2 = _):=hw2;have HG:Hid (Rg av w (.slice pg G.length cg) G∧Kb 0 w w2∧w2.heap.size=w.heap.size+1∧w2.heap[w.heap.size]? = some (.cells #[.int .i64 35,.int .i64 oa,.int .i64 ob,.int .i64 oc,.int .i64 od] 84 (0,0))):=(⟨hR,k2,hs2,hbk⟩:_∧_)
 clear hw2 r1 hcg hR k2 hs2 hbk hn;go_enter Tryz.func62,Tryz.ntmps62;go_wp2_with fail;rw [← (uh HW)];clear HW;refine HC.mono ?_;rintro e w3 ⟨v,rfl,hO,k3⟩;obtain ⟨ad,cap,rfl⟩:=own_shape hO;have hl:=(uh HL).1.1;have hgm:=(uh HL).1.2.1
 obtain ⟨q,rfl,hcap,hq2⟩:∃ q,ad=some ⟨q,0,none⟩∧m+1≤cap∧w2.heap.size≤q:=by
  rcases hO.2 with ⟨e,e'⟩ | ⟨q,c',cur,e,h1',h2',h3',_⟩
  ·rw [hl] at e';omega
  ·obtain ⟨rfl,rfl⟩:ad=some ⟨q,0,none⟩∧cap=c':=by simpa using e
   exact ⟨q,rfl,by rw [hl] at h3';exact h3',h1'⟩
 have hcs:∀ t,t < 3→w3.cell? ⟨q,m*3+t,none⟩=(gcl g)[t]?:=fun t ht=>by
  have e:=gcl_at G m g hgm t ht;have:=World.ownsRow.cellAt hO (m*3+t) (by rw [hl];omega);rw [this,e]
 obtain ⟨b,hbq⟩:∃ b:Addr,b=⟨q,0,none⟩:=⟨_,rfl⟩
 have d0:w3.cell? (b.add (m*3))=some (.bool g.1):=by rw [hbq,addr0];exact hcs 0 (by omega)
 have HBQ:Hid (b=⟨q,0,none⟩∧w2.heap.size≤q):=(⟨hbq,hq2⟩:_∧_)
 rw [← hbq] at hO;rw [← hbq];have hcI:(m:Int)+1≤(cap:Int):=by omega
 have hmI:(m:Int)+1≤1000:=by omega
 obtain ⟨hR,k2,hs2,hbk⟩:=(uh HG)
 have hb3:=(k3.block w.heap.size zq (by omega)).trans hbk;have c0:w3.cell? ⟨w.heap.size,0,none⟩=some (.int .i64 35):=cell_of hb3 rfl;have c1:w3.cell? ⟨w.heap.size,1,none⟩=some (.int .i64 oa):=cell_of hb3 rfl;have c2:w3.cell? ⟨w.heap.size,2,none⟩=some (.int .i64 ob):=cell_of hb3 rfl;have k03:=k2.trans k3;have hs3:=k3.size;clear HG HC hbk;have HFI:=(uh HL).2;rcases hg:g.1 with _ | _
 ·rw [hg] at d0;have HGT:=HFI.2 hg
  have HZ:Hid (Rg (fun k=>w.heap.size≤k) w3 (.slice (some b) (m+1) cap) (gbh ⟨35,oa,ob,oc,od⟩ G)∧Kb 0 w w3):=by
   refine And.intro ?_ k03;rw [show gbh ⟨35,oa,ob,oc,od⟩ G=G from by unfold gbh;simp,← hl];exact hO.rg.imp (fun b _ hb=>by omega)
  rw [hl];have HGH:Hid (gfit ⟨35,oa,ob,oc,od⟩ G):=HGT;clear hO hR k2 hb3 k03 hs2 k3 hs3 HN hnI hcs hbq hq2 hcap hl hgm HGT HFI hg;go_wp2_with fail;refine bodyPost_ret (by simp [results,Tryz.results62,go_sem];rfl) rfl ?_;exact ⟨_,_,_,by rw [dc_t (uh HGH)],fun _=>(uh HZ).1,(uh HZ).2⟩
 ·rw [hg] at d0;have hNF:¬ gfit ⟨35,oa,ob,oc,od⟩ G:=fun q=>by have:=HFI.1 q;rw [hg] at this;cases this
  rw [hl];have HNF:Hid (¬ gfit ⟨35,oa,ob,oc,od⟩ G):=hNF;have HKK:Hid (Kb 0 w w3):=k03;clear hO hR k2 hb3 k03 hs2 k3 hs3 HN hnI hcs hbq hq2 hcap hl hgm hNF HFI hg;go_wp2_with fail;refine bodyPost_ret (by simp [results,Tryz.results62,go_sem];rfl) rfl ?_;exact ⟨_,_,_,by rw [dc_f HNF],fun q=>absurd q HNF,HKK⟩
theorem ch_oth {av : Nat → Prop} {vg : Value} {G : List Gv} (a : Iv) (w : World) (h1 : Rg av w vg G) (hn : G.length ≤ 50) (hop : a.o ≠ 31 ∧ a.o ≠ 32 ∧ a.o ≠ 33 ∧ a.o ≠ 34 ∧ a.o ≠ 35 ∧ a.o ≠ 36) :
  Calls Tryz.prog 62 #[.agg #[.int .i64 a.o,.int .i64 a.a,.int .i64 a.b,.int .i64 a.c,.int .i64 a.d],vg] w (ChA a G w):=by
 obtain ⟨o,oa,ob,oc,od⟩:=a;dsimp only at hop;obtain ⟨n1,n2,n3,n4,n5,n6⟩:=hop;obtain ⟨pg,cg,rfl,hcg,r1⟩:=h1;obtain ⟨w2,hw2⟩:∃ w2,w2=w.alloc (.cells #[.int .i64 o,.int .i64 oa,.int .i64 ob,.int .i64 oc,.int .i64 od] 84):=⟨_,rfl⟩
 have k2:Kb 0 w w2:=by rw [hw2];exact kb_alloc _ _ _
 have hs2:w2.heap.size=w.heap.size+1:=by rw [hw2];exact World.size_alloc _ _
 have hbk:w2.heap[w.heap.size]? = some (.cells #[.int .i64 o,.int .i64 oa,.int .i64 ob,.int .i64 oc,.int .i64 od] 84 (0,0)):=by rw [hw2];exact alloc_new _ _ _
 have hR:Rg av w (.slice pg G.length cg) G:=⟨pg,cg,rfl,hcg,r1⟩
 have HC:=sp_guards w2 (hR.kb k2) (by omega);have hnI:(G.length:Int)≤1000:=by omega
 have HN:Hid (G.length≤1000):=(by omega:G.length≤1000)
 have HW:Hid (w2 = _):=hw2;have HG:Hid (Rg av w (.slice pg G.length cg) G∧Kb 0 w w2∧w2.heap.size=w.heap.size+1∧w2.heap[w.heap.size]? = some (.cells #[.int .i64 o,.int .i64 oa,.int .i64 ob,.int .i64 oc,.int .i64 od] 84 (0,0))):=(⟨hR,k2,hs2,hbk⟩:_∧_)
 clear hw2 r1 hcg hR k2 hs2 hbk hn;go_enter Tryz.func62,Tryz.ntmps62;go_wp2_with fail;rw [← (uh HW)];clear HW;refine HC.mono ?_;rintro e w3 ⟨v,rfl,hO,k3⟩;obtain ⟨ad,cap,rfl⟩:=own_shape hO;obtain ⟨hR,k2,hs2,hbk⟩:=(uh HG)
 have hb3:=(k3.block w.heap.size zq (by omega)).trans hbk;have c0:w3.cell? ⟨w.heap.size,0,none⟩=some (.int .i64 o):=cell_of hb3 rfl;have c1:w3.cell? ⟨w.heap.size,1,none⟩=some (.int .i64 oa):=cell_of hb3 rfl;have c2:w3.cell? ⟨w.heap.size,2,none⟩=some (.int .i64 ob):=cell_of hb3 rfl;have k03:=k2.trans k3;have hs3:=k3.size;clear HG HC hbk;have hGT:gfit ⟨o,oa,ob,oc,od⟩ G:=by unfold gfit;simp [n1,n2,n3,n4,n5,n6]
 have hBH:gbh ⟨o,oa,ob,oc,od⟩ G=G:=by unfold gbh;simp [n1,n2,n3,n4,n6]
 have HGH:Hid (gfit ⟨o,oa,ob,oc,od⟩ G):=hGT
 have HZ:Hid (Rg (fun k=>w.heap.size≤k) w3 (.slice ad G.length cap) (gbh ⟨o,oa,ob,oc,od⟩ G)∧Kb 0 w w3):=by
  refine And.intro ?_ k03;rw [hBH];exact hO.rg.imp (fun b _ hb=>by omega)
 have g1:=bne n1;have g2:=bne n2;have g3:=bne n3;have g4:=bne n4;have g5:=bne n5;have g6:=bne n6;clear hO hR k2 hb3 k03 hs2 k3 hs3 HN hnI n1 n2 n3 n4 n5 n6 hGT hBH;go_wp2_with fail;refine bodyPost_ret (by simp [results,Tryz.results62,go_sem];rfl) rfl ?_;exact ⟨_,_,_,by rw [dc_t (uh HGH)],fun _=>(uh HZ).1,(uh HZ).2⟩
theorem sp_change {av : Nat → Prop} {vg : Value} {G : List Gv} (a : Iv) (w : World) (h1 : Rg av w vg G) (hn : G.length ≤ 50) (ha : a.o = 31 → 0 ≤ a.b) (hb : a.o = 33 ∨ a.o = 34 → 0 ≤ a.a) :
  Calls Tryz.prog 62 #[.agg #[.int .i64 a.o,.int .i64 a.a,.int .i64 a.b,.int .i64 a.c,.int .i64 a.d],vg] w (ChA a G w):=by
 by_cases h:a.o=31
 ·exact ch_31 a w h1 hn h (ha h)
 have n31:=h;clear h;by_cases h:a.o=32
 ·exact ch_32 a w h1 hn h
 have n32:=h;clear h;by_cases h:a.o=33
 ·exact ch_33 a w h1 hn h (hb (.inl h))
 have n33:=h;clear h;by_cases h:a.o=34
 ·exact ch_34 a w h1 hn h (hb (.inr h))
 have n34:=h;clear h;by_cases h:a.o=35
 ·exact ch_35 a w h1 hn h
 have n35:=h;clear h;by_cases h:a.o=36
 ·exact ch_36 a w h1 hn h
 have n36:=h;clear h;exact ch_oth a w h1 hn ⟨n31,n32,n33,n34,n35,n36⟩
structure Kx (b:Nat) (W w':World):Prop where
 os:w'.os=W.os
 output:w'.output=W.output
 size:W.heap.size≤w'.heap.size
 block:∀ k,k < W.heap.size→k ≠ b→w'.heap[k]? = W.heap[k]?
theorem Kx.trans {b:Nat} {W w1 w2:World} (h:Kx b W w1) (k:Kx b w1 w2):Kx b W w2:=⟨k.os.trans h.os,k.output.trans h.output,Nat.le_trans h.size k.size,fun i h1 h2=>(k.block i (Nat.lt_of_lt_of_le h1 h.size) h2).trans (h.block i h1 h2)⟩
theorem Kx.of_kb {b:Nat} {W w':World} (h:Kb 0 W w'):Kx b W w':=⟨h.os,h.output,h.size,fun k hk _=>h.block k zq hk⟩
theorem Kx.set {b:Nat} {W w':World} (h:Kx b W w') (j:Nat) (v:Value):Kx b W (w'.setCell ⟨b,j,none⟩ v) :=
 ⟨h.os,h.output,by simpa [World.setCell] using h.size,fun k hk hb=>(Below.heap_setCell w' _ _ _ (by exact hb)).trans (h.block k hk hb)⟩
theorem Kx.kb {b:Nat} {W w1 w2:World} (h:Kb 0 W w1) (k:Kx b w1 w2) (hb:W.heap.size≤b):Kb 0 W w2 :=
 ⟨k.os.trans h.os,k.output.trans h.output,Nat.le_trans h.size k.size,fun i _ hi=>(k.block i (Nat.lt_of_lt_of_le hi h.size) (by omega)).trans (h.block i zq hi)⟩
theorem OwI.setc {base q cap:Nat} {W:World} {T:List Int} {n:Nat} (h:W.ownsRow base 3 1 (.slice (some ⟨q,0,none⟩) n cap) n (iv T)) (j:Nat) (x:Int):(W.setCell ⟨q,j,none⟩ (.int .i64 x)).ownsRow base 3 1 (.slice (some ⟨q,0,none⟩) n cap) n (iv (T.set j x)):=by
 have:=World.ownsRow.stored h j (.int .i64 x);unfold iv;rw [List.map_set];exact this.1
theorem own_wr {base:Nat} {W:World} {v:Value} {T:List Int} (h:OwI base W v T) {k:Nat} (hk:k < T.length):∃ (b:Addr) (q cap:Nat) (y:Int),v = .slice (some b) T.length cap∧b=⟨q,0,none⟩∧T.length≤cap∧base≤q∧v.ownBlock=some q∧W.cell? (b.add k)=some (.int .i64 y)∧(∀ j,W.frozen? (b.add j)=false)∧∀ W',Kb 0 W W'→∀ x,OwI base (W'.setCell (b.add k) (.int .i64 x)) v (T.set k x)∧Kx q W (W'.setCell (b.add k) (.int .i64 x)):=by
 rcases h.2 with ⟨_,e⟩ | ⟨q,cap,cur,rfl,h1,h2,h3,h4,h5,h6⟩
 ·omega
 ·obtain ⟨y,hy⟩:∃ y,T[k]? = some y:=⟨_,List.getElem?_eq_getElem hk⟩
  refine ⟨⟨q,0,none⟩,q,cap,y,rfl,rfl,h3,h1,rfl,?_,fun j=>?_,fun W' kk x=>?_⟩
  ·refine World.ownsRow.cells h rfl k _ ?_;unfold iv;rw [List.getElem?_map,hy];rfl
  ·rw [addr0];exact World.ownsRow.frozenAt h j
  ·rw [addr0];refine ⟨?_,(Kx.of_kb kk).set _ _⟩;have:=OwI.setc (OwI.kb h kk) k x;unfold OwI;rw [List.length_set];exact this
def WrA (a:Iv) (T:List Int) (base:Nat) (v:Value) (w:World) (e:Ending) (w':World):Prop:=e = .returned (.tuple #[])∧OwI base w' v (put a T)∧∀ q,(v.ownBlock=some q→Kx q w w')∧(v.ownBlock=none→Kb 0 w w')
theorem tok_a {np:Nat} {d:Pd} {a:Iv} (h:Tok np d a) (j:Nat) (hj:j < 4):(rg np d (pcl (pr a.o.toNat j))).1≤fld a j∧fld a j≤(rg np d (pcl (pr a.o.toNat j))).2:=h.2.2 j hj
theorem wr_6 {np base : Nat} {d : Pd} {v : Value} {T : List Int} (a : Iv) (w : World) (ht : Tok np d a) (hO : OwI base w v T) (hl : (T.length : Int) = d.g) (hg : d.g ≤ 250) (hop : a.o = 6) :
  Calls Tryz.prog 63 #[.agg #[.int .i64 a.o,.int .i64 a.a,.int .i64 a.b,.int .i64 a.c,.int .i64 a.d],v] w (WrA a T base v w):=by
 obtain ⟨o,oa,ob,oc,od⟩:=a;dsimp only at hop;subst hop;have hr:=tok_a ht 0 (by omega);have hr : 0≤oa∧oa≤d.g - 1:=hr;obtain ⟨k,hk1,rfl⟩:∃ k:Nat,0≤k∧oa=(k:Int):=⟨oa.toNat,by omega,by omega⟩
 obtain ⟨b,q,cap,y,rfl,hbq,hcap,hbase,hob,c1,fz,hset⟩:=own_wr hO (k:=k) (by omega);have hput:put ⟨6,(k:Int),ob,oc,od⟩ T=T.set k 2:=rfl;have fz1:=fz k;have kI:(k:Int) < (T.length:Int):=by omega
 have lI:(T.length:Int)≤250:=by omega
 have cI:(T.length:Int)≤(cap:Int):=by omega
 have HS:Hid (∀ W',Kb 0 w W'→OwI base (W'.setCell (b.add k) (.int .i64 2)) (.slice (some b) T.length cap) (put ⟨6,(k:Int),ob,oc,od⟩ T)∧Kx q w (W'.setCell (b.add k) (.int .i64 2))):=(fun W' kk=>by rw [hput];exact hset W' kk 2:∀ W',_)
 have HB:Hid ((Value.slice (some b) T.length cap).ownBlock=some q):=hob;have c1':∀ o,(w.alloc o).cell? (b.add k)=some (.int .i64 y):=fun o=>(kb_alloc 0 w o).cell c1
 have fz':∀ o,(w.alloc o).frozen? (b.add k)=false:=fun o=>by
  have hlt:b.block < w.heap.size:=by have:=lt_of_cell' c1;rw [add_block] at this;exact this
  exact (World.frozen?_of_block (by rw [add_block];exact (kb_alloc 0 w o).block _ zq hlt)).trans fz1
 clear hr ht hO hl hg hbq hcap hbase hob hset hput fz c1 fz1 hk1;go_enter Tryz.func63,Tryz.ntmps63;go_wp2_with fail;refine ⟨rfl,.tuple #[],by simp [results,Tryz.results63],?_⟩;obtain ⟨s1,s2⟩:=(uh HS) _ (kb_alloc 0 w _);exact ⟨rfl,s1,fun q'=>⟨fun e=>by rw [(uh HB)] at e;cases e;exact s2,fun e=>by rw [(uh HB)] at e;cases e⟩⟩
theorem wr_22 {np base : Nat} {d : Pd} {v : Value} {T : List Int} (a : Iv) (w : World) (ht : Tok np d a) (hO : OwI base w v T) (hl : (T.length : Int) = d.g) (hg : d.g ≤ 250) (hop : a.o = 22) :
  Calls Tryz.prog 63 #[.agg #[.int .i64 a.o,.int .i64 a.a,.int .i64 a.b,.int .i64 a.c,.int .i64 a.d],v] w (WrA a T base v w):=by
 obtain ⟨o,oa,ob,oc,od⟩:=a;dsimp only at hop;subst hop;have hr:=tok_a ht 0 (by omega);have hr : 0≤oa∧oa≤d.g - 1:=hr;obtain ⟨k,hk1,rfl⟩:∃ k:Nat,0≤k∧oa=(k:Int):=⟨oa.toNat,by omega,by omega⟩
 obtain ⟨b,q,cap,y,rfl,hbq,hcap,hbase,hob,c1,fz,hset⟩:=own_wr hO (k:=k) (by omega);have hput:put ⟨22,(k:Int),ob,oc,od⟩ T=T.set k 3:=rfl;have fz1:=fz k;have kI:(k:Int) < (T.length:Int):=by omega
 have lI:(T.length:Int)≤250:=by omega
 have cI:(T.length:Int)≤(cap:Int):=by omega
 have HS:Hid (∀ W',Kb 0 w W'→OwI base (W'.setCell (b.add k) (.int .i64 3)) (.slice (some b) T.length cap) (put ⟨22,(k:Int),ob,oc,od⟩ T)∧Kx q w (W'.setCell (b.add k) (.int .i64 3))):=(fun W' kk=>by rw [hput];exact hset W' kk 3:∀ W',_)
 have HB:Hid ((Value.slice (some b) T.length cap).ownBlock=some q):=hob;have c1':∀ o,(w.alloc o).cell? (b.add k)=some (.int .i64 y):=fun o=>(kb_alloc 0 w o).cell c1
 have fz':∀ o,(w.alloc o).frozen? (b.add k)=false:=fun o=>by
  have hlt:b.block < w.heap.size:=by have:=lt_of_cell' c1;rw [add_block] at this;exact this
  exact (World.frozen?_of_block (by rw [add_block];exact (kb_alloc 0 w o).block _ zq hlt)).trans fz1
 clear hr ht hO hl hg hbq hcap hbase hob hset hput fz c1 fz1 hk1;go_enter Tryz.func63,Tryz.ntmps63;go_wp2_with fail;refine ⟨rfl,.tuple #[],by simp [results,Tryz.results63],?_⟩;obtain ⟨s1,s2⟩:=(uh HS) _ (kb_alloc 0 w _);exact ⟨rfl,s1,fun q'=>⟨fun e=>by rw [(uh HB)] at e;cases e;exact s2,fun e=>by rw [(uh HB)] at e;cases e⟩⟩
theorem wr_27 {np base : Nat} {d : Pd} {v : Value} {T : List Int} (a : Iv) (w : World) (ht : Tok np d a) (hO : OwI base w v T) (hl : (T.length : Int) = d.g) (hg : d.g ≤ 250) (hop : a.o = 27) :
  Calls Tryz.prog 63 #[.agg #[.int .i64 a.o,.int .i64 a.a,.int .i64 a.b,.int .i64 a.c,.int .i64 a.d],v] w (WrA a T base v w):=by
 obtain ⟨o,oa,ob,oc,od⟩:=a;dsimp only at hop;subst hop;have hr:=tok_a ht 0 (by omega);have hr : 0≤oa∧oa≤d.g - 1:=hr;obtain ⟨k,hk1,rfl⟩:∃ k:Nat,0≤k∧oa=(k:Int):=⟨oa.toNat,by omega,by omega⟩
 obtain ⟨b,q,cap,y,rfl,hbq,hcap,hbase,hob,c1,fz,hset⟩:=own_wr hO (k:=k) (by omega);have hput:put ⟨27,(k:Int),ob,oc,od⟩ T=T.set k 3:=rfl;have fz1:=fz k;have kI:(k:Int) < (T.length:Int):=by omega
 have lI:(T.length:Int)≤250:=by omega
 have cI:(T.length:Int)≤(cap:Int):=by omega
 have HS:Hid (∀ W',Kb 0 w W'→OwI base (W'.setCell (b.add k) (.int .i64 3)) (.slice (some b) T.length cap) (put ⟨27,(k:Int),ob,oc,od⟩ T)∧Kx q w (W'.setCell (b.add k) (.int .i64 3))):=(fun W' kk=>by rw [hput];exact hset W' kk 3:∀ W',_)
 have HB:Hid ((Value.slice (some b) T.length cap).ownBlock=some q):=hob;have c1':∀ o,(w.alloc o).cell? (b.add k)=some (.int .i64 y):=fun o=>(kb_alloc 0 w o).cell c1
 have fz':∀ o,(w.alloc o).frozen? (b.add k)=false:=fun o=>by
  have hlt:b.block < w.heap.size:=by have:=lt_of_cell' c1;rw [add_block] at this;exact this
  exact (World.frozen?_of_block (by rw [add_block];exact (kb_alloc 0 w o).block _ zq hlt)).trans fz1
 clear hr ht hO hl hg hbq hcap hbase hob hset hput fz c1 fz1 hk1;go_enter Tryz.func63,Tryz.ntmps63;go_wp2_with fail;refine ⟨rfl,.tuple #[],by simp [results,Tryz.results63],?_⟩;obtain ⟨s1,s2⟩:=(uh HS) _ (kb_alloc 0 w _);exact ⟨rfl,s1,fun q'=>⟨fun e=>by rw [(uh HB)] at e;cases e;exact s2,fun e=>by rw [(uh HB)] at e;cases e⟩⟩
