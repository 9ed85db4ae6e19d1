import Derived.Test.YtohbcpfjjimdnaaGreatDoorMTnh
import Derived.Test.YtohbcpfjjimdnaaGreatDoorMCbi
import Derived.Test.YtohbcpfjjimdnaaGreatDoorMEgb
set_option maxHeartbeats 16000000
namespace Go.Proofs.YtohbcpfjjimdnaaGreatDoor.Fo
open Go.ChangeShapes Go.WideShapes Go.ChangeAt Go.RowKit Go.Shelf
set_option linter.unusedVariables false
set_option maxRecDepth 100000
variable {b n nf:Nat}{W:World}{v va:Value}{F:Nat->Pd}
theorem RowPF.mono{c:Nat}(h:RowPF b W v n F)(hc:c<=b):RowPF c W v n F:=by
 obtain⟨g,h1,h2,h3⟩:=h;exact⟨g,h1,Nat.le_trans hc h2,h3⟩
theorem RowPF.form(h:RowPF b W v n F):∃p c,v=.slice p n c/\True:=by
 obtain⟨g,h1,_⟩:=h;exact⟨_,_,h1,trivial⟩
theorem to_code0F(w:World)
  (g0:∀W,Kb 0 w W->Calls Tryz.prog 16 #[va] W λe w'=>∃v,e=.returned v/\RowPF W.heap.size w' (v) nf F/\Kb 0 W w'):
  Calls Tryz.prog 6 #[.agg #[va]] w λe w'=>∃v0,e=.returned (.agg #[v0])/\RowPF w.heap.size w' (v0) nf F/\Kb 0 w w':=by
 have G0:Hid (∀W,Kb 0 w W->Calls Tryz.prog 16 #[va] W λe w'=>∃v,e=.returned v/\RowPF W.heap.size w' (v) nf F/\Kb 0 W w'):=g0;clear g0;go_enter Tryz.func6,Tryz.ntmps6;go_wp2_with fail;obtain⟨w3,hw3⟩:∃w3,w3=((w.alloc (.cells #[va] 24)).alloc (.cells #[.slice none 0 0] 30)).alloc (.cells #[.slice none 0 0] 30):=⟨_,rfl⟩
 rw[<-hw3];obtain⟨b0,b1,b2,z3,k3⟩:=three_new w _ _ _ _ _ _ w3 hw3;clear hw3;refine((show ∀W,Kb 0 w W->Calls Tryz.prog 16 #[va] W λe w'=>∃v,e=.returned v/\RowPF W.heap.size w' (v) nf F/\Kb 0 W w' from G0) w3 k3).mono ?_;rintro e x0 ⟨v0,rfl,r0,q0⟩;clear G0;have zq0:=q0.size;have zz0:w.heap.size+3<=w3.heap.size:=by omega
 have b0x0:x0.heap[w.heap.size]? =some (.cells #[va] 24 (0,0)):=(q0.block _ zq (by omega)).trans b0;have b1x0:x0.heap[w.heap.size+1]? =some (.cells #[.slice none 0 0] 30 (0,0)):=(q0.block _ zq (by omega)).trans b1;have b2x0:x0.heap[w.heap.size+1+1]? =some (.cells #[.slice none 0 0] 30 (0,0)):=(q0.block _ zq (by omega)).trans b2;clear b0 b1 b2;obtain⟨p0,l0,rfl,_⟩:=r0.form;have s0:=r0.mono (show w.heap.size+3<=w3.heap.size by omega);have KW:=k3.trans q0;have e0:x0.cell? ⟨w.heap.size+1+1,0,none⟩=some (.slice none 0 0):=cell_of b2x0 rfl;have fz:x0.frozen? ⟨w.heap.size+1+1,0,none⟩=false:=frozen_of b2x0;have a0:x0.cell? ⟨w.heap.size+1,0,none⟩=some (.slice none 0 0):=cell_of b1x0 rfl;have fy:∀j,x0.frozen? ⟨w.heap.size+1,j,none⟩=false:=λj=>frozen_of b1x0;have HE:Hid (Kb 0 w x0/\RowPF (w.heap.size+3) x0 (.slice p0 nf l0) nf F):=(⟨KW,s0⟩:_/\_)
 clear KW s0 b0x0 b1x0 b2x0 r0 q0 zq0 zz0 k3 z3;go_wp2_with fail;refine bodyPost_ret (by simp[results,Tryz.results6,go_sem,a0];rfl) rfl ?_;obtain⟨KW,s0⟩:=(uh HE)
 clear HE;have hq:=((Kb.refl (w.heap.size+3) x0).setCell ⟨w.heap.size+1+1,0,none⟩ (Or.inl (show w.heap.size+1+1<w.heap.size+3 by omega)) (.slice p0 nf l0)).setCell ⟨w.heap.size+1,0,none⟩ (Or.inl (show w.heap.size+1<w.heap.size+3 by omega)) (.slice p0 nf l0);have hk:=((KW).setCell ⟨w.heap.size+1+1,0,none⟩ (Or.inr (show w.heap.size<=w.heap.size+1+1 by omega)) (.slice p0 nf l0)).setCell ⟨w.heap.size+1,0,none⟩ (Or.inr (show w.heap.size<=w.heap.size+1 by omega)) (.slice p0 nf l0);exact⟨_,rfl,(s0.keep hq).mono (by omega),hk⟩
theorem to_codeF(w:World)(ha:RowP 0 w va nf F)(hb:Bd nf F):Calls Tryz.prog 6 #[.agg #[va]] w λe w'=>∃v,e=.returned (.agg #[v])/\RowPF w.heap.size w' v nf F/\Kb 0 w w':=
 to_code0F w (λW k=>to_prosF W (ha.keep k) hb.hnp (λi hi=>⟨hb.hu i hi,hb.hc i hi,hb.hn i hi,hb.hd i hi⟩))
theorem to_codeR(w:World)(ha:RowP 0 w va nf F)(hb:Bd nf F):Calls Tryz.prog 6 #[.agg #[va]] w λe w'=>∃v,e=.returned (.agg #[v])/\RowP w.heap.size w' v nf F/\Kb 0 w w':=
 (to_codeF w ha hb).mono (λe w' h=>by
  obtain⟨v,a,r,k⟩:=h
  exact⟨v,a,r.row,k⟩)
theorem smk_le(h:nf+sm (szP F) nf<=1048576):sm (λi=>5+2*(F i).u+5*(F i).c+5*(F i).n+4*(F i).d) nf<=100000000:=by
 have:∀k,k<=nf->sm (λi=>5+2*(F i).u+5*(F i).c+5*(F i).n+4*(F i).d) k<=5*k+5*sm (szP F) k:=by
  intro k
  induction k with
  |zero=>intro _;exact Nat.zero_le _
  |succ k ih=>
   intro hk;have:=ih (by omega);show sm (λi=>5+2*(F i).u+5*(F i).c+5*(F i).n+4*(F i).d) k+(5+2*(F k).u+5*(F k).c+5*(F k).n+4*(F k).d)<=5*(k+1)+5*(sm (szP F) k+szP F k);have e:szP F k=(F k).x.size+(F k).u+((F k).c+sm (λj=>((F k).C j).x.size) (F k).c)+(F k).n+((F k).d+sm (λj=>((F k).D j).x.size) (F k).d):=rfl;omega
 have:=this nf (Nat.le_refl _);omega
theorem law_st{pa:Option Addr}{ca:Nat}{q:Int}(w:World)(hsp:∀W v,RowP 0 W v nf F->Bd nf F->Calls Tryz.prog 5 #[.agg #[v],.int .i64 q] W (SpS nf F q W))(him:∀W v,Kb 0 w W->RowP 0 W v nf F->Bd nf F->Calls Tryz.prog 7 #[.agg #[v],.int .i64 q] W (ImS nf F q W))(ha:RowP 0 w (.slice pa nf ca) nf F)(hn:(nf:Int)<140737488355328)(hF:∀i,i<nf->RdPc (F i)):
  Calls Tryz.prog 3 #[.agg #[.slice pa nf ca],.int .i64 q] w λe w'=>e=.returned (.bool true)/\Kb 0 w w':=by
 have HSZ:Hid (∀o,Calls Tryz.prog 4 #[.agg #[.slice pa nf ca],.int .i64 1048576] (w.alloc o) (Szd (nf+sm (szP F) nf) 1048576 (w.alloc o))):=(λo=>sz_code (w.alloc o) (ha.keep (kb_alloc _ _ _)) hn (bf_of hF):∀o,_)
 have HA:Hid (RowP 0 w (.slice pa nf ca) nf F/\(∀i,i<nf->RdPc (F i))):=(⟨ha,hF⟩:_/\_)
 have HSP:Hid (∀W v,RowP 0 W v nf F->Bd nf F->Calls Tryz.prog 5 #[.agg #[v],.int .i64 q] W (SpS nf F q W)):=hsp;have HIM:Hid (∀W v,Kb 0 w W->RowP 0 W v nf F->Bd nf F->Calls Tryz.prog 7 #[.agg #[v],.int .i64 q] W (ImS nf F q W)):=him;obtain⟨w0,hw0⟩:∃w0,w0=w.alloc (.cells #[.slice pa nf ca] 24):=⟨_,rfl⟩
 have k0:Kb 0 w w0:=by rw[hw0];exact kb_alloc _ _ _
 have b0:w0.cell? ⟨w.heap.size,0,none⟩=some (.slice pa nf ca):=by rw[hw0];exact cell_of (alloc_new _ _ _) rfl
 have HS0:Hid (Calls Tryz.prog 4 #[.agg #[.slice pa nf ca],.int .i64 1048576] w0 (Szd (nf+sm (szP F) nf) 1048576 w0)):=by rw[hw0];exact(uh HSZ) _
 have HC:Hid (Kb 0 w w0/\w0.cell? ⟨w.heap.size,0,none⟩=some (.slice pa nf ca)):=(⟨k0,b0⟩:_/\_)
 have HW0:Hid (w0=w.alloc (.cells #[.slice pa nf ca] 24)):=hw0;clear ha hn hF hsp him HSZ k0 b0 hw0;go_enter Tryz.func3,Tryz.ntmps3;go_wp2_with fail;rw[<-(uh HW0)];clear HW0;refine(uh HS0).mono ?_;rintro e w1 ⟨r,rfl,hr1,hr2,hr3,k1⟩;clear HS0;rcases Int.lt_or_le r 0 with h|h
 ·have HB:Hid (Kb 0 w w1):=HC.1.trans k1;clear k1 hr1 HA HSP HIM HC;go_wp2_with fail;go_ret;exact⟨rfl,HB⟩
 ·have h':¬r<0:=by omega
  have HBD:Hid (Bd nf F/\sm (λi=>5+2*(F i).u+5*(F i).c+5*(F i).n+4*(F i).d) nf<=100000000):=(⟨bd_of (by have:=hr1 h;omega) HA.2,smk_le (by have:=hr1 h;omega)⟩:_/\_)
  have HK1:Hid (Kb 0 w w1/\w1.cell? ⟨w.heap.size,0,none⟩=some (.slice pa nf ca)):=(⟨HC.1.trans k1,k1.cell HC.2⟩:_/\_)
  have c1:w1.cell? ⟨w.heap.size,0,none⟩=some (.slice pa nf ca):=HK1.2;clear hr1 k1 HC;go_wp2_with fail;refine(to_codeR w1 (HA.1.keep HK1.1) HBD.1).mono ?_;rintro e w2 ⟨v1,rfl,r1,k2⟩;have HK2:Hid (Kb 0 w w2/\w2.cell? ⟨w.heap.size,0,none⟩=some (.slice pa nf ca)/\RowP 0 w2 v1 nf F):=(⟨HK1.1.trans k2,k2.cell c1,r1.mono zq⟩:_/\_/\_)
  obtain⟨p1,q1,rfl,-⟩:=id r1;clear c1 HK1 r1 k2;go_wp2_with fail;refine((uh HSP) w2 _ HK2.2.2 HBD.1).mono ?_;rintro e w3 ⟨vw,n,S0,rfl,hans,hrow,k3⟩;obtain⟨pw,cw,rfl,-⟩:=id hrow;have HAN:Hid (StA nf F q n S0):=hans;have HK3:Hid (Kb 0 w w3/\w3.cell? ⟨w.heap.size,0,none⟩=some (.slice pa nf ca)/\RowSt w3 (.slice pw n cw) n S0):=(⟨HK2.1.trans k3,k3.cell HK2.2.1,hrow⟩:_/\_)
  have c3:w3.cell? ⟨w.heap.size,0,none⟩=some (.slice pa nf ca):=HK3.2.1;clear HK2 HSP hans hrow k3;go_wp2_with fail;clear c3;refine(to_codeF w3 (HA.1.keep HK3.1) HBD.1).mono ?_;rintro e w5 ⟨vx,rfl,rx,k5⟩;obtain⟨g,rfl,hgB,hmst⟩:=mst_of rx;obtain⟨w6,hw6⟩:∃w6,w6=w5.alloc (.cells #[.slice (some ⟨g,0,none⟩) nf nf] 30):=⟨_,rfl⟩
  have k56:Kb 0 w5 w6:=by rw[hw6];exact kb_alloc _ _ _
  have s6:w6.heap.size=w5.heap.size+1:=by rw[hw6];simp
  have HK6:Hid (Kb 0 w3 w6/\RowP 0 w6 (.slice (some ⟨g,0,none⟩) nf nf) nf F/\Mst g w5.heap.size nf F w6/\w3.heap.size<=g/\w3.heap.size<=w5.heap.size/\w5.heap.size<w6.heap.size/\w6.cell? ⟨w5.heap.size,0,none⟩=some (.slice (some ⟨g,0,none⟩) nf nf)):=(⟨k5.trans k56,(rx.row.mono zq).keep k56,hmst.kb k56,hgB,k5.size,by omega,by rw[hw6];exact cell_of (alloc_new _ _ _) rfl⟩:_/\_)
  have HW6:Hid (w6=w5.alloc (.cells #[.slice (some ⟨g,0,none⟩) nf nf] 30)):=hw6;clear rx k5 k56 hw6 hmst hgB s6;go_wp2_with fail;rw[<-(uh HW6)];clear HW6;refine((uh HIM) w6 _ (HK3.1.trans HK6.1) HK6.2.1 HBD.1).mono ?_;rintro e w7 ⟨vv,n',S,rfl,hans',how,k7⟩;obtain⟨rfl,hSS⟩:=(uh HAN).uniq hans';obtain⟨pg,cg,SB,ti,gi,vt,vg,rfl,hpg,hO,hD⟩:=how;have HSM:Hid (SmS n S/\(0<n->pg=some ⟨SB,0,none⟩)/\Dst w6.heap.size SB n ti gi (ntf S) (ngf S)/\(0<n->pg=some ⟨SB,0,none⟩/\n<=cg)/\(∀j,j<n->ntf S j<=1000/\ngf S j<=1000)/\n<=6000/\StA nf F q n S):=(⟨hans'.sm,λz=>(hpg z).1,hD,hpg,hans'.sm.2,hans'.sm.1,hans'⟩:_/\_)
  have HK7:Hid (Kb 0 w3 w7/\RowP 0 w7 (.slice (some ⟨g,0,none⟩) nf nf) nf F/\Mst g w5.heap.size nf F w7/\w7.cell? ⟨w5.heap.size,0,none⟩=some (.slice (some ⟨g,0,none⟩) nf nf)/\OwS w7 SB n ti gi (ntf S) (ngf S) vt vg (bsf S) (asf S) (vsf S)):=(⟨HK6.1.trans k7,HK6.2.1.keep k7,HK6.2.2.1.kb k7,k7.cell HK6.2.2.2.2.2.2,hO⟩:_/\_)
  have HGB:Hid (w3.heap.size<=g/\w3.heap.size<=w5.heap.size/\w5.heap.size<w6.heap.size):=(⟨HK6.2.2.2.1,HK6.2.2.2.2.1,HK6.2.2.2.2.2.1⟩:_/\_)
  have HW3:Hid (∀W,Kb 0 w3 W->RowSt W (.slice pw n cw) n S):=(λW k=>((uh HK3).2.2.same hSS).kb k:∀W,_)
  have hnI:(n:Int)<=6000:=by have:=hans'.sm.1;omega
  clear HK6 hO hD hpg k7 hans' hSS;have HEQ1:=eq_states w7 (HK7.2.2.2.2.rowst (uh HSM).2.2.2.1) ((uh HW3) w7 HK7.1) (uh HSM).1;go_wp2_with fail;refine HEQ1.mono ?_;rintro e w8 ⟨rfl,k8⟩;have HK8:Hid (Kb 0 w3 w8/\RowP 0 w8 (.slice (some ⟨g,0,none⟩) nf nf) nf F/\Mst g w5.heap.size nf F w8/\w8.cell? ⟨w5.heap.size,0,none⟩=some (.slice (some ⟨g,0,none⟩) nf nf)/\OwS w8 SB n ti gi (ntf S) (ngf S) vt vg (bsf S) (asf S) (vsf S)):=(⟨HK7.1.trans k8,HK7.2.1.keep k8,HK7.2.2.1.kb k8,k8.cell HK7.2.2.2.1,HK7.2.2.2.2.kb k8⟩:_/\_)
  have c5:w8.cell? ⟨w5.heap.size,0,none⟩=some (.slice (some ⟨g,0,none⟩) nf nf):=HK8.2.2.2.1;have c0:w8.cell? ⟨w.heap.size,0,none⟩=some (.slice pa nf ca):=HK8.1.cell HK3.2.1;have HTO:Hid (∀W,Kb 0 w8 W->Calls Tryz.prog 6 #[.agg #[.slice pa nf ca]] W λe w'=>∃v,e=.returned (.agg #[v])/\RowP W.heap.size w' v nf F/\Kb 0 W w'):=(λW k=>to_codeR W (HA.1.keep ((HK3.1.trans HK8.1).trans k)) HBD.1:∀W,_)
  have HEQ:Hid (∀W v2,Kb 0 w8 W->RowP 0 W v2 nf F->Calls Tryz.prog 9 #[.agg #[.slice (some ⟨g,0,none⟩) nf nf],.agg #[v2]] W λe w'=>e=.returned (.bool true)/\Kb 0 W w'):=(λW v2 k h2=>eq_code W (HK8.2.1.keep k) h2 HBD.1:∀W v2,_)
  have HC5:Hid (∀W,Kb 0 w8 W->W.cell? ⟨w5.heap.size,0,none⟩=some (.slice (some ⟨g,0,none⟩) nf nf)/\W.cell? ⟨w.heap.size,0,none⟩=some (.slice pa nf ca)):=(λW k=>⟨k.cell c5,k.cell c0⟩:∀W,_)
  clear HK7 HEQ1 k8;go_wp2_with fail
  go_region_held_law (λW'=>W'.cell? ⟨w5.heap.size,0,none⟩=some (.slice (some ⟨g,0,none⟩) nf nf)/\W'.cell? ⟨w.heap.size,0,none⟩=some (.slice pa nf ca)) (first|exact s11|exact s10|exact⟨c5,c0⟩)
   (first
    |(go_at_call 6;refine((uh HTO) _ (by exact Kb.drewN (Kb.refl _ _) 1)).mono ?_;rintro e w10 ⟨v2,rfl,o2,k10⟩;have K10:Kb 0 w8 w10:=⟨k10.os,k10.output,k10.size,k10.block⟩;have s10:=(uh HC5) w10 K10)
    |(go_at_call 9;refine((uh HEQ) _ _ K10 (o2.mono zq)).mono ?_;rintro e w11 ⟨rfl,k11⟩;have K11:Kb 0 w8 w11:=K10.trans k11;have s11:=(uh HC5) w11 K11))
  have HK11:Hid (Kb 0 w3 w11/\Mst g w5.heap.size nf F w11/\OwS w11 SB n ti gi (ntf S) (ngf S) vt vg (bsf S) (asf S) (vsf S)):=(⟨HK8.1.trans K11,HK8.2.2.1.kb K11,HK8.2.2.2.2.kb K11⟩:_/\_)
  have c11:w11.cell? ⟨w5.heap.size,0,none⟩=some (.slice (some ⟨g,0,none⟩) nf nf):=s11.1;clear c5 c0 HC5 HEQ HTO o2 k10 K10 s10 k11 K11 s11 HK8;have HMC:=mark_code (B:=w3.heap.size) (uh HBD).1.hnp (λi hi=>⟨(uh HBD).1.hu i hi,(uh HBD).1.hc i hi,(uh HBD).1.hn i hi,(uh HBD).1.hd i hi⟩) (uh HBD).2 (uh HGB).1 HK11.2.1;go_wp2_with fail;refine HMC.mono ?_;rintro e w12 ⟨km,rfl,k12⟩;have hkm:¬(km:Int)<0:=by omega
  have HK12:Hid (Kb 0 w3 w12/\OwS w12 SB n ti gi (ntf S) (ngf S) vt vg (bsf S) (asf S) (vsf S)):=(⟨⟨k12.os.trans HK11.1.os,k12.output.trans HK11.1.output,Nat.le_trans HK11.1.size k12.size,λb _ hb=>(k12.block b (Nat.lt_of_lt_of_le hb HK11.1.size) (Or.inl hb)).trans (HK11.1.block b zq hb)⟩,HK11.2.2.on (uh HSM).2.2.1 (λb h1 hb=>k12.block b hb (Or.inr (by have:=(uh HGB).2.2;omega)))⟩:_/\_)
  clear HMC k12 HK11 c11;have HEQ2:=eq_states w12 (HK12.2.rowst (uh HSM).2.2.2.1) ((uh HW3) w12 HK12.1) (uh HSM).1;go_wp2_with fail;refine HEQ2.mono ?_;rintro e w13 ⟨rfl,k13⟩;have HK13:Hid (Kb 0 w3 w13/\OwS w13 SB n ti gi (ntf S) (ngf S) vt vg (bsf S) (asf S) (vsf S)):=(⟨HK12.1.trans k13,HK12.2.kb k13⟩:_/\_)
  clear HEQ2 k13 HK12;have HMB:=mark_states (ca:=cg) w13 HK13.2 (uh HSM).2.2.1 (uh HSM).2.1 (uh HSM).2.2.2.2.2.1 (uh HSM).2.2.2.2.1;obtain⟨K,hK⟩:∃K:Int,K=(kS (ntf S) (ngf S) n:Int):=⟨_,rfl⟩
  rw[<-hK]at HMB;have HHK:Hid (K=(kS (ntf S) (ngf S) n:Int)):=hK;have hpos:¬K<0:=by omega
  clear hK;go_wp2_with fail;refine HMB.mono ?_;rintro e w14 ⟨rfl,ko14,om14⟩;have HK14:Hid (Kb 0 w3 w14/\OwS w14 SB n ti gi (ntf S) (ngf S) vt vg (mB (ntf S) (ngf S)) (mA (ntf S) (ngf S)) (mV (ntf S) (ngf S))):=(⟨⟨ko14.os.trans HK13.1.os,ko14.output.trans HK13.1.output,Nat.le_trans HK13.1.size ko14.size,λb _ hb=>(ko14.block b (Nat.lt_of_lt_of_le hb HK13.1.size) (by have:=(uh HGB).2;omega)).trans (HK13.1.block b zq hb)⟩,om14⟩:_/\_)
  clear HMB ko14 om14 HK13;have HHB:=held_states (ca:=cg) w14 HK14.2 (uh HSM).2.1 (uh HSM).2.2.2.2.2.1 (uh HSM).2.2.2.2.1;rw[<-(uh HHK)]at HHB;go_wp2_with fail;refine HHB.mono ?_;rintro e w15 ⟨rfl,k15⟩;have HK15:Hid (Kb 0 w3 w15/\OwS w15 SB n ti gi (ntf S) (ngf S) vt vg (mB (ntf S) (ngf S)) (mA (ntf S) (ngf S)) (mV (ntf S) (ngf S))):=(⟨HK14.1.trans k15,HK14.2.kb k15⟩:_/\_)
  have c15:w15.cell? ⟨w.heap.size,0,none⟩=some (.slice pa nf ca):=HK15.1.cell HK3.2.1;clear HHB k15 HK14;go_wp2_with fail;refine(to_codeR w15 (HA.1.keep (HK3.1.trans HK15.1)) HBD.1).mono ?_;rintro e w16 ⟨v16,rfl,r16,k16⟩;have HR16:Hid (RowP 0 w16 v16 nf F/\Kb 0 w15 w16):=(⟨r16.mono zq,k16⟩:_/\_)
  obtain⟨p16,q16,rfl,-⟩:=id r16;clear r16 k16 c15;go_wp2_with fail;refine((uh HIM) w16 _ ((HK3.1.trans HK15.1).trans HR16.2) HR16.1 HBD.1).mono ?_;rintro e w17 ⟨vh,n2,S2,rfl,hans2,oh,k17⟩;obtain⟨rfl,hS2⟩:=(uh HSM).2.2.2.2.2.2.uniq hans2;obtain⟨ph,ch,SB2,ti2,gi2,vt2,vg2,rfl,hph,hO2,-⟩:=oh;have K17:Kb 0 w15 w17:=HR16.2.trans k17;have HK17:Hid (Kb 0 w3 w17/\OwS w17 SB n ti gi (ntf S) (ngf S) vt vg (mB (ntf S) (ngf S)) (mA (ntf S) (ngf S)) (mV (ntf S) (ngf S))/\RowSt w17 (.slice ph n ch) n S):=(⟨HK15.1.trans K17,HK15.2.kb K17,(hO2.rowst hph).same (λj hj=>(hS2 j hj).symm)⟩:_/\_)
  clear hO2 hph k17 hans2 K17 HR16 HK15 HIM hS2;have HEQ3:=eq_states w17 HK17.2.2 ((uh HW3) w17 HK17.1) (uh HSM).1;go_wp2_with fail;refine HEQ3.mono ?_;rintro e w18 ⟨rfl,k18⟩;have HK18:Hid (Kb 0 w3 w18/\OwS w18 SB n ti gi (ntf S) (ngf S) vt vg (mB (ntf S) (ngf S)) (mA (ntf S) (ngf S)) (mV (ntf S) (ngf S))):=(⟨HK17.1.trans k18,HK17.2.1.kb k18⟩:_/\_)
  clear HEQ3 HK17 k18;have HHC:=held_states (ca:=cg) w18 HK18.2 (uh HSM).2.1 (uh HSM).2.2.2.2.2.1 (uh HSM).2.2.2.2.1;rw[<-(uh HHK)]at HHC;go_wp2_with fail;refine HHC.mono ?_;rintro e w19 ⟨rfl,k19⟩;have HB19:Hid (Kb 0 w w19):=(HK3.1.trans HK18.1).trans k19;clear HHC k19 HK18;go_wp2_with fail;go_ret;exact⟨rfl,HB19⟩
