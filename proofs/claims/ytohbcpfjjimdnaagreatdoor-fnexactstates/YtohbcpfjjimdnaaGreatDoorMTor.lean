import Derived.Test.YtohbcpfjjimdnaaGreatDoorMTob
set_option maxHeartbeats 32000000
namespace Go.Proofs.YtohbcpfjjimdnaaGreatDoor.Fo
open Go.ChangeShapes Go.WideShapes Go.ChangeAt Go.RowKit
set_option linter.unusedVariables false
set_option maxRecDepth 100000
theorem wp_region_kbd{w0:World}{m:Nat}{P:Program}{id:Nat}{Q:Exit->Act->World->Prop}{A:Act}{l:List Oper}(hm:P.follows .mixedOrders=true)(hB:Region.lexB .any l.toArray=true)
  (h:wpQuiet P l.toArray (λw'=>∃p:KW w0,w'=p.w) (λa'=>∀w',(∃p:KW w0,w'=p.w)->Q .normal a' w') l A):(Code.region id l.toArray true).wp P Q A (w0.drewN m):=
 wp_region_quiet (C:=λw'=>∃p:KW w0,w'=p.w) hm hB ⟨⟨_,((Kb.refl 0 w0).drewN m).drew⟩,rfl⟩ (by simpa using h)
theorem im_spares{av bv cv:Nat->Prop}{C:Nat}{a:Iv}{G:List Gv}{A B' K':List Int}{vt vg v8 v9:Value}(w:World)(hC:ChB C a vt vg v8 v9 w)(r:Rg av w vg G)(ra:Rz av w vt A)(rb:Rz bv w v8 B')(rk:Rz cv w v9 K')(hn:G.length<=50)(hg:∀g,g ∈ G->0<=g.2.1/\g.2.1<=(A.length:Int))(hl:A.length<=250/\B'.length=A.length/\K'.length<=1000):
  Calls Tryz.prog 85 #[.pointer (some ⟨C,0,none⟩)] w λe w'=>e=.returned (.bool (dc (spr a G A B' K')))/\Kb 0 w w':=by
 obtain⟨R,hR⟩:∃R,R=dc (spr a G A B' K'):=⟨_,rfl⟩
 rw[<-hR];have hC':w.heap[C]? =_:=hC;have c7:w.cell? ⟨C,7,none⟩=some vg:=cell_of hC' rfl;have HKP:=im_kept w c7 r (by omega) (λg hg'=>by have:=hg g hg';omega);obtain⟨k,hk⟩:∃k:Nat,kpt G=(k:Int):=⟨(kpt G).toNat,by have:=kpt_nn G;omega⟩
 have hkA:k<=A.length:=by have:=kpt_le (G:=G) (k:=(A.length:Int)) (by omega) (λg hg'=>(hg g hg').2);omega
 rw[hk]at HKP;have hCs:C<w.heap.size:=(Array.getElem?_eq_some_iff.1 hC').1;obtain⟨pt,ct,rfl,hct,ra2⟩:=id ra;obtain⟨p8,c8,rfl,hc8,rb2⟩:=id rb;obtain⟨p9,c9,rfl,hc9,rk2⟩:=id rk
 have HY:Hid (spr a G A B' K'↔(¬(a.o=40/\a.a<(k:Int))/\B'.take k=A.take k/\¬∃x,x ∈ K'/\x<(k:Int))):=by
  unfold spr;rw[hk,show((k:Int)).toNat=k from rfl];constructor
  ·rintro⟨h1,h2,h3⟩;exact⟨h1,h2,λ⟨x,q1,q2⟩=>by have:=h3 x q1;omega⟩
  ·rintro⟨h1,h2,h3⟩
   exact⟨h1,h2,λx q1=>by
    apply Classical.byContradiction;intro q2
    exact h3 ⟨x,q1,by omega⟩⟩
 have HCB:Hid (∀W,Kb 0 w W->W.cell? ⟨C,0,none⟩=some (.int .i64 a.o)/\W.cell? ⟨C,1,none⟩=some (.int .i64 a.a)/\W.cell? ⟨C,6,none⟩=some (.slice pt A.length ct)/\W.cell? ⟨C,8,none⟩=some (.slice p8 B'.length c8)/\W.cell? ⟨C,9,none⟩=some (.slice p9 K'.length c9)):=(λW kk=>⟨kk.cell (cell_of hC' rfl),kk.cell (cell_of hC' rfl),kk.cell (cell_of hC' rfl),kk.cell (cell_of hC' rfl),kk.cell (cell_of hC' rfl)⟩:∀W,_)
 have HRW:Hid (Rz av w (.slice pt A.length ct) A/\Rz bv w (.slice p8 B'.length c8) B'/\Rz cv w (.slice p9 K'.length c9) K'/\k<=A.length/\A.length<=250/\B'.length=A.length/\K'.length<=1000/\A.length<=ct/\B'.length<=c8):=(⟨ra,rb,rk,hkA,hl.1,hl.2.1,hl.2.2,hct,hc8⟩:_/\_)
 have HRD:Hid (R=dc (spr a G A B' K')):=hR;clear hR hC hC' r ra rb rk hn hg ra2 rb2 rk2 hk;go_enter Tryz.func85,Tryz.ntmps85;go_upto_region 2 with(go_at_call 122;refine HKP.mono ?_;rintro e w3 ⟨rfl,k3⟩;have HK3:Hid (Kb 0 w w3):=k3;clear k3 HKP c7);obtain⟨w4,hw4⟩:∃w4,w4=w3.alloc (.cells #[.int .i64 k] 3):=⟨_,rfl⟩
 obtain⟨B,hB⟩:∃B,B=w3.heap.size:=⟨_,rfl⟩
 rw[<-hw4,<-hB];have k4:Kb 0 w w4:=by rw[hw4];exact(uh HK3).alloc _
 have b0:w4.cell? ⟨B,0,none⟩=some (.int .i64 k):=by rw[hw4,hB];exact cell_of (alloc_new _ _ _) rfl
 obtain⟨y0,y1,y6,y8,y9⟩:=(uh HCB) w4 k4;have HK4:Hid (Kb 0 w w4):=k4;clear hw4 hB HK3 k4 HCB;obtain⟨rA,rB,rK,hkA,hA,hB',hK',hct,hc8⟩:=(uh HRW)
 have hYI:=(uh HY)
 by_cases c40:a.o=40/\a.a<(k:Int)
 ·have hF:R=false:=by rw[(uh HRD)];exact dc_f (λq=>(hYI.1 q).1 c40)
  subst hF;have g40:(a.o==40)=true:=beq1 c40.1;have gk:=c40.2;clear HRD HRW HY rA rB rK hkA hA hB' hK' hct hc8 hYI c40 y6 y8 y9
  go_quiet (skip)
  go_wp2_with fail;go_ret;exact⟨rfl,(uh HK4).drewN _⟩
 have HCE:Hid (∀p:KW w4,Calls Tryz.prog 77 #[.slice p8 k c8,.slice pt k ct] p.w λe w'=>e=.returned (.bool (dc (B'.take k=A.take k)))/\∃q:KW w4,w'=q.w):=(λp=>by
  have kk:=(uh HK4).trans p.k;refine(im_eqi p.w (rz_take (rB.kb kk) (by omega)) (rz_take (rA.kb kk) hkA) ⟨by rw[List.length_take];omega,by rw[List.length_take];omega⟩).mono ?_;rintro e w' ⟨rfl,k'⟩
  exact⟨rfl,⟨w',p.k.trans k'⟩,rfl⟩:∀p,_)
 have HCC:Hid (∀p:KW w4,Calls Tryz.prog 123 #[.slice p9 K'.length c9,.func (.func 124) #[] #[.pointer (some ⟨B,0,none⟩)]] p.w λe w'=>e=.returned (.bool (dc (∃x,x ∈ K'/\x<(k:Int))))/\∃q:KW w4,w'=q.w):=(λp=>by
  have kk:=(uh HK4).trans p.k;refine(im_ctbelow (k:Int) B p.w (rK.kb kk) hK' (p.k.cell b0)).mono ?_;rintro e w' ⟨rfl,rfl⟩
  exact⟨rfl,p,rfl⟩:∀p,_)
 have HP:Hid (∀p:KW w4,p.w.cell? ⟨C,6,none⟩=some (.slice pt A.length ct)/\p.w.cell? ⟨C,8,none⟩=some (.slice p8 B'.length c8)/\p.w.cell? ⟨C,9,none⟩=some (.slice p9 K'.length c9)/\p.w.cell? ⟨B,0,none⟩=some (.int .i64 k)):=(λp=>⟨p.k.cell y6,p.k.cell y8,p.k.cell y9,p.k.cell b0⟩:∀p,_)
 have kA:(k:Int)<=(A.length:Int):=by omega
 have kB:(k:Int)<=(B'.length:Int):=by omega
 have AI:(A.length:Int)<=250:=by omega
 have BI:(B'.length:Int)<=250:=by omega
 have KI:(K'.length:Int)<=1000:=by omega
 have ctI:(k:Int)<=(ct:Int):=by omega
 have c8I:(k:Int)<=(c8:Int):=by omega
 have HRR:Hid (R=dc (B'.take k=A.take k/\¬∃x,x ∈ K'/\x<(k:Int))):=by
  show R=_;rw[(uh HRD)];exact dc_iff (hYI.trans ⟨λq=>q.2,λq=>⟨c40,q⟩⟩)
 clear HRD HRW HY rA rB rK hkA hA hB' hK' hct hc8 hYI y6 y8 y9;by_cases c4:a.o=40
 ·have g40:(a.o==40)=true:=beq1 c4;have gk:¬a.a<(k:Int):=λq=>c40 ⟨c4,q⟩;clear c40 c4;have CE:=(uh HCE)
  have CC:=(uh HCC)
  have p6:∀p:KW w4,p.w.cell? ⟨C,6,none⟩=some (.slice pt A.length ct):=λp=>((uh HP) p).1;have p8':∀p:KW w4,p.w.cell? ⟨C,8,none⟩=some (.slice p8 B'.length c8):=λp=>((uh HP) p).2.1;have p9':∀p:KW w4,p.w.cell? ⟨C,9,none⟩=some (.slice p9 K'.length c9):=λp=>((uh HP) p).2.2.1;have pB:∀p:KW w4,p.w.cell? ⟨B,0,none⟩=some (.int .i64 k):=λp=>((uh HP) p).2.2.2;have hne:Nonempty (KW w4):=⟨⟨w4,Kb.refl _ _⟩⟩
  have hRR:=(uh HRR)
  clear HCE HCC HP HRR;by_cases ceq:B'.take k=A.take k
  ·rw[dc_t ceq]at CE;by_cases cex:∃x,x ∈ K'/\x<(k:Int)
   ·rw[dc_t cex]at CC;have hRb:R=false:=by rw[hRR];exact dc_f (λq=>q.2 cex)
    subst hRb;clear hRR ceq cex
    go_quiet (skip)
    go_upto_region 4 with fail;refine wp_region_kbd (by kernel_rfl) (by kernel_rfl) ?_
    repeat go_big_quiet_step ((first|(go_at_call 77;exact CE _)|(go_at_call 123;exact CC _)|fail))
    refine wpQuiet_nil ?_;intro w5 hw'
    have HK5:Hid (Kb 0 w w5):=by
     obtain⟨q,hq⟩:=hw';rw[hq];exact(uh HK4).trans q.k
    clear hw' CE CC p6 p8' p9' pB hne;go_wp2_with fail;refine bodyPost_ret (by simp[results,Tryz.results85,go_sem];rfl) rfl ?_;exact⟨by first|rfl|simp,HK5⟩
   ·rw[dc_f cex]at CC;have hRb:R=true:=by rw[hRR];exact dc_t ⟨ceq,cex⟩
    subst hRb;clear hRR ceq cex
    go_quiet (skip)
    go_upto_region 4 with fail;refine wp_region_kbd (by kernel_rfl) (by kernel_rfl) ?_
    repeat go_big_quiet_step ((first|(go_at_call 77;exact CE _)|(go_at_call 123;exact CC _)|fail))
    refine wpQuiet_nil ?_;intro w5 hw'
    have HK5:Hid (Kb 0 w w5):=by
     obtain⟨q,hq⟩:=hw';rw[hq];exact(uh HK4).trans q.k
    clear hw' CE CC p6 p8' p9' pB hne;go_wp2_with fail;refine bodyPost_ret (by simp[results,Tryz.results85,go_sem];rfl) rfl ?_;exact⟨by first|rfl|simp,HK5⟩
  ·rw[dc_f ceq]at CE;have hRb:R=false:=by rw[hRR];exact dc_f (λq=>ceq q.1)
   subst hRb;clear hRR ceq
   go_quiet (skip)
   go_upto_region 4 with fail;refine wp_region_kbd (by kernel_rfl) (by kernel_rfl) ?_
   repeat go_big_quiet_step ((first|(go_at_call 77;exact CE _)|(go_at_call 123;exact CC _)|fail))
   refine wpQuiet_nil ?_;intro w5 hw'
   have HK5:Hid (Kb 0 w w5):=by
    obtain⟨q,hq⟩:=hw';rw[hq];exact(uh HK4).trans q.k
   clear hw' CE CC p6 p8' p9' pB hne;go_wp2_with fail;refine bodyPost_ret (by simp[results,Tryz.results85,go_sem];rfl) rfl ?_;exact⟨by first|rfl|simp,HK5⟩
 ·have g40:=bne c4;clear c40 c4;have CE:=(uh HCE)
  have CC:=(uh HCC)
  have p6:∀p:KW w4,p.w.cell? ⟨C,6,none⟩=some (.slice pt A.length ct):=λp=>((uh HP) p).1;have p8':∀p:KW w4,p.w.cell? ⟨C,8,none⟩=some (.slice p8 B'.length c8):=λp=>((uh HP) p).2.1;have p9':∀p:KW w4,p.w.cell? ⟨C,9,none⟩=some (.slice p9 K'.length c9):=λp=>((uh HP) p).2.2.1;have pB:∀p:KW w4,p.w.cell? ⟨B,0,none⟩=some (.int .i64 k):=λp=>((uh HP) p).2.2.2;have hne:Nonempty (KW w4):=⟨⟨w4,Kb.refl _ _⟩⟩
  have hRR:=(uh HRR)
  clear HCE HCC HP HRR;by_cases ceq:B'.take k=A.take k
  ·rw[dc_t ceq]at CE;by_cases cex:∃x,x ∈ K'/\x<(k:Int)
   ·rw[dc_t cex]at CC;have hRb:R=false:=by rw[hRR];exact dc_f (λq=>q.2 cex)
    subst hRb;clear hRR ceq cex
    go_quiet (skip)
    go_upto_region 4 with fail;refine wp_region_kbd (by kernel_rfl) (by kernel_rfl) ?_
    repeat go_big_quiet_step ((first|(go_at_call 77;exact CE _)|(go_at_call 123;exact CC _)|fail))
    refine wpQuiet_nil ?_;intro w5 hw'
    have HK5:Hid (Kb 0 w w5):=by
     obtain⟨q,hq⟩:=hw';rw[hq];exact(uh HK4).trans q.k
    clear hw' CE CC p6 p8' p9' pB hne;go_wp2_with fail;refine bodyPost_ret (by simp[results,Tryz.results85,go_sem];rfl) rfl ?_;exact⟨by first|rfl|simp,HK5⟩
   ·rw[dc_f cex]at CC;have hRb:R=true:=by rw[hRR];exact dc_t ⟨ceq,cex⟩
    subst hRb;clear hRR ceq cex
    go_quiet (skip)
    go_upto_region 4 with fail;refine wp_region_kbd (by kernel_rfl) (by kernel_rfl) ?_
    repeat go_big_quiet_step ((first|(go_at_call 77;exact CE _)|(go_at_call 123;exact CC _)|fail))
    refine wpQuiet_nil ?_;intro w5 hw'
    have HK5:Hid (Kb 0 w w5):=by
     obtain⟨q,hq⟩:=hw';rw[hq];exact(uh HK4).trans q.k
    clear hw' CE CC p6 p8' p9' pB hne;go_wp2_with fail;refine bodyPost_ret (by simp[results,Tryz.results85,go_sem];rfl) rfl ?_;exact⟨by first|rfl|simp,HK5⟩
  ·rw[dc_f ceq]at CE;have hRb:R=false:=by rw[hRR];exact dc_f (λq=>ceq q.1)
   subst hRb;clear hRR ceq
   go_quiet (skip)
   go_upto_region 4 with fail;refine wp_region_kbd (by kernel_rfl) (by kernel_rfl) ?_
   repeat go_big_quiet_step ((first|(go_at_call 77;exact CE _)|(go_at_call 123;exact CC _)|fail))
   refine wpQuiet_nil ?_;intro w5 hw'
   have HK5:Hid (Kb 0 w w5):=by
    obtain⟨q,hq⟩:=hw';rw[hq];exact(uh HK4).trans q.k
   clear hw' CE CC p6 p8' p9' pB hne;go_wp2_with fail;refine bodyPost_ret (by simp[results,Tryz.results85,go_sem];rfl) rfl ?_;exact⟨by first|rfl|simp,HK5⟩
