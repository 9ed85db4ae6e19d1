import Derived.Test.YtohbcpfjjimdnaaGreatDoorMTqc
set_option maxHeartbeats 16000000
namespace Go.Proofs.YtohbcpfjjimdnaaGreatDoor.Fo
open Go.ChangeShapes Go.WideShapes Go.ChangeAt Go.RowKit
set_option linter.unusedVariables false
set_option maxRecDepth 100000
variable {av:Nat->Prop}{C:Nat}{a:Iv}{G:List Gv}{vt vg v8 v9:Value}
def ChB(C:Nat)(a:Iv)(vt vg v8 v9:Value)(W:World):Prop:=W.heap[C]? =some (.cells #[.int .i64 a.o,.int .i64 a.a,.int .i64 a.b,.int .i64 a.c,.int .i64 a.d,.bool true,vt,vg,v8,v9] 133 (0,0))
theorem kb_heap{w W':World}(e0:W'.heap=w.heap)(e1:W'.os=w.os)(e2:W'.output=w.output):Kb 0 w W':=⟨e1,e2,by rw[e0];exact Nat.le_refl _,λk _ _=>by rw[e0]⟩
theorem fg_32(w:World)(hC:ChB C a vt vg v8 v9 w)(r:Rg av w vg G)(hn:G.length<=50)(hg:∀g,g ∈ G->0<=g.2.1/\g.2.1<=250)(h:a.o=32):
  Calls Tryz.prog 84 #[.pointer (some ⟨C,0,none⟩)] w λe w'=>e=.returned (.bool (dc (gfit a G)))/\Kb 0 w w':=by
 obtain⟨R,hR⟩:∃R,R=dc (gfit a G):=⟨_,rfl⟩
 rw[<-hR];have hC:w.heap[C]? =_:=hC;have c0:w.cell? ⟨C,0,none⟩=some (.int .i64 32):=by rw[<-h];exact cell_of hC rfl
 have c1:w.cell? ⟨C,1,none⟩=some (.int .i64 a.a):=cell_of hC rfl;have c2:w.cell? ⟨C,2,none⟩=some (.int .i64 a.b):=cell_of hC rfl;have c7:w.cell? ⟨C,7,none⟩=some vg:=cell_of hC rfl
 have HKP:Hid (∀W',W'.heap=w.heap->W'.os=w.os->W'.output=w.output->Calls Tryz.prog 122 #[.pointer (some ⟨C,0,none⟩)] W' λe w'=>e=.returned (.int .i64 (kpt G))/\Kb 0 w w'):=(λW' e0 e1 e2=>by
  have kk:=kb_heap e0 e1 e2;refine(im_kept W' (kk.cell c7) (r.kb kk) (by omega) (λg hg'=>by have:=hg g hg';omega)).mono ?_;rintro e w' ⟨rfl,k⟩
  exact⟨rfl,kk.trans k⟩:∀W',_)
 have hkr:0<=kpt G/\kpt G<=250:=⟨kpt_nn G,kpt_le (by omega) (λg hg'=>(hg g hg').2)⟩
 obtain⟨K,hK⟩:∃K,K=kpt G:=⟨_,rfl⟩
 rw[<-hK]at HKP hkr;obtain⟨pg,cg,rfl,hcg,r1⟩:=r;have nI:(G.length:Int)<=50:=by omega
 have hfit:gfit a G↔ctc G=true:=by unfold gfit;simp[h]
 have HKK:Hid (Kb 0 w w):=Kb.refl _ _;by_cases hnil:G=[]
 ·subst hnil;have hF:R=false:=by rw[hR];exact dc_f (λq=>by have:=hfit.1 q;simp[ctc]at this)
  subst hF;clear hR hfit hC HKP hkr hK r1 hg hn h c1 c2;go_enter Tryz.func84,Tryz.ntmps84;go_wp2_with fail;go_ret;exact⟨rfl,HKK⟩
 obtain⟨m,g,hL⟩:=last_of hnil;obtain⟨b,e',-,h7⟩:=r1 (by rw[hL.1];omega);subst e';have d0:=(h7 m g hL.2.1).c0;have hlen:=hL.1;have hct:=hL.2.2.1;have hdf:=hL.2.2.2.1;have mI:(m:Int)+1<=50:=by omega
 have cI:(m:Int)+1<=(cg:Int):=by omega
 have HLEN:Hid (G.length=m+1):=hlen;rw[hlen]at c7;clear r1 h7 hL hnil hlen nI hcg;rcases hgb:g.1 with _|_
 ·rw[hgb]at d0 hct;have hRb:R=false:=by rw[hR];exact dc_f (λq=>by have:=hfit.1 q;rw[hct]at this;exact absurd this (by decide))
  subst hRb;clear hR hfit hC HKP hkr hK hg hn h c1 c2 hct hdf hgb HLEN;go_enter Tryz.func84,Tryz.ntmps84;go_wp2_with fail;go_ret;exact⟨rfl,HKK⟩
 ·rw[hgb]at d0 hct;have hRb:R=true:=by rw[hR];exact dc_t (hfit.2 (by rw[hct];try rfl))
  subst hRb;clear hR hfit hC HKP hkr hK hg hn h c1 c2 hct hdf hgb HLEN;go_enter Tryz.func84,Tryz.ntmps84;go_wp2_with fail;go_ret;exact⟨rfl,HKK⟩
theorem fg_35(w:World)(hC:ChB C a vt vg v8 v9 w)(r:Rg av w vg G)(hn:G.length<=50)(hg:∀g,g ∈ G->0<=g.2.1/\g.2.1<=250)(h:a.o=35):
  Calls Tryz.prog 84 #[.pointer (some ⟨C,0,none⟩)] w λe w'=>e=.returned (.bool (dc (gfit a G)))/\Kb 0 w w':=by
 obtain⟨R,hR⟩:∃R,R=dc (gfit a G):=⟨_,rfl⟩
 rw[<-hR];have hC:w.heap[C]? =_:=hC;have c0:w.cell? ⟨C,0,none⟩=some (.int .i64 35):=by rw[<-h];exact cell_of hC rfl
 have c1:w.cell? ⟨C,1,none⟩=some (.int .i64 a.a):=cell_of hC rfl;have c2:w.cell? ⟨C,2,none⟩=some (.int .i64 a.b):=cell_of hC rfl;have c7:w.cell? ⟨C,7,none⟩=some vg:=cell_of hC rfl
 have HKP:Hid (∀W',W'.heap=w.heap->W'.os=w.os->W'.output=w.output->Calls Tryz.prog 122 #[.pointer (some ⟨C,0,none⟩)] W' λe w'=>e=.returned (.int .i64 (kpt G))/\Kb 0 w w'):=(λW' e0 e1 e2=>by
  have kk:=kb_heap e0 e1 e2;refine(im_kept W' (kk.cell c7) (r.kb kk) (by omega) (λg hg'=>by have:=hg g hg';omega)).mono ?_;rintro e w' ⟨rfl,k⟩
  exact⟨rfl,kk.trans k⟩:∀W',_)
 have hkr:0<=kpt G/\kpt G<=250:=⟨kpt_nn G,kpt_le (by omega) (λg hg'=>(hg g hg').2)⟩
 obtain⟨K,hK⟩:∃K,K=kpt G:=⟨_,rfl⟩
 rw[<-hK]at HKP hkr;obtain⟨pg,cg,rfl,hcg,r1⟩:=r;have nI:(G.length:Int)<=50:=by omega
 have hfit:gfit a G↔dfr G=true:=by unfold gfit;simp[h]
 have HKK:Hid (Kb 0 w w):=Kb.refl _ _;by_cases hnil:G=[]
 ·subst hnil;have hF:R=false:=by rw[hR];exact dc_f (λq=>by have:=hfit.1 q;simp[dfr]at this)
  subst hF;clear hR hfit hC HKP hkr hK r1 hg hn h c1 c2;go_enter Tryz.func84,Tryz.ntmps84;go_wp2_with fail;go_ret;exact⟨rfl,HKK⟩
 obtain⟨m,g,hL⟩:=last_of hnil;obtain⟨b,e',-,h7⟩:=r1 (by rw[hL.1];omega);subst e';have d0:=(h7 m g hL.2.1).c0;have hlen:=hL.1;have hct:=hL.2.2.1;have hdf:=hL.2.2.2.1;have mI:(m:Int)+1<=50:=by omega
 have cI:(m:Int)+1<=(cg:Int):=by omega
 have HLEN:Hid (G.length=m+1):=hlen;rw[hlen]at c7;clear r1 h7 hL hnil hlen nI hcg;rcases hgb:g.1 with _|_
 ·rw[hgb]at d0 hdf;have hRb:R=true:=by rw[hR];exact dc_t (hfit.2 (by rw[hdf];try rfl))
  subst hRb;clear hR hfit hC HKP hkr hK hg hn h c1 c2 hct hdf hgb HLEN;go_enter Tryz.func84,Tryz.ntmps84;go_wp2_with fail;go_ret;exact⟨rfl,HKK⟩
 ·rw[hgb]at d0 hdf;have hRb:R=false:=by rw[hR];exact dc_f (λq=>by have:=hfit.1 q;rw[hdf]at this;exact absurd this (by decide))
  subst hRb;clear hR hfit hC HKP hkr hK hg hn h c1 c2 hct hdf hgb HLEN;go_enter Tryz.func84,Tryz.ntmps84;go_wp2_with fail;go_ret;exact⟨rfl,HKK⟩
theorem fg_36(w:World)(hC:ChB C a vt vg v8 v9 w)(r:Rg av w vg G)(hn:G.length<=50)(hg:∀g,g ∈ G->0<=g.2.1/\g.2.1<=250)(h:a.o=36):
  Calls Tryz.prog 84 #[.pointer (some ⟨C,0,none⟩)] w λe w'=>e=.returned (.bool (dc (gfit a G)))/\Kb 0 w w':=by
 obtain⟨R,hR⟩:∃R,R=dc (gfit a G):=⟨_,rfl⟩
 rw[<-hR];have hC:w.heap[C]? =_:=hC;have c0:w.cell? ⟨C,0,none⟩=some (.int .i64 36):=by rw[<-h];exact cell_of hC rfl
 have c1:w.cell? ⟨C,1,none⟩=some (.int .i64 a.a):=cell_of hC rfl;have c2:w.cell? ⟨C,2,none⟩=some (.int .i64 a.b):=cell_of hC rfl;have c7:w.cell? ⟨C,7,none⟩=some vg:=cell_of hC rfl
 have HKP:Hid (∀W',W'.heap=w.heap->W'.os=w.os->W'.output=w.output->Calls Tryz.prog 122 #[.pointer (some ⟨C,0,none⟩)] W' λe w'=>e=.returned (.int .i64 (kpt G))/\Kb 0 w w'):=(λW' e0 e1 e2=>by
  have kk:=kb_heap e0 e1 e2;refine(im_kept W' (kk.cell c7) (r.kb kk) (by omega) (λg hg'=>by have:=hg g hg';omega)).mono ?_;rintro e w' ⟨rfl,k⟩
  exact⟨rfl,kk.trans k⟩:∀W',_)
 have hkr:0<=kpt G/\kpt G<=250:=⟨kpt_nn G,kpt_le (by omega) (λg hg'=>(hg g hg').2)⟩
 obtain⟨K,hK⟩:∃K,K=kpt G:=⟨_,rfl⟩
 rw[<-hK]at HKP hkr;obtain⟨pg,cg,rfl,hcg,r1⟩:=r;have nI:(G.length:Int)<=50:=by omega
 have hfit:gfit a G↔dfr G=true:=by unfold gfit;simp[h]
 have HKK:Hid (Kb 0 w w):=Kb.refl _ _;by_cases hnil:G=[]
 ·subst hnil;have hF:R=false:=by rw[hR];exact dc_f (λq=>by have:=hfit.1 q;simp[dfr]at this)
  subst hF;clear hR hfit hC HKP hkr hK r1 hg hn h c1 c2;go_enter Tryz.func84,Tryz.ntmps84;go_wp2_with fail;go_ret;exact⟨rfl,HKK⟩
 obtain⟨m,g,hL⟩:=last_of hnil;obtain⟨b,e',-,h7⟩:=r1 (by rw[hL.1];omega);subst e';have d0:=(h7 m g hL.2.1).c0;have hlen:=hL.1;have hct:=hL.2.2.1;have hdf:=hL.2.2.2.1;have mI:(m:Int)+1<=50:=by omega
 have cI:(m:Int)+1<=(cg:Int):=by omega
 have HLEN:Hid (G.length=m+1):=hlen;rw[hlen]at c7;clear r1 h7 hL hnil hlen nI hcg;rcases hgb:g.1 with _|_
 ·rw[hgb]at d0 hdf;have hRb:R=true:=by rw[hR];exact dc_t (hfit.2 (by rw[hdf];try rfl))
  subst hRb;clear hR hfit hC HKP hkr hK hg hn h c1 c2 hct hdf hgb HLEN;go_enter Tryz.func84,Tryz.ntmps84;go_wp2_with fail;go_ret;exact⟨rfl,HKK⟩
 ·rw[hgb]at d0 hdf;have hRb:R=false:=by rw[hR];exact dc_f (λq=>by have:=hfit.1 q;rw[hdf]at this;exact absurd this (by decide))
  subst hRb;clear hR hfit hC HKP hkr hK hg hn h c1 c2 hct hdf hgb HLEN;go_enter Tryz.func84,Tryz.ntmps84;go_wp2_with fail;go_ret;exact⟨rfl,HKK⟩
theorem fg_34(w:World)(hC:ChB C a vt vg v8 v9 w)(r:Rg av w vg G)(hn:G.length<=50)(hg:∀g,g ∈ G->0<=g.2.1/\g.2.1<=250)(h:a.o=34):
  Calls Tryz.prog 84 #[.pointer (some ⟨C,0,none⟩)] w λe w'=>e=.returned (.bool (dc (gfit a G)))/\Kb 0 w w':=by
 obtain⟨R,hR⟩:∃R,R=dc (gfit a G):=⟨_,rfl⟩
 rw[<-hR];have hC:w.heap[C]? =_:=hC;have c0:w.cell? ⟨C,0,none⟩=some (.int .i64 34):=by rw[<-h];exact cell_of hC rfl
 have c1:w.cell? ⟨C,1,none⟩=some (.int .i64 a.a):=cell_of hC rfl;have c2:w.cell? ⟨C,2,none⟩=some (.int .i64 a.b):=cell_of hC rfl;have c7:w.cell? ⟨C,7,none⟩=some vg:=cell_of hC rfl
 have HKQ:Hid (∀p:KW w,Calls Tryz.prog 122 #[.pointer (some ⟨C,0,none⟩)] p.w λe w'=>e=.returned (.int .i64 (kpt G))/\∃q:KW w,w'=q.w):=(λp=>by
  refine(im_kept p.w (p.k.cell c7) (r.kb p.k) (by omega) (λg hg'=>by have:=hg g hg';omega)).mono ?_;rintro e w' ⟨rfl,k⟩
  exact⟨rfl,⟨w',p.k.trans k⟩,rfl⟩:∀p,_)
 have HKP:Hid (∀W',W'.heap=w.heap->W'.os=w.os->W'.output=w.output->Calls Tryz.prog 122 #[.pointer (some ⟨C,0,none⟩)] W' λe w'=>e=.returned (.int .i64 (kpt G))/\Kb 0 w w'):=(λW' e0 e1 e2=>by
  have kk:=kb_heap e0 e1 e2;refine(im_kept W' (kk.cell c7) (r.kb kk) (by omega) (λg hg'=>by have:=hg g hg';omega)).mono ?_;rintro e w' ⟨rfl,k⟩
  exact⟨rfl,kk.trans k⟩:∀W',_)
 have hkr:0<=kpt G/\kpt G<=250:=⟨kpt_nn G,kpt_le (by omega) (λg hg'=>(hg g hg').2)⟩
 obtain⟨K,hK⟩:∃K,K=kpt G:=⟨_,rfl⟩
 rw[<-hK]at HKP HKQ hkr;clear HKP;obtain⟨pg,cg,rfl,hcg,r1⟩:=r;have nI:(G.length:Int)<=50:=by omega
 have hfit:gfit a G↔(dfr G=true/\kpt G<=a.a):=by unfold gfit;simp[h]
 have HKK:Hid (Kb 0 w w):=Kb.refl _ _;by_cases hnil:G=[]
 ·subst hnil;have hF:R=false:=by rw[hR];exact dc_f (λq=>by have:=(hfit.1 q).1;simp[dfr]at this)
  subst hF;clear hR hfit hC HKQ hkr hK r1 hg hn h c2;go_enter Tryz.func84,Tryz.ntmps84;go_upto_region 11 with fail
  go_quiet (skip)
  go_wp2_with fail;refine bodyPost_ret (by simp[results,Tryz.results84,go_sem];rfl) rfl ?_;exact⟨rfl,(uh HKK).drewN _⟩
 obtain⟨m,g,hL⟩:=last_of hnil;obtain⟨b,e',-,h7⟩:=r1 (by rw[hL.1];omega);subst e';have d0:=(h7 m g hL.2.1).c0;have hlen:=hL.1;have hct:=hL.2.2.1;have hdf:=hL.2.2.2.1;have mI:(m:Int)+1<=50:=by omega
 have cI:(m:Int)+1<=(cg:Int):=by omega
 have HLEN:Hid (G.length=m+1):=hlen;rw[hlen]at c7;clear r1 h7 hL hnil hlen nI hcg;rcases hgb:g.1 with _|_
 ·rw[hgb]at d0 hdf;rw[hdf,<-hK]at hfit;by_cases ck:K<=a.a
  ·have hRb:R=true:=by rw[hR];exact dc_t (hfit.2 ⟨rfl,ck⟩)
   subst hRb;have gk:K<=a.a:=ck;clear hR hfit hC hkr hK hg hn h hct hdf hgb HLEN ck;have C1:∀p:KW w,Calls Tryz.prog 122 #[.pointer (some ⟨C,0,none⟩)] p.w λe w'=>e=.returned (.int .i64 K)/\∃q:KW w,w'=q.w:=(uh HKQ)
   have p1:∀p:KW w,p.w.cell? ⟨C,1,none⟩=some (.int .i64 a.a):=λp=>p.k.cell c1;have p2:∀p:KW w,p.w.cell? ⟨C,2,none⟩=some (.int .i64 a.b):=λp=>p.k.cell c2;have hne:Nonempty (KW w):=⟨⟨w,Kb.refl _ _⟩⟩
   clear HKQ;go_enter Tryz.func84,Tryz.ntmps84;go_upto_region 11 with fail;refine wp_region_kb (by kernel_rfl) (by kernel_rfl) ?_
   repeat go_big_quiet_step ((first|(go_at_call 122;exact C1 _)|fail))
   refine wpQuiet_nil ?_;intro w5 hw'
   have HK5:Hid (Kb 0 w w5):=by
    obtain⟨q,hq⟩:=hw';rw[hq];exact q.k
   clear hw' C1 p1 p2 hne;go_wp2_with fail;refine bodyPost_ret (by simp[results,Tryz.results84,go_sem];rfl) rfl ?_;refine⟨?_,(uh HK5)⟩
   first|rfl|simp[gk]|(simp;omega)
  ·have hRb:R=false:=by rw[hR];exact dc_f (λq=>ck (hfit.1 q).2)
   subst hRb;have gk:¬K<=a.a:=ck;clear hR hfit hC hkr hK hg hn h hct hdf hgb HLEN ck;have C1:∀p:KW w,Calls Tryz.prog 122 #[.pointer (some ⟨C,0,none⟩)] p.w λe w'=>e=.returned (.int .i64 K)/\∃q:KW w,w'=q.w:=(uh HKQ)
   have p1:∀p:KW w,p.w.cell? ⟨C,1,none⟩=some (.int .i64 a.a):=λp=>p.k.cell c1;have p2:∀p:KW w,p.w.cell? ⟨C,2,none⟩=some (.int .i64 a.b):=λp=>p.k.cell c2;have hne:Nonempty (KW w):=⟨⟨w,Kb.refl _ _⟩⟩
   clear HKQ;go_enter Tryz.func84,Tryz.ntmps84;go_upto_region 11 with fail;refine wp_region_kb (by kernel_rfl) (by kernel_rfl) ?_
   repeat go_big_quiet_step ((first|(go_at_call 122;exact C1 _)|fail))
   refine wpQuiet_nil ?_;intro w5 hw'
   have HK5:Hid (Kb 0 w w5):=by
    obtain⟨q,hq⟩:=hw';rw[hq];exact q.k
   clear hw' C1 p1 p2 hne;go_wp2_with fail;refine bodyPost_ret (by simp[results,Tryz.results84,go_sem];rfl) rfl ?_;refine⟨?_,(uh HK5)⟩
   first|rfl|simp[gk]|(simp;omega)
 ·rw[hgb]at d0 hdf;have hRb:R=false:=by rw[hR];exact dc_f (λq=>by have:=(hfit.1 q).1;rw[hdf]at this;cases this)
  subst hRb;clear hR hfit hC HKQ hkr hK hg hn h c2 hct hdf hgb HLEN;go_enter Tryz.func84,Tryz.ntmps84;go_upto_region 11 with fail
  go_quiet (skip)
  go_wp2_with fail;refine bodyPost_ret (by simp[results,Tryz.results84,go_sem];rfl) rfl ?_;exact⟨rfl,(uh HKK).drewN _⟩
theorem fg_33(w:World)(hC:ChB C a vt vg v8 v9 w)(r:Rg av w vg G)(hn:G.length<=50)(hg:∀g,g ∈ G->0<=g.2.1/\g.2.1<=250)(h:a.o=33):
  Calls Tryz.prog 84 #[.pointer (some ⟨C,0,none⟩)] w λe w'=>e=.returned (.bool (dc (gfit a G)))/\Kb 0 w w':=by
 obtain⟨R,hR⟩:∃R,R=dc (gfit a G):=⟨_,rfl⟩
 rw[<-hR];have hC:w.heap[C]? =_:=hC;have c0:w.cell? ⟨C,0,none⟩=some (.int .i64 33):=by rw[<-h];exact cell_of hC rfl
 have c1:w.cell? ⟨C,1,none⟩=some (.int .i64 a.a):=cell_of hC rfl;have c2:w.cell? ⟨C,2,none⟩=some (.int .i64 a.b):=cell_of hC rfl;have c7:w.cell? ⟨C,7,none⟩=some vg:=cell_of hC rfl
 have HKQ:Hid (∀p:KW w,Calls Tryz.prog 122 #[.pointer (some ⟨C,0,none⟩)] p.w λe w'=>e=.returned (.int .i64 (kpt G))/\∃q:KW w,w'=q.w):=(λp=>by
  refine(im_kept p.w (p.k.cell c7) (r.kb p.k) (by omega) (λg hg'=>by have:=hg g hg';omega)).mono ?_;rintro e w' ⟨rfl,k⟩
  exact⟨rfl,⟨w',p.k.trans k⟩,rfl⟩:∀p,_)
 have HKP:Hid (∀W',W'.heap=w.heap->W'.os=w.os->W'.output=w.output->Calls Tryz.prog 122 #[.pointer (some ⟨C,0,none⟩)] W' λe w'=>e=.returned (.int .i64 (kpt G))/\Kb 0 w w'):=(λW' e0 e1 e2=>by
  have kk:=kb_heap e0 e1 e2;refine(im_kept W' (kk.cell c7) (r.kb kk) (by omega) (λg hg'=>by have:=hg g hg';omega)).mono ?_;rintro e w' ⟨rfl,k⟩
  exact⟨rfl,kk.trans k⟩:∀W',_)
 have hkr:0<=kpt G/\kpt G<=250:=⟨kpt_nn G,kpt_le (by omega) (λg hg'=>(hg g hg').2)⟩
 obtain⟨K,hK⟩:∃K,K=kpt G:=⟨_,rfl⟩
 rw[<-hK]at HKP HKQ hkr;clear HKP;obtain⟨pg,cg,rfl,hcg,r1⟩:=r;have nI:(G.length:Int)<=50:=by omega
 have hfit:gfit a G↔(G.length<50/\kpt G<=a.a):=by unfold gfit;simp[h]
 have HKK:Hid (Kb 0 w w):=Kb.refl _ _;by_cases hnil:G=[]
 ·subst hnil;by_cases ck:K<=a.a
  ·have hRb:R=true:=by rw[hR];exact dc_t (hfit.2 ⟨by simp,by rw[<-hK];exact ck⟩)
   subst hRb;have gk:K<=a.a:=ck;clear hR hfit hC hkr hK hg hn h ck r1;have C1:∀p:KW w,Calls Tryz.prog 122 #[.pointer (some ⟨C,0,none⟩)] p.w λe w'=>e=.returned (.int .i64 K)/\∃q:KW w,w'=q.w:=(uh HKQ)
   have p1:∀p:KW w,p.w.cell? ⟨C,1,none⟩=some (.int .i64 a.a):=λp=>p.k.cell c1;have p2:∀p:KW w,p.w.cell? ⟨C,2,none⟩=some (.int .i64 a.b):=λp=>p.k.cell c2;have hne:Nonempty (KW w):=⟨⟨w,Kb.refl _ _⟩⟩
   clear HKQ;go_enter Tryz.func84,Tryz.ntmps84;go_upto_region 13 with fail;refine wp_region_kb (by kernel_rfl) (by kernel_rfl) ?_
   repeat go_big_quiet_step ((first|(go_at_call 122;exact C1 _)|fail))
   refine wpQuiet_nil ?_;intro w5 hw'
   have HK5:Hid (Kb 0 w w5):=by
    obtain⟨q,hq⟩:=hw';rw[hq];exact q.k
   clear hw' C1 p1 p2 hne;go_wp2_with fail;refine bodyPost_ret (by simp[results,Tryz.results84,go_sem];rfl) rfl ?_;refine⟨?_,(uh HK5)⟩
   first|rfl|simp[gk]|(simp;omega)
  ·have hRb:R=false:=by rw[hR];exact dc_f (λq=>ck (by rw[hK];exact(hfit.1 q).2))
   subst hRb;have gk:¬K<=a.a:=ck;clear hR hfit hC hkr hK hg hn h ck r1;have C1:∀p:KW w,Calls Tryz.prog 122 #[.pointer (some ⟨C,0,none⟩)] p.w λe w'=>e=.returned (.int .i64 K)/\∃q:KW w,w'=q.w:=(uh HKQ)
   have p1:∀p:KW w,p.w.cell? ⟨C,1,none⟩=some (.int .i64 a.a):=λp=>p.k.cell c1;have p2:∀p:KW w,p.w.cell? ⟨C,2,none⟩=some (.int .i64 a.b):=λp=>p.k.cell c2;have hne:Nonempty (KW w):=⟨⟨w,Kb.refl _ _⟩⟩
   clear HKQ;go_enter Tryz.func84,Tryz.ntmps84;go_upto_region 13 with fail;refine wp_region_kb (by kernel_rfl) (by kernel_rfl) ?_
   repeat go_big_quiet_step ((first|(go_at_call 122;exact C1 _)|fail))
   refine wpQuiet_nil ?_;intro w5 hw'
   have HK5:Hid (Kb 0 w w5):=by
    obtain⟨q,hq⟩:=hw';rw[hq];exact q.k
   clear hw' C1 p1 p2 hne;go_wp2_with fail;refine bodyPost_ret (by simp[results,Tryz.results84,go_sem];rfl) rfl ?_;refine⟨?_,(uh HK5)⟩
   first|rfl|simp[gk]|(simp;omega)
 obtain⟨m,g,hL⟩:=last_of hnil;obtain⟨b,e',-,h7⟩:=r1 (by rw[hL.1];omega);subst e';have d0:=(h7 m g hL.2.1).c0;have hlen:=hL.1;have hct:=hL.2.2.1;have hdf:=hL.2.2.2.1;have mI:(m:Int)+1<=50:=by omega
 have cI:(m:Int)+1<=(cg:Int):=by omega
 have HLEN:Hid (G.length=m+1):=hlen;rw[hlen]at c7;clear r1 h7 hL hnil hlen nI hcg;rcases hgb:g.1 with _|_
 ·rw[hgb]at d0;have hlen:=(uh HLEN)
  by_cases c50:m+1<50
  ·have m50:(m:Int)+1<50:=by omega
   by_cases ck:K<=a.a
   ·have hRb:R=true:=by rw[hR];exact dc_t (hfit.2 ⟨by omega,by rw[<-hK];exact ck⟩)
    subst hRb;have gk:K<=a.a:=ck;clear hR hfit hC hkr hK hg hn h ck hct hdf hgb HLEN hlen c50;have C1:∀p:KW w,Calls Tryz.prog 122 #[.pointer (some ⟨C,0,none⟩)] p.w λe w'=>e=.returned (.int .i64 K)/\∃q:KW w,w'=q.w:=(uh HKQ)
    have p1:∀p:KW w,p.w.cell? ⟨C,1,none⟩=some (.int .i64 a.a):=λp=>p.k.cell c1;have p2:∀p:KW w,p.w.cell? ⟨C,2,none⟩=some (.int .i64 a.b):=λp=>p.k.cell c2;have hne:Nonempty (KW w):=⟨⟨w,Kb.refl _ _⟩⟩
    clear HKQ;go_enter Tryz.func84,Tryz.ntmps84;go_upto_region 13 with fail;refine wp_region_kb (by kernel_rfl) (by kernel_rfl) ?_
    repeat go_big_quiet_step ((first|(go_at_call 122;exact C1 _)|fail))
    refine wpQuiet_nil ?_;intro w5 hw'
    have HK5:Hid (Kb 0 w w5):=by
     obtain⟨q,hq⟩:=hw';rw[hq];exact q.k
    clear hw' C1 p1 p2 hne;go_wp2_with fail;refine bodyPost_ret (by simp[results,Tryz.results84,go_sem];rfl) rfl ?_;refine⟨?_,(uh HK5)⟩
    first|rfl|simp[gk]|(simp;omega)
   ·have hRb:R=false:=by rw[hR];exact dc_f (λq=>ck (by rw[hK];exact(hfit.1 q).2))
    subst hRb;have gk:¬K<=a.a:=ck;clear hR hfit hC hkr hK hg hn h ck hct hdf hgb HLEN hlen c50;have C1:∀p:KW w,Calls Tryz.prog 122 #[.pointer (some ⟨C,0,none⟩)] p.w λe w'=>e=.returned (.int .i64 K)/\∃q:KW w,w'=q.w:=(uh HKQ)
    have p1:∀p:KW w,p.w.cell? ⟨C,1,none⟩=some (.int .i64 a.a):=λp=>p.k.cell c1;have p2:∀p:KW w,p.w.cell? ⟨C,2,none⟩=some (.int .i64 a.b):=λp=>p.k.cell c2;have hne:Nonempty (KW w):=⟨⟨w,Kb.refl _ _⟩⟩
    clear HKQ;go_enter Tryz.func84,Tryz.ntmps84;go_upto_region 13 with fail;refine wp_region_kb (by kernel_rfl) (by kernel_rfl) ?_
    repeat go_big_quiet_step ((first|(go_at_call 122;exact C1 _)|fail))
    refine wpQuiet_nil ?_;intro w5 hw'
    have HK5:Hid (Kb 0 w w5):=by
     obtain⟨q,hq⟩:=hw';rw[hq];exact q.k
    clear hw' C1 p1 p2 hne;go_wp2_with fail;refine bodyPost_ret (by simp[results,Tryz.results84,go_sem];rfl) rfl ?_;refine⟨?_,(uh HK5)⟩
    first|rfl|simp[gk]|(simp;omega)
  ·have m50:¬(m:Int)+1<50:=by omega
   have hRb:R=false:=by rw[hR];exact dc_f (λq=>c50 (by have:=(hfit.1 q).1;omega))
   subst hRb;clear hR hfit hC HKQ hkr hK hg hn h hct hdf hgb HLEN hlen c50;go_enter Tryz.func84,Tryz.ntmps84;go_upto_region 13 with fail
   go_quiet (skip)
   go_wp2_with fail;refine bodyPost_ret (by simp[results,Tryz.results84,go_sem];rfl) rfl ?_;exact⟨rfl,(uh HKK).drewN _⟩
 ·rw[hgb]at d0;have hlen:=(uh HLEN)
  by_cases c50:m+1<50
  ·have m50:(m:Int)+1<50:=by omega
   by_cases ck:K<=a.a
   ·have hRb:R=true:=by rw[hR];exact dc_t (hfit.2 ⟨by omega,by rw[<-hK];exact ck⟩)
    subst hRb;have gk:K<=a.a:=ck;clear hR hfit hC hkr hK hg hn h ck hct hdf hgb HLEN hlen c50;have C1:∀p:KW w,Calls Tryz.prog 122 #[.pointer (some ⟨C,0,none⟩)] p.w λe w'=>e=.returned (.int .i64 K)/\∃q:KW w,w'=q.w:=(uh HKQ)
    have p1:∀p:KW w,p.w.cell? ⟨C,1,none⟩=some (.int .i64 a.a):=λp=>p.k.cell c1;have p2:∀p:KW w,p.w.cell? ⟨C,2,none⟩=some (.int .i64 a.b):=λp=>p.k.cell c2;have hne:Nonempty (KW w):=⟨⟨w,Kb.refl _ _⟩⟩
    clear HKQ;go_enter Tryz.func84,Tryz.ntmps84;go_upto_region 13 with fail;refine wp_region_kb (by kernel_rfl) (by kernel_rfl) ?_
    repeat go_big_quiet_step ((first|(go_at_call 122;exact C1 _)|fail))
    refine wpQuiet_nil ?_;intro w5 hw'
    have HK5:Hid (Kb 0 w w5):=by
     obtain⟨q,hq⟩:=hw';rw[hq];exact q.k
    clear hw' C1 p1 p2 hne;go_wp2_with fail;refine bodyPost_ret (by simp[results,Tryz.results84,go_sem];rfl) rfl ?_;refine⟨?_,(uh HK5)⟩
    first|rfl|simp[gk]|(simp;omega)
   ·have hRb:R=false:=by rw[hR];exact dc_f (λq=>ck (by rw[hK];exact(hfit.1 q).2))
    subst hRb;have gk:¬K<=a.a:=ck;clear hR hfit hC hkr hK hg hn h ck hct hdf hgb HLEN hlen c50;have C1:∀p:KW w,Calls Tryz.prog 122 #[.pointer (some ⟨C,0,none⟩)] p.w λe w'=>e=.returned (.int .i64 K)/\∃q:KW w,w'=q.w:=(uh HKQ)
    have p1:∀p:KW w,p.w.cell? ⟨C,1,none⟩=some (.int .i64 a.a):=λp=>p.k.cell c1;have p2:∀p:KW w,p.w.cell? ⟨C,2,none⟩=some (.int .i64 a.b):=λp=>p.k.cell c2;have hne:Nonempty (KW w):=⟨⟨w,Kb.refl _ _⟩⟩
    clear HKQ;go_enter Tryz.func84,Tryz.ntmps84;go_upto_region 13 with fail;refine wp_region_kb (by kernel_rfl) (by kernel_rfl) ?_
    repeat go_big_quiet_step ((first|(go_at_call 122;exact C1 _)|fail))
    refine wpQuiet_nil ?_;intro w5 hw'
    have HK5:Hid (Kb 0 w w5):=by
     obtain⟨q,hq⟩:=hw';rw[hq];exact q.k
    clear hw' C1 p1 p2 hne;go_wp2_with fail;refine bodyPost_ret (by simp[results,Tryz.results84,go_sem];rfl) rfl ?_;refine⟨?_,(uh HK5)⟩
    first|rfl|simp[gk]|(simp;omega)
  ·have m50:¬(m:Int)+1<50:=by omega
   have hRb:R=false:=by rw[hR];exact dc_f (λq=>c50 (by have:=(hfit.1 q).1;omega))
   subst hRb;clear hR hfit hC HKQ hkr hK hg hn h hct hdf hgb HLEN hlen c50;go_enter Tryz.func84,Tryz.ntmps84;go_upto_region 13 with fail
   go_quiet (skip)
   go_wp2_with fail;refine bodyPost_ret (by simp[results,Tryz.results84,go_sem];rfl) rfl ?_;exact⟨rfl,(uh HKK).drewN _⟩
theorem fg_31(w:World)(hC:ChB C a vt vg v8 v9 w)(r:Rg av w vg G)(hn:G.length<=50)(hg:∀g,g ∈ G->0<=g.2.1/\g.2.1<=250)(h:a.o=31):
  Calls Tryz.prog 84 #[.pointer (some ⟨C,0,none⟩)] w λe w'=>e=.returned (.bool (dc (gfit a G)))/\Kb 0 w w':=by
 obtain⟨R,hR⟩:∃R,R=dc (gfit a G):=⟨_,rfl⟩
 rw[<-hR];have hC:w.heap[C]? =_:=hC;have c0:w.cell? ⟨C,0,none⟩=some (.int .i64 31):=by rw[<-h];exact cell_of hC rfl
 have c1:w.cell? ⟨C,1,none⟩=some (.int .i64 a.a):=cell_of hC rfl;have c2:w.cell? ⟨C,2,none⟩=some (.int .i64 a.b):=cell_of hC rfl;have c7:w.cell? ⟨C,7,none⟩=some vg:=cell_of hC rfl
 have HKQ:Hid (∀p:KW w,Calls Tryz.prog 122 #[.pointer (some ⟨C,0,none⟩)] p.w λe w'=>e=.returned (.int .i64 (kpt G))/\∃q:KW w,w'=q.w):=(λp=>by
  refine(im_kept p.w (p.k.cell c7) (r.kb p.k) (by omega) (λg hg'=>by have:=hg g hg';omega)).mono ?_;rintro e w' ⟨rfl,k⟩
  exact⟨rfl,⟨w',p.k.trans k⟩,rfl⟩:∀p,_)
 have HKP:Hid (∀W',W'.heap=w.heap->W'.os=w.os->W'.output=w.output->Calls Tryz.prog 122 #[.pointer (some ⟨C,0,none⟩)] W' λe w'=>e=.returned (.int .i64 (kpt G))/\Kb 0 w w'):=(λW' e0 e1 e2=>by
  have kk:=kb_heap e0 e1 e2;refine(im_kept W' (kk.cell c7) (r.kb kk) (by omega) (λg hg'=>by have:=hg g hg';omega)).mono ?_;rintro e w' ⟨rfl,k⟩
  exact⟨rfl,kk.trans k⟩:∀W',_)
 have hkr:0<=kpt G/\kpt G<=250:=⟨kpt_nn G,kpt_le (by omega) (λg hg'=>(hg g hg').2)⟩
 obtain⟨K,hK⟩:∃K,K=kpt G:=⟨_,rfl⟩
 rw[<-hK]at HKP HKQ hkr;clear HKP;obtain⟨pg,cg,rfl,hcg,r1⟩:=r;have nI:(G.length:Int)<=50:=by omega
 have hfit:gfit a G↔(G.length<50/\kpt G<=a.b):=by unfold gfit;simp[h]
 have HKK:Hid (Kb 0 w w):=Kb.refl _ _;by_cases hnil:G=[]
 ·subst hnil;by_cases ck:K<=a.b
  ·have hRb:R=true:=by rw[hR];exact dc_t (hfit.2 ⟨by simp,by rw[<-hK];exact ck⟩)
   subst hRb;have gk:K<=a.b:=ck;clear hR hfit hC hkr hK hg hn h ck r1;have C1:∀p:KW w,Calls Tryz.prog 122 #[.pointer (some ⟨C,0,none⟩)] p.w λe w'=>e=.returned (.int .i64 K)/\∃q:KW w,w'=q.w:=(uh HKQ)
   have p1:∀p:KW w,p.w.cell? ⟨C,1,none⟩=some (.int .i64 a.a):=λp=>p.k.cell c1;have p2:∀p:KW w,p.w.cell? ⟨C,2,none⟩=some (.int .i64 a.b):=λp=>p.k.cell c2;have hne:Nonempty (KW w):=⟨⟨w,Kb.refl _ _⟩⟩
   clear HKQ;go_enter Tryz.func84,Tryz.ntmps84;go_upto_region 15 with fail;refine wp_region_kb (by kernel_rfl) (by kernel_rfl) ?_
   repeat go_big_quiet_step ((first|(go_at_call 122;exact C1 _)|fail))
   refine wpQuiet_nil ?_;intro w5 hw'
   have HK5:Hid (Kb 0 w w5):=by
    obtain⟨q,hq⟩:=hw';rw[hq];exact q.k
   clear hw' C1 p1 p2 hne;go_wp2_with fail;refine bodyPost_ret (by simp[results,Tryz.results84,go_sem];rfl) rfl ?_;refine⟨?_,(uh HK5)⟩
   first|rfl|simp[gk]|(simp;omega)
  ·have hRb:R=false:=by rw[hR];exact dc_f (λq=>ck (by rw[hK];exact(hfit.1 q).2))
   subst hRb;have gk:¬K<=a.b:=ck;clear hR hfit hC hkr hK hg hn h ck r1;have C1:∀p:KW w,Calls Tryz.prog 122 #[.pointer (some ⟨C,0,none⟩)] p.w λe w'=>e=.returned (.int .i64 K)/\∃q:KW w,w'=q.w:=(uh HKQ)
   have p1:∀p:KW w,p.w.cell? ⟨C,1,none⟩=some (.int .i64 a.a):=λp=>p.k.cell c1;have p2:∀p:KW w,p.w.cell? ⟨C,2,none⟩=some (.int .i64 a.b):=λp=>p.k.cell c2;have hne:Nonempty (KW w):=⟨⟨w,Kb.refl _ _⟩⟩
   clear HKQ;go_enter Tryz.func84,Tryz.ntmps84;go_upto_region 15 with fail;refine wp_region_kb (by kernel_rfl) (by kernel_rfl) ?_
   repeat go_big_quiet_step ((first|(go_at_call 122;exact C1 _)|fail))
   refine wpQuiet_nil ?_;intro w5 hw'
   have HK5:Hid (Kb 0 w w5):=by
    obtain⟨q,hq⟩:=hw';rw[hq];exact q.k
   clear hw' C1 p1 p2 hne;go_wp2_with fail;refine bodyPost_ret (by simp[results,Tryz.results84,go_sem];rfl) rfl ?_;refine⟨?_,(uh HK5)⟩
   first|rfl|simp[gk]|(simp;omega)
 obtain⟨m,g,hL⟩:=last_of hnil;obtain⟨b,e',-,h7⟩:=r1 (by rw[hL.1];omega);subst e';have d0:=(h7 m g hL.2.1).c0;have hlen:=hL.1;have hct:=hL.2.2.1;have hdf:=hL.2.2.2.1;have mI:(m:Int)+1<=50:=by omega
 have cI:(m:Int)+1<=(cg:Int):=by omega
 have HLEN:Hid (G.length=m+1):=hlen;rw[hlen]at c7;clear r1 h7 hL hnil hlen nI hcg;rcases hgb:g.1 with _|_
 ·rw[hgb]at d0;have hlen:=(uh HLEN)
  by_cases c50:m+1<50
  ·have m50:(m:Int)+1<50:=by omega
   by_cases ck:K<=a.b
   ·have hRb:R=true:=by rw[hR];exact dc_t (hfit.2 ⟨by omega,by rw[<-hK];exact ck⟩)
    subst hRb;have gk:K<=a.b:=ck;clear hR hfit hC hkr hK hg hn h ck hct hdf hgb HLEN hlen c50;have C1:∀p:KW w,Calls Tryz.prog 122 #[.pointer (some ⟨C,0,none⟩)] p.w λe w'=>e=.returned (.int .i64 K)/\∃q:KW w,w'=q.w:=(uh HKQ)
    have p1:∀p:KW w,p.w.cell? ⟨C,1,none⟩=some (.int .i64 a.a):=λp=>p.k.cell c1;have p2:∀p:KW w,p.w.cell? ⟨C,2,none⟩=some (.int .i64 a.b):=λp=>p.k.cell c2;have hne:Nonempty (KW w):=⟨⟨w,Kb.refl _ _⟩⟩
    clear HKQ;go_enter Tryz.func84,Tryz.ntmps84;go_upto_region 15 with fail;refine wp_region_kb (by kernel_rfl) (by kernel_rfl) ?_
    repeat go_big_quiet_step ((first|(go_at_call 122;exact C1 _)|fail))
    refine wpQuiet_nil ?_;intro w5 hw'
    have HK5:Hid (Kb 0 w w5):=by
     obtain⟨q,hq⟩:=hw';rw[hq];exact q.k
    clear hw' C1 p1 p2 hne;go_wp2_with fail;refine bodyPost_ret (by simp[results,Tryz.results84,go_sem];rfl) rfl ?_;refine⟨?_,(uh HK5)⟩
    first|rfl|simp[gk]|(simp;omega)
   ·have hRb:R=false:=by rw[hR];exact dc_f (λq=>ck (by rw[hK];exact(hfit.1 q).2))
    subst hRb;have gk:¬K<=a.b:=ck;clear hR hfit hC hkr hK hg hn h ck hct hdf hgb HLEN hlen c50;have C1:∀p:KW w,Calls Tryz.prog 122 #[.pointer (some ⟨C,0,none⟩)] p.w λe w'=>e=.returned (.int .i64 K)/\∃q:KW w,w'=q.w:=(uh HKQ)
    have p1:∀p:KW w,p.w.cell? ⟨C,1,none⟩=some (.int .i64 a.a):=λp=>p.k.cell c1;have p2:∀p:KW w,p.w.cell? ⟨C,2,none⟩=some (.int .i64 a.b):=λp=>p.k.cell c2;have hne:Nonempty (KW w):=⟨⟨w,Kb.refl _ _⟩⟩
    clear HKQ;go_enter Tryz.func84,Tryz.ntmps84;go_upto_region 15 with fail;refine wp_region_kb (by kernel_rfl) (by kernel_rfl) ?_
    repeat go_big_quiet_step ((first|(go_at_call 122;exact C1 _)|fail))
    refine wpQuiet_nil ?_;intro w5 hw'
    have HK5:Hid (Kb 0 w w5):=by
     obtain⟨q,hq⟩:=hw';rw[hq];exact q.k
    clear hw' C1 p1 p2 hne;go_wp2_with fail;refine bodyPost_ret (by simp[results,Tryz.results84,go_sem];rfl) rfl ?_;refine⟨?_,(uh HK5)⟩
    first|rfl|simp[gk]|(simp;omega)
  ·have m50:¬(m:Int)+1<50:=by omega
   have hRb:R=false:=by rw[hR];exact dc_f (λq=>c50 (by have:=(hfit.1 q).1;omega))
   subst hRb;clear hR hfit hC HKQ hkr hK hg hn h hct hdf hgb HLEN hlen c50;go_enter Tryz.func84,Tryz.ntmps84;go_upto_region 15 with fail
   go_quiet (skip)
   go_wp2_with fail;refine bodyPost_ret (by simp[results,Tryz.results84,go_sem];rfl) rfl ?_;exact⟨rfl,(uh HKK).drewN _⟩
 ·rw[hgb]at d0;have hlen:=(uh HLEN)
  by_cases c50:m+1<50
  ·have m50:(m:Int)+1<50:=by omega
   by_cases ck:K<=a.b
   ·have hRb:R=true:=by rw[hR];exact dc_t (hfit.2 ⟨by omega,by rw[<-hK];exact ck⟩)
    subst hRb;have gk:K<=a.b:=ck;clear hR hfit hC hkr hK hg hn h ck hct hdf hgb HLEN hlen c50;have C1:∀p:KW w,Calls Tryz.prog 122 #[.pointer (some ⟨C,0,none⟩)] p.w λe w'=>e=.returned (.int .i64 K)/\∃q:KW w,w'=q.w:=(uh HKQ)
    have p1:∀p:KW w,p.w.cell? ⟨C,1,none⟩=some (.int .i64 a.a):=λp=>p.k.cell c1;have p2:∀p:KW w,p.w.cell? ⟨C,2,none⟩=some (.int .i64 a.b):=λp=>p.k.cell c2;have hne:Nonempty (KW w):=⟨⟨w,Kb.refl _ _⟩⟩
    clear HKQ;go_enter Tryz.func84,Tryz.ntmps84;go_upto_region 15 with fail;refine wp_region_kb (by kernel_rfl) (by kernel_rfl) ?_
    repeat go_big_quiet_step ((first|(go_at_call 122;exact C1 _)|fail))
    refine wpQuiet_nil ?_;intro w5 hw'
    have HK5:Hid (Kb 0 w w5):=by
     obtain⟨q,hq⟩:=hw';rw[hq];exact q.k
    clear hw' C1 p1 p2 hne;go_wp2_with fail;refine bodyPost_ret (by simp[results,Tryz.results84,go_sem];rfl) rfl ?_;refine⟨?_,(uh HK5)⟩
    first|rfl|simp[gk]|(simp;omega)
   ·have hRb:R=false:=by rw[hR];exact dc_f (λq=>ck (by rw[hK];exact(hfit.1 q).2))
    subst hRb;have gk:¬K<=a.b:=ck;clear hR hfit hC hkr hK hg hn h ck hct hdf hgb HLEN hlen c50;have C1:∀p:KW w,Calls Tryz.prog 122 #[.pointer (some ⟨C,0,none⟩)] p.w λe w'=>e=.returned (.int .i64 K)/\∃q:KW w,w'=q.w:=(uh HKQ)
    have p1:∀p:KW w,p.w.cell? ⟨C,1,none⟩=some (.int .i64 a.a):=λp=>p.k.cell c1;have p2:∀p:KW w,p.w.cell? ⟨C,2,none⟩=some (.int .i64 a.b):=λp=>p.k.cell c2;have hne:Nonempty (KW w):=⟨⟨w,Kb.refl _ _⟩⟩
    clear HKQ;go_enter Tryz.func84,Tryz.ntmps84;go_upto_region 15 with fail;refine wp_region_kb (by kernel_rfl) (by kernel_rfl) ?_
    repeat go_big_quiet_step ((first|(go_at_call 122;exact C1 _)|fail))
    refine wpQuiet_nil ?_;intro w5 hw'
    have HK5:Hid (Kb 0 w w5):=by
     obtain⟨q,hq⟩:=hw';rw[hq];exact q.k
    clear hw' C1 p1 p2 hne;go_wp2_with fail;refine bodyPost_ret (by simp[results,Tryz.results84,go_sem];rfl) rfl ?_;refine⟨?_,(uh HK5)⟩
    first|rfl|simp[gk]|(simp;omega)
  ·have m50:¬(m:Int)+1<50:=by omega
   have hRb:R=false:=by rw[hR];exact dc_f (λq=>c50 (by have:=(hfit.1 q).1;omega))
   subst hRb;clear hR hfit hC HKQ hkr hK hg hn h hct hdf hgb HLEN hlen c50;go_enter Tryz.func84,Tryz.ntmps84;go_upto_region 15 with fail
   go_quiet (skip)
   go_wp2_with fail;refine bodyPost_ret (by simp[results,Tryz.results84,go_sem];rfl) rfl ?_;exact⟨rfl,(uh HKK).drewN _⟩
theorem fg_oth(w:World)(hC:ChB C a vt vg v8 v9 w)(r:Rg av w vg G)(hn:G.length<=50)(hg:∀g,g ∈ G->0<=g.2.1/\g.2.1<=250)(h:a.o≠31/\a.o≠32/\a.o≠33/\a.o≠34/\a.o≠35/\a.o≠36):
  Calls Tryz.prog 84 #[.pointer (some ⟨C,0,none⟩)] w λe w'=>e=.returned (.bool (dc (gfit a G)))/\Kb 0 w w':=by
 obtain⟨R,hR⟩:∃R,R=dc (gfit a G):=⟨_,rfl⟩
 rw[<-hR];have hC:w.heap[C]? =_:=hC;have c0:w.cell? ⟨C,0,none⟩=some (.int .i64 a.o):=cell_of hC rfl;have c1:w.cell? ⟨C,1,none⟩=some (.int .i64 a.a):=cell_of hC rfl;have c2:w.cell? ⟨C,2,none⟩=some (.int .i64 a.b):=cell_of hC rfl;have c7:w.cell? ⟨C,7,none⟩=some vg:=cell_of hC rfl
 have HKQ:Hid (∀p:KW w,Calls Tryz.prog 122 #[.pointer (some ⟨C,0,none⟩)] p.w λe w'=>e=.returned (.int .i64 (kpt G))/\∃q:KW w,w'=q.w):=(λp=>by
  refine(im_kept p.w (p.k.cell c7) (r.kb p.k) (by omega) (λg hg'=>by have:=hg g hg';omega)).mono ?_;rintro e w' ⟨rfl,k⟩
  exact⟨rfl,⟨w',p.k.trans k⟩,rfl⟩:∀p,_)
 have HKP:Hid (∀W',W'.heap=w.heap->W'.os=w.os->W'.output=w.output->Calls Tryz.prog 122 #[.pointer (some ⟨C,0,none⟩)] W' λe w'=>e=.returned (.int .i64 (kpt G))/\Kb 0 w w'):=(λW' e0 e1 e2=>by
  have kk:=kb_heap e0 e1 e2;refine(im_kept W' (kk.cell c7) (r.kb kk) (by omega) (λg hg'=>by have:=hg g hg';omega)).mono ?_;rintro e w' ⟨rfl,k⟩
  exact⟨rfl,kk.trans k⟩:∀W',_)
 have hkr:0<=kpt G/\kpt G<=250:=⟨kpt_nn G,kpt_le (by omega) (λg hg'=>(hg g hg').2)⟩
 obtain⟨K,hK⟩:∃K,K=kpt G:=⟨_,rfl⟩
 rw[<-hK]at HKP HKQ hkr;clear HKP;obtain⟨pg,cg,rfl,hcg,r1⟩:=r;have nI:(G.length:Int)<=50:=by omega
 obtain⟨m31,m32,m33,m34,m35,m36⟩:=h;have hRb:R=true:=by rw[hR];exact dc_t (by unfold gfit;simp[m31,m32,m33,m34,m35,m36])
 subst hRb;have g31:=bne m31;have g32:=bne m32;have g33:=bne m33;have g34:=bne m34;have g35:=bne m35;have g36:=bne m36;have HKK:Hid (Kb 0 w w):=Kb.refl _ _;by_cases hnil:G=[]
 ·subst hnil;clear hR hC HKQ hkr hK hg hn c1 c2 m31 m32 m33 m34 m35 m36 r1;go_enter Tryz.func84,Tryz.ntmps84;go_wp2_with fail;go_ret;exact⟨rfl,HKK⟩
 obtain⟨m,g,hL⟩:=last_of hnil;obtain⟨b,e',-,h7⟩:=r1 (by rw[hL.1];omega);subst e';have d0:=(h7 m g hL.2.1).c0;have hlen:=hL.1;have hct:=hL.2.2.1;have hdf:=hL.2.2.2.1;have mI:(m:Int)+1<=50:=by omega
 have cI:(m:Int)+1<=(cg:Int):=by omega
 have HLEN:Hid (G.length=m+1):=hlen;rw[hlen]at c7;clear r1 h7 hL hnil hlen nI hcg;rcases hgb:g.1 with _|_
 ·rw[hgb]at d0;clear hR hC HKQ hkr hK hg hn c1 c2 m31 m32 m33 m34 m35 m36 hct hdf hgb HLEN;go_enter Tryz.func84,Tryz.ntmps84;go_wp2_with fail;go_ret;exact⟨rfl,HKK⟩
 ·rw[hgb]at d0;clear hR hC HKQ hkr hK hg hn c1 c2 m31 m32 m33 m34 m35 m36 hct hdf hgb HLEN;go_enter Tryz.func84,Tryz.ntmps84;go_wp2_with fail;go_ret;exact⟨rfl,HKK⟩
theorem im_fits(w:World)(hC:ChB C a vt vg v8 v9 w)(r:Rg av w vg G)(hn:G.length<=50)(hg:∀g,g ∈ G->0<=g.2.1/\g.2.1<=250):
  Calls Tryz.prog 84 #[.pointer (some ⟨C,0,none⟩)] w λe w'=>e=.returned (.bool (dc (gfit a G)))/\Kb 0 w w':=by
 by_cases h:a.o=31
 ·exact fg_31 w hC r hn hg h
 have n31:=h;clear h;by_cases h:a.o=32
 ·exact fg_32 w hC r hn hg h
 have n32:=h;clear h;by_cases h:a.o=33
 ·exact fg_33 w hC r hn hg h
 have n33:=h;clear h;by_cases h:a.o=34
 ·exact fg_34 w hC r hn hg h
 have n34:=h;clear h;by_cases h:a.o=35
 ·exact fg_35 w hC r hn hg h
 have n35:=h;clear h;by_cases h:a.o=36
 ·exact fg_36 w hC r hn hg h
 have n36:=h;clear h;exact fg_oth w hC r hn hg ⟨n31,n32,n33,n34,n35,n36⟩
