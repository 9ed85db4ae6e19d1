import Derived.Test.YtjakooihcbdcaaaGreatDoorMZsq
import Derived.Test.YtjakooihcbdcaaaGreatDoorMTof
import Derived.Test.YtjakooihcbdcaaaGreatDoorMTnc
set_option maxHeartbeats 32000000
namespace Go.Proofs.YtjakooihcbdcaaaGreatDoor.Fo
open Go.ChangeShapes Go.WideShapes Go.ChangeAt Go.RowKit
set_option linter.unusedVariables false
set_option maxRecDepth 100000
theorem fg_31 {av : Nat → Prop} {C : Nat} {a : Iv} {G : List Gv} {vt vg v8 v9 : Value} (w : World) (hC : ChB C a vt vg v8 v9 w) (r : Rg av w vg G) (hn : G.length ≤ 50) (hg : ∀ g, g ∈ G → 0 ≤ g.2.1 ∧ g.2.1 ≤ 250) (h : a.o = 31) :
  Calls Tryz.prog 131 #[.pointer (some ⟨C,0,none⟩)] w fun e w'=>e = .returned (.bool (dc (gfit a G)))∧Kb 0 w w':=by
 obtain ⟨R,hR⟩:∃ R,R=dc (gfit a G):=⟨_,rfl⟩
 rw [← hR];have hC:w.heap[C]? = _:=hC;have c0:w.cell? ⟨C,0,none⟩=some (.int .i64 31):=by rw [← h];exact cell_of hC rfl
 have c1:w.cell? ⟨C,1,none⟩=some (.int .i64 a.a):=cell_of hC rfl;have c2:w.cell? ⟨C,2,none⟩=some (.int .i64 a.b):=cell_of hC rfl;have c7:w.cell? ⟨C,7,none⟩=some vg:=cell_of hC rfl
 have HKQ:Hid (∀ p:KW w,Calls Tryz.prog 170 #[.pointer (some ⟨C,0,none⟩)] p.w fun e w'=>e = .returned (.int .i64 (kpt G))∧∃ q:KW w,w'=q.w):=(fun p=>by
  refine (im_kept p.w (p.k.cell c7) (r.kb p.k) (by omega) (fun g hg'=>by have:=hg g hg';omega)).mono ?_;rintro e w' ⟨rfl,k⟩
  exact ⟨rfl,⟨w',p.k.trans k⟩,rfl⟩:∀ p,_)
 have HKP:Hid (∀ W',W'.heap=w.heap→W'.os=w.os→W'.output=w.output→Calls Tryz.prog 170 #[.pointer (some ⟨C,0,none⟩)] W' fun e w'=>e = .returned (.int .i64 (kpt G))∧Kb 0 w w'):=(fun W' e0 e1 e2=>by
  have kk:=kb_heap e0 e1 e2;refine (im_kept W' (kk.cell c7) (r.kb kk) (by omega) (fun g hg'=>by have:=hg g hg';omega)).mono ?_;rintro e w' ⟨rfl,k⟩
  exact ⟨rfl,kk.trans k⟩:∀ W',_)
 have hkr : 0≤kpt G∧kpt G≤250:=⟨kpt_nn G,kpt_le (by omega) (fun g hg'=>(hg g hg').2)⟩
 obtain ⟨K,hK⟩:∃ K,K=kpt G:=⟨_,rfl⟩
 rw [← hK] at HKP HKQ hkr;clear HKP;obtain ⟨pg,cg,rfl,hcg,r1⟩:=r;have nI:(G.length:Int)≤50:=by omega
 have hfit:gfit a G↔(G.length < 50∧kpt G≤a.b):=by unfold gfit;simp [h]
 have HKK:Hid (Kb 0 w w):=Kb.refl _ _;by_cases hnil:G = []
 ·subst hnil;by_cases ck:K≤a.b
  ·have hRb:R=true:=by rw [hR];exact dc_t (hfit.2 ⟨by simp,by rw [← hK];exact ck⟩)
   subst hRb;have gk:K≤a.b:=ck;clear hR hfit hC hkr hK hg hn h ck r1;have C1:∀ p:KW w,Calls Tryz.prog 170 #[.pointer (some ⟨C,0,none⟩)] p.w fun e w'=>e = .returned (.int .i64 K)∧∃ q:KW w,w'=q.w:=(uh HKQ)
   have p1:∀ p:KW w,p.w.cell? ⟨C,1,none⟩=some (.int .i64 a.a):=fun p=>p.k.cell c1;have p2:∀ p:KW w,p.w.cell? ⟨C,2,none⟩=some (.int .i64 a.b):=fun p=>p.k.cell c2;have hne:Nonempty (KW w):=⟨⟨w,Kb.refl _ _⟩⟩
   clear HKQ;go_enter Tryz.func131,Tryz.ntmps131;go_upto_region 15 with fail;refine wp_region_kb (by kernel_rfl) (by kernel_rfl) ?_
   repeat go_big_quiet_step ((first | (go_at_call 170;exact C1 _) | fail))
   refine wpQuiet_nil ?_;intro w5 hw'
   have HK5:Hid (Kb 0 w w5):=by
    obtain ⟨q,hq⟩:=hw';rw [hq];exact q.k
   clear hw' C1 p1 p2 hne;go_wp2_with fail;refine bodyPost_ret (by simp [results,Tryz.results131,go_sem];rfl) rfl ?_;refine ⟨?_,(uh HK5)⟩
   first | rfl | simp [gk] | (simp;omega)
  ·have hRb:R=false:=by rw [hR];exact dc_f (fun q=>ck (by rw [hK];exact (hfit.1 q).2))
   subst hRb;have gk:¬ K≤a.b:=ck;clear hR hfit hC hkr hK hg hn h ck r1;have C1:∀ p:KW w,Calls Tryz.prog 170 #[.pointer (some ⟨C,0,none⟩)] p.w fun e w'=>e = .returned (.int .i64 K)∧∃ q:KW w,w'=q.w:=(uh HKQ)
   have p1:∀ p:KW w,p.w.cell? ⟨C,1,none⟩=some (.int .i64 a.a):=fun p=>p.k.cell c1;have p2:∀ p:KW w,p.w.cell? ⟨C,2,none⟩=some (.int .i64 a.b):=fun p=>p.k.cell c2;have hne:Nonempty (KW w):=⟨⟨w,Kb.refl _ _⟩⟩
   clear HKQ;go_enter Tryz.func131,Tryz.ntmps131;go_upto_region 15 with fail;refine wp_region_kb (by kernel_rfl) (by kernel_rfl) ?_
   repeat go_big_quiet_step ((first | (go_at_call 170;exact C1 _) | fail))
   refine wpQuiet_nil ?_;intro w5 hw'
   have HK5:Hid (Kb 0 w w5):=by
    obtain ⟨q,hq⟩:=hw';rw [hq];exact q.k
   clear hw' C1 p1 p2 hne;go_wp2_with fail;refine bodyPost_ret (by simp [results,Tryz.results131,go_sem];rfl) rfl ?_;refine ⟨?_,(uh HK5)⟩
   first | rfl | simp [gk] | (simp;omega)
 obtain ⟨m,g,hL⟩:=last_of hnil;obtain ⟨b,e',-,h7⟩:=r1 (by rw [hL.1];omega);subst e';have d0:=(h7 m g hL.2.1).c0;have hlen:=hL.1;have hct:=hL.2.2.1;have hdf:=hL.2.2.2.1;have mI:(m:Int)+1≤50:=by omega
 have cI:(m:Int)+1≤(cg:Int):=by omega
 have HLEN:Hid (G.length=m+1):=hlen;rw [hlen] at c7;clear r1 h7 hL hnil hlen nI hcg;rcases hgb:g.1 with _ | _
 ·rw [hgb] at d0;have hlen:=(uh HLEN)
  by_cases c50:m+1 < 50
  ·have m50:(m:Int)+1 < 50:=by omega
   by_cases ck:K≤a.b
   ·have hRb:R=true:=by rw [hR];exact dc_t (hfit.2 ⟨by omega,by rw [← hK];exact ck⟩)
    subst hRb;have gk:K≤a.b:=ck;clear hR hfit hC hkr hK hg hn h ck hct hdf hgb HLEN hlen c50;have C1:∀ p:KW w,Calls Tryz.prog 170 #[.pointer (some ⟨C,0,none⟩)] p.w fun e w'=>e = .returned (.int .i64 K)∧∃ q:KW w,w'=q.w:=(uh HKQ)
    have p1:∀ p:KW w,p.w.cell? ⟨C,1,none⟩=some (.int .i64 a.a):=fun p=>p.k.cell c1;have p2:∀ p:KW w,p.w.cell? ⟨C,2,none⟩=some (.int .i64 a.b):=fun p=>p.k.cell c2;have hne:Nonempty (KW w):=⟨⟨w,Kb.refl _ _⟩⟩
    clear HKQ;go_enter Tryz.func131,Tryz.ntmps131;go_upto_region 15 with fail;refine wp_region_kb (by kernel_rfl) (by kernel_rfl) ?_
    repeat go_big_quiet_step ((first | (go_at_call 170;exact C1 _) | fail))
    refine wpQuiet_nil ?_;intro w5 hw'
    have HK5:Hid (Kb 0 w w5):=by
     obtain ⟨q,hq⟩:=hw';rw [hq];exact q.k
    clear hw' C1 p1 p2 hne;go_wp2_with fail;refine bodyPost_ret (by simp [results,Tryz.results131,go_sem];rfl) rfl ?_;refine ⟨?_,(uh HK5)⟩
    first | rfl | simp [gk] | (simp;omega)
   ·have hRb:R=false:=by rw [hR];exact dc_f (fun q=>ck (by rw [hK];exact (hfit.1 q).2))
    subst hRb;have gk:¬ K≤a.b:=ck;clear hR hfit hC hkr hK hg hn h ck hct hdf hgb HLEN hlen c50;have C1:∀ p:KW w,Calls Tryz.prog 170 #[.pointer (some ⟨C,0,none⟩)] p.w fun e w'=>e = .returned (.int .i64 K)∧∃ q:KW w,w'=q.w:=(uh HKQ)
    have p1:∀ p:KW w,p.w.cell? ⟨C,1,none⟩=some (.int .i64 a.a):=fun p=>p.k.cell c1;have p2:∀ p:KW w,p.w.cell? ⟨C,2,none⟩=some (.int .i64 a.b):=fun p=>p.k.cell c2;have hne:Nonempty (KW w):=⟨⟨w,Kb.refl _ _⟩⟩
    clear HKQ;go_enter Tryz.func131,Tryz.ntmps131;go_upto_region 15 with fail;refine wp_region_kb (by kernel_rfl) (by kernel_rfl) ?_
    repeat go_big_quiet_step ((first | (go_at_call 170;exact C1 _) | fail))
    refine wpQuiet_nil ?_;intro w5 hw'
    have HK5:Hid (Kb 0 w w5):=by
     obtain ⟨q,hq⟩:=hw';rw [hq];exact q.k
    clear hw' C1 p1 p2 hne;go_wp2_with fail;refine bodyPost_ret (by simp [results,Tryz.results131,go_sem];rfl) rfl ?_;refine ⟨?_,(uh HK5)⟩
    first | rfl | simp [gk] | (simp;omega)
  ·have m50:¬ (m:Int)+1 < 50:=by omega
   have hRb:R=false:=by rw [hR];exact dc_f (fun q=>c50 (by have:=(hfit.1 q).1;omega))
   subst hRb;clear hR hfit hC HKQ hkr hK hg hn h hct hdf hgb HLEN hlen c50;go_enter Tryz.func131,Tryz.ntmps131;go_upto_region 15 with fail
   go_quiet (skip)
   go_wp2_with fail;refine bodyPost_ret (by simp [results,Tryz.results131,go_sem];rfl) rfl ?_;exact ⟨rfl,(uh HKK).drewN _⟩
 ·rw [hgb] at d0;have hlen:=(uh HLEN)
  by_cases c50:m+1 < 50
  ·have m50:(m:Int)+1 < 50:=by omega
   by_cases ck:K≤a.b
   ·have hRb:R=true:=by rw [hR];exact dc_t (hfit.2 ⟨by omega,by rw [← hK];exact ck⟩)
    subst hRb;have gk:K≤a.b:=ck;clear hR hfit hC hkr hK hg hn h ck hct hdf hgb HLEN hlen c50;have C1:∀ p:KW w,Calls Tryz.prog 170 #[.pointer (some ⟨C,0,none⟩)] p.w fun e w'=>e = .returned (.int .i64 K)∧∃ q:KW w,w'=q.w:=(uh HKQ)
    have p1:∀ p:KW w,p.w.cell? ⟨C,1,none⟩=some (.int .i64 a.a):=fun p=>p.k.cell c1;have p2:∀ p:KW w,p.w.cell? ⟨C,2,none⟩=some (.int .i64 a.b):=fun p=>p.k.cell c2;have hne:Nonempty (KW w):=⟨⟨w,Kb.refl _ _⟩⟩
    clear HKQ;go_enter Tryz.func131,Tryz.ntmps131;go_upto_region 15 with fail;refine wp_region_kb (by kernel_rfl) (by kernel_rfl) ?_
    repeat go_big_quiet_step ((first | (go_at_call 170;exact C1 _) | fail))
    refine wpQuiet_nil ?_;intro w5 hw'
    have HK5:Hid (Kb 0 w w5):=by
     obtain ⟨q,hq⟩:=hw';rw [hq];exact q.k
    clear hw' C1 p1 p2 hne;go_wp2_with fail;refine bodyPost_ret (by simp [results,Tryz.results131,go_sem];rfl) rfl ?_;refine ⟨?_,(uh HK5)⟩
    first | rfl | simp [gk] | (simp;omega)
   ·have hRb:R=false:=by rw [hR];exact dc_f (fun q=>ck (by rw [hK];exact (hfit.1 q).2))
    subst hRb;have gk:¬ K≤a.b:=ck;clear hR hfit hC hkr hK hg hn h ck hct hdf hgb HLEN hlen c50;have C1:∀ p:KW w,Calls Tryz.prog 170 #[.pointer (some ⟨C,0,none⟩)] p.w fun e w'=>e = .returned (.int .i64 K)∧∃ q:KW w,w'=q.w:=(uh HKQ)
    have p1:∀ p:KW w,p.w.cell? ⟨C,1,none⟩=some (.int .i64 a.a):=fun p=>p.k.cell c1;have p2:∀ p:KW w,p.w.cell? ⟨C,2,none⟩=some (.int .i64 a.b):=fun p=>p.k.cell c2;have hne:Nonempty (KW w):=⟨⟨w,Kb.refl _ _⟩⟩
    clear HKQ;go_enter Tryz.func131,Tryz.ntmps131;go_upto_region 15 with fail;refine wp_region_kb (by kernel_rfl) (by kernel_rfl) ?_
    repeat go_big_quiet_step ((first | (go_at_call 170;exact C1 _) | fail))
    refine wpQuiet_nil ?_;intro w5 hw'
    have HK5:Hid (Kb 0 w w5):=by
     obtain ⟨q,hq⟩:=hw';rw [hq];exact q.k
    clear hw' C1 p1 p2 hne;go_wp2_with fail;refine bodyPost_ret (by simp [results,Tryz.results131,go_sem];rfl) rfl ?_;refine ⟨?_,(uh HK5)⟩
    first | rfl | simp [gk] | (simp;omega)
  ·have m50:¬ (m:Int)+1 < 50:=by omega
   have hRb:R=false:=by rw [hR];exact dc_f (fun q=>c50 (by have:=(hfit.1 q).1;omega))
   subst hRb;clear hR hfit hC HKQ hkr hK hg hn h hct hdf hgb HLEN hlen c50;go_enter Tryz.func131,Tryz.ntmps131;go_upto_region 15 with fail
   go_quiet (skip)
   go_wp2_with fail;refine bodyPost_ret (by simp [results,Tryz.results131,go_sem];rfl) rfl ?_;exact ⟨rfl,(uh HKK).drewN _⟩
theorem fg_oth {av : Nat → Prop} {C : Nat} {a : Iv} {G : List Gv} {vt vg v8 v9 : Value} (w : World) (hC : ChB C a vt vg v8 v9 w) (r : Rg av w vg G) (hn : G.length ≤ 50) (hg : ∀ g, g ∈ G → 0 ≤ g.2.1 ∧ g.2.1 ≤ 250) (h : a.o ≠ 31 ∧ a.o ≠ 32 ∧ a.o ≠ 33 ∧ a.o ≠ 34 ∧ a.o ≠ 35 ∧ a.o ≠ 36) :
  Calls Tryz.prog 131 #[.pointer (some ⟨C,0,none⟩)] w fun e w'=>e = .returned (.bool (dc (gfit a G)))∧Kb 0 w w':=by
 obtain ⟨R,hR⟩:∃ R,R=dc (gfit a G):=⟨_,rfl⟩
 rw [← hR];have hC:w.heap[C]? = _:=hC;have c0:w.cell? ⟨C,0,none⟩=some (.int .i64 a.o):=cell_of hC rfl;have c1:w.cell? ⟨C,1,none⟩=some (.int .i64 a.a):=cell_of hC rfl;have c2:w.cell? ⟨C,2,none⟩=some (.int .i64 a.b):=cell_of hC rfl;have c7:w.cell? ⟨C,7,none⟩=some vg:=cell_of hC rfl
 have HKQ:Hid (∀ p:KW w,Calls Tryz.prog 170 #[.pointer (some ⟨C,0,none⟩)] p.w fun e w'=>e = .returned (.int .i64 (kpt G))∧∃ q:KW w,w'=q.w):=(fun p=>by
  refine (im_kept p.w (p.k.cell c7) (r.kb p.k) (by omega) (fun g hg'=>by have:=hg g hg';omega)).mono ?_;rintro e w' ⟨rfl,k⟩
  exact ⟨rfl,⟨w',p.k.trans k⟩,rfl⟩:∀ p,_)
 have HKP:Hid (∀ W',W'.heap=w.heap→W'.os=w.os→W'.output=w.output→Calls Tryz.prog 170 #[.pointer (some ⟨C,0,none⟩)] W' fun e w'=>e = .returned (.int .i64 (kpt G))∧Kb 0 w w'):=(fun W' e0 e1 e2=>by
  have kk:=kb_heap e0 e1 e2;refine (im_kept W' (kk.cell c7) (r.kb kk) (by omega) (fun g hg'=>by have:=hg g hg';omega)).mono ?_;rintro e w' ⟨rfl,k⟩
  exact ⟨rfl,kk.trans k⟩:∀ W',_)
 have hkr : 0≤kpt G∧kpt G≤250:=⟨kpt_nn G,kpt_le (by omega) (fun g hg'=>(hg g hg').2)⟩
 obtain ⟨K,hK⟩:∃ K,K=kpt G:=⟨_,rfl⟩
 rw [← hK] at HKP HKQ hkr;clear HKP;obtain ⟨pg,cg,rfl,hcg,r1⟩:=r;have nI:(G.length:Int)≤50:=by omega
 obtain ⟨m31,m32,m33,m34,m35,m36⟩:=h;have hRb:R=true:=by rw [hR];exact dc_t (by unfold gfit;simp [m31,m32,m33,m34,m35,m36])
 subst hRb;have g31:=bne m31;have g32:=bne m32;have g33:=bne m33;have g34:=bne m34;have g35:=bne m35;have g36:=bne m36;have HKK:Hid (Kb 0 w w):=Kb.refl _ _;by_cases hnil:G = []
 ·subst hnil;clear hR hC HKQ hkr hK hg hn c1 c2 m31 m32 m33 m34 m35 m36 r1;go_enter Tryz.func131,Tryz.ntmps131;go_wp2_with fail;go_ret;exact ⟨rfl,HKK⟩
 obtain ⟨m,g,hL⟩:=last_of hnil;obtain ⟨b,e',-,h7⟩:=r1 (by rw [hL.1];omega);subst e';have d0:=(h7 m g hL.2.1).c0;have hlen:=hL.1;have hct:=hL.2.2.1;have hdf:=hL.2.2.2.1;have mI:(m:Int)+1≤50:=by omega
 have cI:(m:Int)+1≤(cg:Int):=by omega
 have HLEN:Hid (G.length=m+1):=hlen;rw [hlen] at c7;clear r1 h7 hL hnil hlen nI hcg;rcases hgb:g.1 with _ | _
 ·rw [hgb] at d0;clear hR hC HKQ hkr hK hg hn c1 c2 m31 m32 m33 m34 m35 m36 hct hdf hgb HLEN;go_enter Tryz.func131,Tryz.ntmps131;go_wp2_with fail;go_ret;exact ⟨rfl,HKK⟩
 ·rw [hgb] at d0;clear hR hC HKQ hkr hK hg hn c1 c2 m31 m32 m33 m34 m35 m36 hct hdf hgb HLEN;go_enter Tryz.func131,Tryz.ntmps131;go_wp2_with fail;go_ret;exact ⟨rfl,HKK⟩
theorem im_fits {av : Nat → Prop} {C : Nat} {a : Iv} {G : List Gv} {vt vg v8 v9 : Value} (w : World) (hC : ChB C a vt vg v8 v9 w) (r : Rg av w vg G) (hn : G.length ≤ 50) (hg : ∀ g, g ∈ G → 0 ≤ g.2.1 ∧ g.2.1 ≤ 250) :
  Calls Tryz.prog 131 #[.pointer (some ⟨C,0,none⟩)] w fun e w'=>e = .returned (.bool (dc (gfit a G)))∧Kb 0 w w':=by
 by_cases h:a.o=31
 ·exact fg_31 w hC r hn hg h
 have n31:=h;clear h;by_cases h:a.o=32
 ·exact fg_32 w hC r hn hg h
 have n32:=h;clear h;by_cases h:a.o=33
 ·exact fg_33 w hC r hn hg h
 have n33:=h;clear h;by_cases h:a.o=34
 ·exact fg_34 w hC r hn hg h
 have n34:=h;clear h;by_cases h:a.o=35
 ·exact fg_35 w hC r hn hg h
 have n35:=h;clear h;by_cases h:a.o=36
 ·exact fg_36 w hC r hn hg h
 have n36:=h;clear h;exact fg_oth w hC r hn hg ⟨n31,n32,n33,n34,n35,n36⟩
def tt (n:Nat):Nat:=if n=19∨n=31 then 0 else if n=20∨n=21∨n=38∨n=39∨n=41 then 1 else 4
theorem tt_tab:∀ n,n < 43→∀ j,j < 4→(pr n j=6↔tt n=j):=by decide
def tgi (a:Iv):Int:=match tgt a with | some t=>t | none=>-1
theorem tgt_tt (a:Iv) (n:Nat) (h:a.o=(n:Int)):tgi a=if tt n=0 then a.a else if tt n=1 then a.b else -1:=by
 unfold tgi tgt tt;by_cases h1:n=19∨n=31
 ·rw [if_pos h1,if_pos rfl,if_pos (by omega)]
 ·rw [if_neg h1,if_neg (show ¬ (a.o=19∨a.o=31) by omega)];by_cases h2:n=20∨n=21∨n=38∨n=39∨n=41
  ·rw [if_pos h2,if_pos (show a.o=20∨a.o=21∨a.o=38∨a.o=39∨a.o=41 by omega)];rfl
  ·rw [if_neg h2,if_neg (show ¬ (a.o=20∨a.o=21∨a.o=38∨a.o=39∨a.o=41) by omega)];rfl
theorem im_target (a:Iv) (w:World) (hgd:Gd w) (h1 : 1≤a.o) (h42:a.o≤42):Calls Tryz.prog 134 #[.agg #[.int .i64 a.o,.int .i64 a.a,.int .i64 a.b,.int .i64 a.c,.int .i64 a.d]] w fun e w'=>e = .returned (.int .i64 (tgi a))∧Kb 0 w w':=by
  obtain ⟨n,hn⟩:∃ n:Nat,a.o=(n:Int):=⟨a.o.toNat,by omega⟩
  have n42:n < 43:=by omega
  have htg:=tgt_tt a n hn;have HF:=fun W=>im_fieldsof a W;unfold insv at HF;obtain ⟨w2,hw2⟩:∃ w2,w2=w.alloc (.cells #[.int .i64 a.o,.int .i64 a.a,.int .i64 a.b,.int .i64 a.c,.int .i64 a.d] 84):=⟨_,rfl⟩
  have k2:Kb 0 w w2:=by rw [hw2];exact kb_alloc _ _ _
  have hb2:w2.heap[w.heap.size]? = some (.cells #[.int .i64 a.o,.int .i64 a.a,.int .i64 a.b,.int .i64 a.c,.int .i64 a.d] 84 (0,0)):=by rw [hw2];exact alloc_new _ _ _
  have y0:w2.cell? ⟨w.heap.size,0,none⟩=some (.int .i64 a.o):=cell_of hb2 rfl;have y1:w2.cell? ⟨w.heap.size,1,none⟩=some (.int .i64 a.a):=cell_of hb2 rfl;have y2:w2.cell? ⟨w.heap.size,2,none⟩=some (.int .i64 a.b):=cell_of hb2 rfl;have y3:w2.cell? ⟨w.heap.size,3,none⟩=some (.int .i64 a.c):=cell_of hb2 rfl;have y4:w2.cell? ⟨w.heap.size,4,none⟩=some (.int .i64 a.d):=cell_of hb2 rfl;have HW:Hid (w2 = _):=hw2;obtain ⟨R,hR⟩:∃ R,R=tgi a:=⟨_,rfl⟩
  rw [← hR];have HR:Hid (R=(if tt n=0 then a.a else if tt n=1 then a.b else -1)∧n < 43∧a.o=(n:Int)):=(⟨by rw [hR];exact htg,n42,hn⟩:_∧_)
  have HG:Hid (Gd w∧Kb 0 w w2):=(⟨hgd,k2⟩:_∧_)
  clear hw2 k2 hb2 hR htg hgd n42 hn;go_enter Tryz.func134,Tryz.ntmps134;go_wp2_with fail;rw [← (uh HW)];clear HW;refine (HF w2).mono ?_;rintro e w3 ⟨rfl,k3⟩;have y0':=k3.cell y0;have HS:Hid (Kb 0 w w3∧Gd w3):=(⟨(uh HG).2.trans k3,(uh HG).1.keep ((uh HG).2.trans k3)⟩:_∧_)
  clear k3 y0 y1 y2 y3 y4 HF HG;have hix0:=ix_0 a.a a.b a.c a.d;have hix1:=ix_1 a.a a.b a.c a.d;have hix2:=ix_2 a.a a.b a.c a.d;have hix3:=ix_3 a.a a.b a.c a.d;go_wp2_with fail
  go_loopw [7] (fun sl wr=>∃ j:Nat,sl = .int .i64 j∧j≤4∧wr=w3∧Hid (∀ y,y < j→tt n ≠ y)) (fun sl _=>4 - (intOf sl).toNat)
  case atStart=>exact ⟨0,rfl,Nat.zero_le _,rfl,(fun y hy=>by omega:∀ y,_)⟩
  case round =>
    obtain ⟨j,rfl,hj,rfl,HX⟩:=hrel
    rename World=>w3
    obtain ⟨hR,n42,hn⟩:=(uh HR)
    obtain ⟨k03,hgd⟩:=(uh HS)
    rcases Nat.lt_or_ge j 4 with h | h
    · have hg:=hgd n n42 j h;have htt:=tt_tab n n42 j h;have hX:=(uh HX)
      rw [hn] at y0';have nI:(n:Int) < 43:=by omega
      have HK:Hid (Kb 0 w w3):=k03;by_cases c:pr n j=6
      · have ht:=htt.1 c;rw [c,show ((6:Nat):Int)=6 from rfl] at hg
        have hRj:R=fld a j:=by
          rw [hR];rcases (by omega:j=0∨j=1∨j=2∨j=3) with rfl | rfl | rfl | rfl
          · rw [if_pos ht];rfl
          · rw [if_neg (by omega),if_pos ht];rfl
          · exfalso;unfold tt at ht;split at ht;· omega
            split at ht <;> omega
          · exfalso;unfold tt at ht;split at ht;· omega
            split at ht <;> omega
        subst hRj;clear hR htt hX k03 hgd HR HS HX ht c hn hj;rcases (by omega:j=0∨j=1∨j=2∨j=3) with rfl | rfl | rfl | rfl
        all_goals
          clear h
          first | (replace hg:w3.cell? ⟨1,n*4,none⟩=some (.int .u8 6):=hg) | skip
          go_wp2_with fail;go_ret;exact ⟨rfl,HK⟩
      · have HN : Hid (∀ y, y < j + 1 → tt n ≠ y) := (fun y hy => by
          by_cases e:y=j
          · subst e;exact fun q=>c (htt.2 q)
          · exact hX y (by omega):∀ y,_)
        have gp:=bne (show ((pr n j:Nat):Int) ≠ 6 by omega);clear hR htt hX k03 hgd HX c hn hj;rcases (by omega:j=0∨j=1∨j=2∨j=3) with rfl | rfl | rfl | rfl
        all_goals
          clear h
          first | (replace hg:w3.cell? ⟨1,n*4,none⟩=some (.int .u8 (pr n 0:Int)):=hg) | skip
          generalize pr n _=rj at *;go_wp2_with fail;go_roundw
          case rel=>exact ⟨_+1,by go_num,by omega,by simp,HN⟩
          case measure=>simp [intOf]
    · have jI:¬ (j:Int) < 4:=by omega
      have hX:=(uh HX)
      have hRn:R = -1:=by rw [hR,if_neg (hX 0 (by omega)),if_neg (hX 1 (by omega))]
      subst hRn;have HK:Hid (Kb 0 w w3):=k03;clear hR hX k03 hgd HR HS HX hn hj h;go_wp2_with fail;go_ret;exact ⟨rfl,HK⟩
theorem Gd.kx {q:Nat} {w w':World} (h:Gd w) (k:Kx q w w') (hq:q ≠ 1):Gd w':=fun o ho j hj=>k.cellA (by exact fun e=>hq e.symm) (h o ho j hj)
theorem ChB.kx {C q:Nat} {a:Iv} {vt vg v8 v9:Value} {w w':World} (h:ChB C a vt vg v8 v9 w) (k:Kx q w w') (hq:q ≠ C):ChB C a vt vg v8 v9 w':=(k.block C (Array.getElem?_eq_some_iff.1 h).1 (fun e=>hq e.symm)).trans h
def PuA (a:Iv) (T:List Int) (base q C:Nat) (vt vg v8 v9:Value) (w:World) (e:Ending) (w':World):Prop:=e = .returned (.tuple #[])∧OwI base w' v8 (put a T)∧ChB C a vt vg v8 v9 w'∧Kv v8 q w w'
def PuI (a:Iv) (T:List Int) (base q C:Nat) (vt vg v8 v9:Value) (w:World) (j:Nat) (wr:World):Prop:=OwI base wr v8 (putn a T j)∧ChB C a vt vg v8 v9 wr∧Kv v8 q w wr∧Gd wr
theorem putn_len (a:Iv) (T:List Int):∀ j,(putn a T j).length=T.length
 | 0=>rfl
 | j+1=>by show (put1 _ _ (putn a T j)).length = _;rw [put1_len,putn_len a T j]
theorem PuI.set {a:Iv} {T:List Int} {base q C:Nat} {vt vg v8 v9:Value} {w:World} {j:Nat} {wr:World} (h:PuI a T base q C vt vg v8 v9 w j wr) (hqq:∀ g,v8.ownBlock=some g→g=q) (hqC:q ≠ C) (hqG:q ≠ 1) {k:Nat} (hk:k < T.length):∃ (b:Addr) (cap:Nat) (y:Int),v8 = .slice (some b) T.length cap∧T.length≤cap∧wr.cell? (b.add k)=some (.int .i64 y)∧wr.frozen? (b.add k)=false∧∀ x,putn a T (j+1)=(putn a T j).set k x→PuI a T base q C vt vg v8 v9 w (j+1) (wr.setCell (b.add k) (.int .i64 x)):=by
 obtain ⟨h1,h2,h3,h4⟩:=h;obtain ⟨b,q',cap,y,e1,e2,e3,e4,e5,e6,e7,e8⟩:=own_wr h1 (k:=k) (by rw [putn_len];exact hk);have hq:=hqq q' e5;subst hq;rw [putn_len] at e1 e3;refine ⟨b,cap,y,e1,e3,e6,e7 k,fun x hx=>?_⟩;obtain ⟨s1,s2⟩:=e8 wr (Kb.refl _ _) x;exact ⟨by rw [hx];exact s1,h2.kx s2 hqC,⟨h3.1.trans s2,fun e=>by rw [e5] at e;cases e⟩,h4.kx s2 hqG⟩
theorem im_put {np base q C : Nat} {d : Pd} {a : Iv} {T : List Int} {vt vg v8 v9 : Value} (w : World) (hC : ChB C a vt vg v8 v9 w) (hgd : Gd w) (hO : OwI base w v8 T) (hqq : ∀ g, v8.ownBlock = some g → g = q) (hqC : q ≠ C) (hqG : q ≠ 1) (ht : Tok np d a) (hl : (T.length : Int) = d.g) (hgb : d.g ≤ 250) :
  Calls Tryz.prog 130 #[.pointer (some ⟨C,0,none⟩)] w (PuA a T base q C vt vg v8 v9 w):=by
 obtain ⟨n,hn⟩:∃ n:Nat,a.o=(n:Int):=⟨a.o.toNat,by have:=ht.1;omega⟩
 have n42:n < 43:=by have:=ht.2.1;omega
 have HF:=fun W=>im_fieldsof a W;unfold insv at HF;have hC':w.heap[C]? = _:=hC;have c0:w.cell? ⟨C,0,none⟩=some (.int .i64 a.o):=cell_of hC' rfl;have c1:w.cell? ⟨C,1,none⟩=some (.int .i64 a.a):=cell_of hC' rfl;have c2:w.cell? ⟨C,2,none⟩=some (.int .i64 a.b):=cell_of hC' rfl;have c3:w.cell? ⟨C,3,none⟩=some (.int .i64 a.c):=cell_of hC' rfl;have c4:w.cell? ⟨C,4,none⟩=some (.int .i64 a.d):=cell_of hC' rfl;have HY:Hid (Tok np d a∧(T.length:Int)=d.g∧d.g≤250∧(∀ g,v8.ownBlock=some g→g=q)∧q ≠ C∧q ≠ 1∧a.o=(n:Int)∧n < 43):=(⟨ht,hl,hgb,hqq,hqC,hqG,hn,n42⟩:_∧_)
 have HST:Hid (∀ W,Kb 0 w W→PuI a T base q C vt vg v8 v9 w 0 W):=(fun W k=>⟨hO.kb k,(k.block C zq (Array.getElem?_eq_some_iff.1 hC').1).trans hC,Kv.of_kb k,hgd.keep k⟩:∀ W,_)
 obtain ⟨pv,cv,hv8⟩:=own_shape hO;subst hv8;clear hC hC' hgd hO hqq hqC hqG ht hl hgb hn n42;go_enter Tryz.func130,Tryz.ntmps130;go_wp2_with fail;refine (HF w).mono ?_;rintro e w3 ⟨rfl,k3⟩;have HS:Hid (PuI a T base q C vt vg (.slice pv T.length cv) v9 w 0 w3):=(uh HST) w3 k3;clear k3 HF HST c0 c1 c2 c3 c4;have hix0:=ix_0 a.a a.b a.c a.d;have hix1:=ix_1 a.a a.b a.c a.d;have hix2:=ix_2 a.a a.b a.c a.d;have hix3:=ix_3 a.a a.b a.c a.d;go_wp2_with fail
 go_loopw [9] (fun sl wr=>∃ j:Nat,sl = .int .i64 j∧j≤4∧Hid (PuI a T base q C vt vg (.slice pv T.length cv) v9 w j wr)) (fun sl _=>4 - (intOf sl).toNat)
 case atStart=>exact ⟨0,rfl,Nat.zero_le _,HS⟩
 case round =>
  obtain ⟨j,rfl,hj,HX⟩:=hrel;clear HS;have hX:=(uh HX)
  clear HX;rcases Nat.lt_or_ge j 4 with h | h
  ·obtain ⟨ht,hl,hgb,hqq,hqC,hqG,hn,n42⟩:=(uh HY)
   have hon:a.o.toNat=n:=by omega
   have htk:=ht.2.2 j h;rw [hon] at htk;have hg:=hX.2.2.2 n n42 j h;have hb8:wr.heap[C]? = _:=hX.2.1;have y0:wr.cell? ⟨C,0,none⟩=some (.int .i64 n):=by rw [← hn];exact cell_of hb8 rfl
   have y8:wr.cell? ⟨C,8,none⟩=some (.slice pv T.length cv):=cell_of hb8 rfl;have nI:(n:Int) < 43:=by omega
   have lI:(T.length:Int)≤250:=by omega
   have hpn:putn a T (j+1)=put1 (pr n j) (fld a j) (putn a T j):=by rw [← hon];rfl
   by_cases hr12:pr n j=12
   ·rw [hr12] at htk hg hpn;rw [show ((12:Nat):Int)=12 from rfl] at hg;have htk : 0≤fld a j∧fld a j≤d.g - 1:=htk;obtain ⟨k,hk1,hxk⟩:∃ k:Nat,0≤k∧fld a j=(k:Int):=⟨(fld a j).toNat,by omega,by omega⟩
    obtain ⟨b,cap,y,e1,e2,cy,fz,hset⟩:=hX.set hqq hqC hqG (k:=k) (by omega);have e3:=Value.slice.inj e1;obtain ⟨rfl,rfl⟩:pv=some b∧cv=cap:=⟨e3.1,e3.2.2⟩
    have kI:(k:Int) < (T.length:Int):=by omega
    have cI:(T.length:Int)≤(cv:Int):=by omega
    have HN:Hid (PuI a T base q C vt vg (.slice (some b) T.length cv) v9 w (j+1) (wr.setCell (b.add k) (.int .i64 1))):=hset 1 (by rw [hpn,hxk];rfl);clear hX ht hl hgb hqq hqC hqG hn n42 hon htk hb8 hpn hr12 hk1 hset e1 e2 e3 hj;rcases (by omega:j=0∨j=1∨j=2∨j=3) with rfl | rfl | rfl | rfl
    ·replace hxk:a.a=(k:Int):=hxk;replace hg:wr.cell? ⟨1,n*4,none⟩=some (.int .u8 12):=hg;have hix:∀ W,(Instr.index 216 (.agg #[.int .i64 a.a,.int .i64 a.b,.int .i64 a.c,.int .i64 a.d]) (.int .i64 0)).run Tryz.prog W = .ok (.int .i64 ((k:Int))) W:=fun W=>by rw [hix0 W,hxk]
     clear hix0 hix1 hix2 hix3 hxk h;go_wp2_with fail;go_roundw
     case rel=>exact ⟨0+1,by go_num,by omega,HN⟩
     case measure=>simp [intOf]
    ·replace hxk:a.b=(k:Int):=hxk
     skip
     have hix:∀ W,(Instr.index 216 (.agg #[.int .i64 a.a,.int .i64 a.b,.int .i64 a.c,.int .i64 a.d]) (.int .i64 1)).run Tryz.prog W = .ok (.int .i64 ((k:Int))) W:=fun W=>by rw [hix1 W,hxk]
     clear hix0 hix1 hix2 hix3 hxk h;go_wp2_with fail;go_roundw
     case rel=>exact ⟨1+1,by go_num,by omega,HN⟩
     case measure=>simp [intOf]
    ·replace hxk:a.c=(k:Int):=hxk
     skip
     have hix:∀ W,(Instr.index 216 (.agg #[.int .i64 a.a,.int .i64 a.b,.int .i64 a.c,.int .i64 a.d]) (.int .i64 2)).run Tryz.prog W = .ok (.int .i64 ((k:Int))) W:=fun W=>by rw [hix2 W,hxk]
     clear hix0 hix1 hix2 hix3 hxk h;go_wp2_with fail;go_roundw
     case rel=>exact ⟨2+1,by go_num,by omega,HN⟩
     case measure=>simp [intOf]
    ·replace hxk:a.d=(k:Int):=hxk
     skip
     have hix:∀ W,(Instr.index 216 (.agg #[.int .i64 a.a,.int .i64 a.b,.int .i64 a.c,.int .i64 a.d]) (.int .i64 3)).run Tryz.prog W = .ok (.int .i64 ((k:Int))) W:=fun W=>by rw [hix3 W,hxk]
     clear hix0 hix1 hix2 hix3 hxk h;go_wp2_with fail;go_roundw
     case rel=>exact ⟨3+1,by go_num,by omega,HN⟩
     case measure=>simp [intOf]
   by_cases hr13:pr n j=13
   ·rw [hr13] at htk hg hpn;rw [show ((13:Nat):Int)=13 from rfl] at hg;have htk : 0≤fld a j∧fld a j≤d.g - 1:=htk;obtain ⟨k,hk1,hxk⟩:∃ k:Nat,0≤k∧fld a j=(k:Int):=⟨(fld a j).toNat,by omega,by omega⟩
    obtain ⟨b,cap,y,e1,e2,cy,fz,hset⟩:=hX.set hqq hqC hqG (k:=k) (by omega);have e3:=Value.slice.inj e1;obtain ⟨rfl,rfl⟩:pv=some b∧cv=cap:=⟨e3.1,e3.2.2⟩
    have kI:(k:Int) < (T.length:Int):=by omega
    have cI:(T.length:Int)≤(cv:Int):=by omega
    have HN:Hid (PuI a T base q C vt vg (.slice (some b) T.length cv) v9 w (j+1) (wr.setCell (b.add k) (.int .i64 2))):=hset 2 (by rw [hpn,hxk];rfl);clear hX ht hl hgb hqq hqC hqG hn n42 hon htk hb8 hpn hr13 hk1 hset e1 e2 e3 hj;rcases (by omega:j=0∨j=1∨j=2∨j=3) with rfl | rfl | rfl | rfl
    ·replace hxk:a.a=(k:Int):=hxk;replace hg:wr.cell? ⟨1,n*4,none⟩=some (.int .u8 13):=hg;have hix:∀ W,(Instr.index 216 (.agg #[.int .i64 a.a,.int .i64 a.b,.int .i64 a.c,.int .i64 a.d]) (.int .i64 0)).run Tryz.prog W = .ok (.int .i64 ((k:Int))) W:=fun W=>by rw [hix0 W,hxk]
     clear hix0 hix1 hix2 hix3 hxk h;go_wp2_with fail;go_roundw
     case rel=>exact ⟨0+1,by go_num,by omega,HN⟩
     case measure=>simp [intOf]
    ·replace hxk:a.b=(k:Int):=hxk
     skip
     have hix:∀ W,(Instr.index 216 (.agg #[.int .i64 a.a,.int .i64 a.b,.int .i64 a.c,.int .i64 a.d]) (.int .i64 1)).run Tryz.prog W = .ok (.int .i64 ((k:Int))) W:=fun W=>by rw [hix1 W,hxk]
     clear hix0 hix1 hix2 hix3 hxk h;go_wp2_with fail;go_roundw
     case rel=>exact ⟨1+1,by go_num,by omega,HN⟩
     case measure=>simp [intOf]
    ·replace hxk:a.c=(k:Int):=hxk
     skip
     have hix:∀ W,(Instr.index 216 (.agg #[.int .i64 a.a,.int .i64 a.b,.int .i64 a.c,.int .i64 a.d]) (.int .i64 2)).run Tryz.prog W = .ok (.int .i64 ((k:Int))) W:=fun W=>by rw [hix2 W,hxk]
     clear hix0 hix1 hix2 hix3 hxk h;go_wp2_with fail;go_roundw
     case rel=>exact ⟨2+1,by go_num,by omega,HN⟩
     case measure=>simp [intOf]
    ·replace hxk:a.d=(k:Int):=hxk
     skip
     have hix:∀ W,(Instr.index 216 (.agg #[.int .i64 a.a,.int .i64 a.b,.int .i64 a.c,.int .i64 a.d]) (.int .i64 3)).run Tryz.prog W = .ok (.int .i64 ((k:Int))) W:=fun W=>by rw [hix3 W,hxk]
     clear hix0 hix1 hix2 hix3 hxk h;go_wp2_with fail;go_roundw
     case rel=>exact ⟨3+1,by go_num,by omega,HN⟩
     case measure=>simp [intOf]
   by_cases hr14:pr n j=14
   ·rw [hr14] at htk hg hpn;rw [show ((14:Nat):Int)=14 from rfl] at hg;have htk : 0≤fld a j∧fld a j≤d.g - 1:=htk;obtain ⟨k,hk1,hxk⟩:∃ k:Nat,0≤k∧fld a j=(k:Int):=⟨(fld a j).toNat,by omega,by omega⟩
    obtain ⟨b,cap,y,e1,e2,cy,fz,hset⟩:=hX.set hqq hqC hqG (k:=k) (by omega);have e3:=Value.slice.inj e1;obtain ⟨rfl,rfl⟩:pv=some b∧cv=cap:=⟨e3.1,e3.2.2⟩
    have kI:(k:Int) < (T.length:Int):=by omega
    have cI:(T.length:Int)≤(cv:Int):=by omega
    have HN:Hid (PuI a T base q C vt vg (.slice (some b) T.length cv) v9 w (j+1) (wr.setCell (b.add k) (.int .i64 3))):=hset 3 (by rw [hpn,hxk];rfl);clear hX ht hl hgb hqq hqC hqG hn n42 hon htk hb8 hpn hr14 hk1 hset e1 e2 e3 hj;rcases (by omega:j=0∨j=1∨j=2∨j=3) with rfl | rfl | rfl | rfl
    ·replace hxk:a.a=(k:Int):=hxk;replace hg:wr.cell? ⟨1,n*4,none⟩=some (.int .u8 14):=hg;have hix:∀ W,(Instr.index 216 (.agg #[.int .i64 a.a,.int .i64 a.b,.int .i64 a.c,.int .i64 a.d]) (.int .i64 0)).run Tryz.prog W = .ok (.int .i64 ((k:Int))) W:=fun W=>by rw [hix0 W,hxk]
     clear hix0 hix1 hix2 hix3 hxk h;go_wp2_with fail;go_roundw
     case rel=>exact ⟨0+1,by go_num,by omega,HN⟩
     case measure=>simp [intOf]
    ·replace hxk:a.b=(k:Int):=hxk
     skip
     have hix:∀ W,(Instr.index 216 (.agg #[.int .i64 a.a,.int .i64 a.b,.int .i64 a.c,.int .i64 a.d]) (.int .i64 1)).run Tryz.prog W = .ok (.int .i64 ((k:Int))) W:=fun W=>by rw [hix1 W,hxk]
     clear hix0 hix1 hix2 hix3 hxk h;go_wp2_with fail;go_roundw
     case rel=>exact ⟨1+1,by go_num,by omega,HN⟩
     case measure=>simp [intOf]
    ·replace hxk:a.c=(k:Int):=hxk
     skip
     have hix:∀ W,(Instr.index 216 (.agg #[.int .i64 a.a,.int .i64 a.b,.int .i64 a.c,.int .i64 a.d]) (.int .i64 2)).run Tryz.prog W = .ok (.int .i64 ((k:Int))) W:=fun W=>by rw [hix2 W,hxk]
     clear hix0 hix1 hix2 hix3 hxk h;go_wp2_with fail;go_roundw
     case rel=>exact ⟨2+1,by go_num,by omega,HN⟩
     case measure=>simp [intOf]
    ·replace hxk:a.d=(k:Int):=hxk
     skip
     have hix:∀ W,(Instr.index 216 (.agg #[.int .i64 a.a,.int .i64 a.b,.int .i64 a.c,.int .i64 a.d]) (.int .i64 3)).run Tryz.prog W = .ok (.int .i64 ((k:Int))) W:=fun W=>by rw [hix3 W,hxk]
     clear hix0 hix1 hix2 hix3 hxk h;go_wp2_with fail;go_roundw
     case rel=>exact ⟨3+1,by go_num,by omega,HN⟩
     case measure=>simp [intOf]
   by_cases hr15:pr n j=15
   ·rw [hr15] at htk hg hpn;rw [show ((15:Nat):Int)=15 from rfl] at hg;have htk : 0≤fld a j∧fld a j≤d.g - 1:=htk;obtain ⟨k,hk1,hxk⟩:∃ k:Nat,0≤k∧fld a j=(k:Int):=⟨(fld a j).toNat,by omega,by omega⟩
    obtain ⟨b,cap,y,e1,e2,cy,fz,hset⟩:=hX.set hqq hqC hqG (k:=k) (by omega);have e3:=Value.slice.inj e1;obtain ⟨rfl,rfl⟩:pv=some b∧cv=cap:=⟨e3.1,e3.2.2⟩
    have kI:(k:Int) < (T.length:Int):=by omega
    have cI:(T.length:Int)≤(cv:Int):=by omega
    have HN:Hid (PuI a T base q C vt vg (.slice (some b) T.length cv) v9 w (j+1) (wr.setCell (b.add k) (.int .i64 0))):=hset 0 (by rw [hpn,hxk];rfl);clear hX ht hl hgb hqq hqC hqG hn n42 hon htk hb8 hpn hr15 hk1 hset e1 e2 e3 hj;rcases (by omega:j=0∨j=1∨j=2∨j=3) with rfl | rfl | rfl | rfl
    ·replace hxk:a.a=(k:Int):=hxk;replace hg:wr.cell? ⟨1,n*4,none⟩=some (.int .u8 15):=hg;have hix:∀ W,(Instr.index 216 (.agg #[.int .i64 a.a,.int .i64 a.b,.int .i64 a.c,.int .i64 a.d]) (.int .i64 0)).run Tryz.prog W = .ok (.int .i64 ((k:Int))) W:=fun W=>by rw [hix0 W,hxk]
     clear hix0 hix1 hix2 hix3 hxk h;go_wp2_with fail;go_roundw
     case rel=>exact ⟨0+1,by go_num,by omega,HN⟩
     case measure=>simp [intOf]
    ·replace hxk:a.b=(k:Int):=hxk
     skip
     have hix:∀ W,(Instr.index 216 (.agg #[.int .i64 a.a,.int .i64 a.b,.int .i64 a.c,.int .i64 a.d]) (.int .i64 1)).run Tryz.prog W = .ok (.int .i64 ((k:Int))) W:=fun W=>by rw [hix1 W,hxk]
     clear hix0 hix1 hix2 hix3 hxk h;go_wp2_with fail;go_roundw
     case rel=>exact ⟨1+1,by go_num,by omega,HN⟩
     case measure=>simp [intOf]
    ·replace hxk:a.c=(k:Int):=hxk
     skip
     have hix:∀ W,(Instr.index 216 (.agg #[.int .i64 a.a,.int .i64 a.b,.int .i64 a.c,.int .i64 a.d]) (.int .i64 2)).run Tryz.prog W = .ok (.int .i64 ((k:Int))) W:=fun W=>by rw [hix2 W,hxk]
     clear hix0 hix1 hix2 hix3 hxk h;go_wp2_with fail;go_roundw
     case rel=>exact ⟨2+1,by go_num,by omega,HN⟩
     case measure=>simp [intOf]
    ·replace hxk:a.d=(k:Int):=hxk
     skip
     have hix:∀ W,(Instr.index 216 (.agg #[.int .i64 a.a,.int .i64 a.b,.int .i64 a.c,.int .i64 a.d]) (.int .i64 3)).run Tryz.prog W = .ok (.int .i64 ((k:Int))) W:=fun W=>by rw [hix3 W,hxk]
     clear hix0 hix1 hix2 hix3 hxk h;go_wp2_with fail;go_roundw
     case rel=>exact ⟨3+1,by go_num,by omega,HN⟩
     case measure=>simp [intOf]
   by_cases hr21:pr n j=21
   ·rw [hr21] at htk hg hpn;rw [show ((21:Nat):Int)=21 from rfl] at hg;have htk : 0≤fld a j∧fld a j≤d.g - 2:=htk;obtain ⟨k,hk1,hxk⟩:∃ k:Nat,1≤k∧fld a j=(k:Int) - 1:=⟨(fld a j+1).toNat,by omega,by omega⟩
    obtain ⟨b,cap,y,e1,e2,cy,fz,hset⟩:=hX.set hqq hqC hqG (k:=k) (by omega);have e3:=Value.slice.inj e1;obtain ⟨rfl,rfl⟩:pv=some b∧cv=cap:=⟨e3.1,e3.2.2⟩
    have kI:(k:Int) < (T.length:Int):=by omega
    have cI:(T.length:Int)≤(cv:Int):=by omega
    have HN:Hid (PuI a T base q C vt vg (.slice (some b) T.length cv) v9 w (j+1) (wr.setCell (b.add k) (.int .i64 1))):=hset 1 (by rw [hpn,hxk];unfold put1;rw [if_neg (by decide),if_neg (by decide),if_neg (by decide),if_neg (by decide),if_pos rfl,show ((k:Int) - 1+1).toNat=k by omega]);clear hX ht hl hgb hqq hqC hqG hn n42 hon htk hb8 hpn hr21 hk1 hset e1 e2 e3 hj;rcases (by omega:j=0∨j=1∨j=2∨j=3) with rfl | rfl | rfl | rfl
    ·replace hxk:a.a=(k:Int) - 1:=hxk;replace hg:wr.cell? ⟨1,n*4,none⟩=some (.int .u8 21):=hg;have hix:∀ W,(Instr.index 216 (.agg #[.int .i64 a.a,.int .i64 a.b,.int .i64 a.c,.int .i64 a.d]) (.int .i64 0)).run Tryz.prog W = .ok (.int .i64 ((k:Int) - 1)) W:=fun W=>by rw [hix0 W,hxk]
     clear hix0 hix1 hix2 hix3 hxk h;go_wp2_with fail;go_roundw
     case rel=>exact ⟨0+1,by go_num,by omega,HN⟩
     case measure=>simp [intOf]
    ·replace hxk:a.b=(k:Int) - 1:=hxk
     skip
     have hix:∀ W,(Instr.index 216 (.agg #[.int .i64 a.a,.int .i64 a.b,.int .i64 a.c,.int .i64 a.d]) (.int .i64 1)).run Tryz.prog W = .ok (.int .i64 ((k:Int) - 1)) W:=fun W=>by rw [hix1 W,hxk]
     clear hix0 hix1 hix2 hix3 hxk h;go_wp2_with fail;go_roundw
     case rel=>exact ⟨1+1,by go_num,by omega,HN⟩
     case measure=>simp [intOf]
    ·replace hxk:a.c=(k:Int) - 1:=hxk
     skip
     have hix:∀ W,(Instr.index 216 (.agg #[.int .i64 a.a,.int .i64 a.b,.int .i64 a.c,.int .i64 a.d]) (.int .i64 2)).run Tryz.prog W = .ok (.int .i64 ((k:Int) - 1)) W:=fun W=>by rw [hix2 W,hxk]
     clear hix0 hix1 hix2 hix3 hxk h;go_wp2_with fail;go_roundw
     case rel=>exact ⟨2+1,by go_num,by omega,HN⟩
     case measure=>simp [intOf]
    ·replace hxk:a.d=(k:Int) - 1:=hxk
     skip
     have hix:∀ W,(Instr.index 216 (.agg #[.int .i64 a.a,.int .i64 a.b,.int .i64 a.c,.int .i64 a.d]) (.int .i64 3)).run Tryz.prog W = .ok (.int .i64 ((k:Int) - 1)) W:=fun W=>by rw [hix3 W,hxk]
     clear hix0 hix1 hix2 hix3 hxk h;go_wp2_with fail;go_roundw
     case rel=>exact ⟨3+1,by go_num,by omega,HN⟩
     case measure=>simp [intOf]
   have gr12:=bne (show ((pr n j:Nat):Int) ≠ 12 by omega);have gr13:=bne (show ((pr n j:Nat):Int) ≠ 13 by omega);have gr14:=bne (show ((pr n j:Nat):Int) ≠ 14 by omega);have gr15:=bne (show ((pr n j:Nat):Int) ≠ 15 by omega);have gr21:=bne (show ((pr n j:Nat):Int) ≠ 21 by omega)
   have HN:Hid (PuI a T base q C vt vg (.slice pv T.length cv) v9 w (j+1) wr):=by
    refine ⟨?_,hX.2⟩;rw [hpn];unfold put1;rw [if_neg hr12,if_neg hr13,if_neg hr14,if_neg hr15,if_neg hr21];exact hX.1
   clear hX ht hl hgb hqq hqC hqG hn n42 hon htk hb8 hpn hr12 hr13 hr14 hr15 hr21 hj;rcases (by omega:j=0∨j=1∨j=2∨j=3) with rfl | rfl | rfl | rfl
   ·replace hg:wr.cell? ⟨1,n*4,none⟩=some (.int .u8 (pr n 0:Int)):=hg;generalize pr n 0=rj at *;clear h;go_wp2_with fail;go_roundw
    case rel=>exact ⟨0+1,by go_num,by omega,HN⟩
    case measure=>simp [intOf]
   ·skip
    generalize pr n 1=rj at *;clear h;go_wp2_with fail;go_roundw
    case rel=>exact ⟨1+1,by go_num,by omega,HN⟩
    case measure=>simp [intOf]
   ·skip
    generalize pr n 2=rj at *;clear h;go_wp2_with fail;go_roundw
    case rel=>exact ⟨2+1,by go_num,by omega,HN⟩
    case measure=>simp [intOf]
   ·skip
    generalize pr n 3=rj at *;clear h;go_wp2_with fail;go_roundw
    case rel=>exact ⟨3+1,by go_num,by omega,HN⟩
    case measure=>simp [intOf]
  ·have jI:¬ (j:Int) < 4:=by omega
   obtain rfl:j=4:=by omega
   have HZ:Hid (PuA a T base q C vt vg (.slice pv T.length cv) v9 w (.returned (.tuple #[])) wr):=⟨rfl,hX.1,hX.2.1,hX.2.2.1⟩
   clear hX h hj hix0 hix1 hix2 hix3;go_wp2_with fail;refine ⟨rfl,.tuple #[],by simp [results,Tryz.results130],?_⟩;exact HZ
