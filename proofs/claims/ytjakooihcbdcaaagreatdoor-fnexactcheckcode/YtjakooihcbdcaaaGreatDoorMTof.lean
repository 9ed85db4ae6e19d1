import Derived.Test.YtjakooihcbdcaaaGreatDoorMZsq
import Derived.Test.YtjakooihcbdcaaaGreatDoorMTnc
import Derived.Lib.SliceRun
set_option maxHeartbeats 16000000
namespace Go.Proofs.YtjakooihcbdcaaaGreatDoor.Fo
open Go.ChangeShapes Go.WideShapes Go.ChangeAt Go.RowKit
set_option linter.unusedVariables false
set_option maxRecDepth 100000
theorem add_plus (b:Addr) (i t:Nat) (ht : 0 < t):b.add (i+t)=⟨(b.add i).block,(b.add i).off+t,none⟩:=by
 unfold Addr.add;rw [if_neg (show ¬ (i+t=0) by omega)];by_cases e:i=0
 ·subst e;rw [if_pos rfl,Nat.zero_add]
 ·rw [if_neg e,Nat.add_assoc]
theorem im_clone {av : Nat → Prop} {T : List Int} {va : Value} (w : World) (h1 : Rz av w va T) (hn : T.length ≤ 1000) :
  Calls Tryz.prog 34 #[va] w fun e w'=>∃ v,e = .returned v∧OwI w.heap.size w' v T∧Kb 0 w w':=by
 obtain ⟨pa,ca,rfl,hca,a1⟩:=h1;have n1:(T.length:Int)≤1000:=by omega
 have qN:∀ (w:World) (a:Option Addr) (n c n' c':Nat),(binOp .eql 63 (.slice a n c) (.slice none n' c')).run Tryz.prog w = .ok (.bool a.isNone) w:=fun w a n c n' c'=>Lib.run_eql_slice_nil w _ _ a n c n' c' Tryz.underlying63;cases pa with
 | none =>
  have hT:T = []:=by
   cases T with
   | nil=>rfl
   | cons x T=>obtain ⟨a,e,_⟩:=a1 (by simp);cases e
  subst hT;clear a1 hn n1 hca;go_enter Tryz.func34,Tryz.ntmps34;go_wp2_with fail;go_ret;exact ⟨_,rfl,World.ownsRow_nil _ _ _ _,Kb.refl _ _⟩
 | some b0 =>
  by_cases hT:T = []
  ·subst hT;have HZ:Hid (OwI w.heap.size (w.alloc (.cells #[] 3)) (.slice (some ⟨w.heap.size,0,none⟩) 0 0) []):=World.ownsRow_lit w #[] 0 (Nat.le_refl _) (by decide) rfl;clear a1 hn n1 hca;go_enter Tryz.func34,Tryz.ntmps34;go_wp2_with fail;go_ret;exact ⟨_,rfl,HZ,kb_alloc _ _ _⟩
  have hpos : 0 < T.length:=by cases T with | nil=>exact absurd rfl hT | cons x T=>simp
  obtain ⟨b',e',-,h7⟩:=a1 hpos;obtain rfl:b0=b':=by simpa using e'
  have hown:(w.alloc (.cells #[] 3)).ownsRow w.heap.size 3 1 (.slice (some ⟨w.heap.size,0,none⟩) 0 0) 0 []:=World.ownsRow_lit w #[] 0 (Nat.le_refl _) (by decide) rfl
  have hnews:∀ j u,(iv T)[j]? = some u→(w.alloc (.cells #[] 3)).cell? (b0.add j)=some u:=fun j u hj=>by
   unfold iv at hj;rw [List.getElem?_map] at hj;cases hx:T[j]? with
   | none=>rw [hx] at hj;cases hj
   | some x =>
    rw [hx] at hj;have:u = .int .i64 x:=by simpa using hj.symm
    rw [this];exact (kb_alloc 0 w _).cell (h7 j x hx)
  have h1c:∀ u ∈ (iv T),u.oneCell'=true:=by intro u hu;unfold iv at hu;obtain ⟨x,_,rfl⟩:=List.mem_map.1 hu;rfl
  have hll:(iv T).length=T.length*1:=by unfold iv;simp
  have HSTP:Hid (∀ (g c':Nat) (w7:World),w7.ownsRow w.heap.size 3 1 (.slice (some ⟨g,0,none⟩) (0+T.length) c') (0+T.length) ([] ++ (iv T))→(w.alloc (.cells #[] 3)).grownBy w7 (Value.slice (some ⟨w.heap.size,0,none⟩) 0 0).ownBlock→OwI w.heap.size w7 (.slice (some ⟨g,0,none⟩) (0+T.length) c') T∧Kb 0 w w7):=(fun g c' w7 h1 h2=>⟨by unfold OwI;rw [Nat.zero_add] at h1 ⊢;simpa using h1,(kb_alloc 0 w _).gr h2 (fun g e=>by simp [Value.ownBlock] at e;omega)⟩:∀ (g c':Nat),_)
  have HP:Hid (0 < T.length∧T.length≤1000):=(⟨hpos,hn⟩:_∧_)
  obtain ⟨i0,hi0,hz0,hzs,hzb⟩:=info_parts infoI;have HI0:Hid (Tryz.prog.info? 3=some i0):=hi0;clear hi0;clear a1 hn hT hpos e' h7 hca;obtain ⟨nT,hnT⟩:∃ nT,nT=T.length:=⟨_,rfl⟩
  rw [← hnT] at HSTP HP hll n1 ⊢;go_enter Tryz.func34,Tryz.ntmps34;go_wp2_with (at_builtin;refine wpList_append_lies _ rfl (.tmp 5) (.tmp 6) 63 rfl w.heap.size 3 i0 (.int .i64 0) 1 8 Tryz.underlying63 HI0 hz0 hzs hzb rfl (by decide) _ _ _ rfl hown b0 nT ca (iv T) rfl hll hnews h1c (uh HP).1 (by have:=(uh HP).2;unfold maxLen;omega) (by have:=(uh HP).2;omega) (by simp) (w.heap.size+1) (by simp) ?_;intro g cap' w7 hown3 hgr3 hl3 _;have HZ:Hid _:=(uh HSTP) _ _ _ hown3 hgr3;clear hown3 hgr3 hl3 hown hnews h1c hll HSTP);refine bodyPost_ret (by simp [results,Tryz.results34,go_sem];rfl) rfl ?_;exact ⟨_,rfl,by have:=(uh HZ).1;rw [Nat.zero_add,hnT] at this;exact this,(uh HZ).2⟩
theorem im_cloneg {av : Nat → Prop} {T : List Gv} {va : Value} (w : World) (h1 : Rg av w va T) (hn : T.length ≤ 1000) :
  Calls Tryz.prog 35 #[va] w fun e w'=>∃ v,e = .returned v∧OwG w.heap.size w' v T∧Kb 0 w w':=by
 obtain ⟨pa,ca,rfl,hca,a1⟩:=h1;have n1:(T.length:Int)≤1000:=by omega
 have qN:∀ (w:World) (a:Option Addr) (n c n' c':Nat),(binOp .eql 66 (.slice a n c) (.slice none n' c')).run Tryz.prog w = .ok (.bool a.isNone) w:=fun w a n c n' c'=>Lib.run_eql_slice_nil w _ _ a n c n' c' Tryz.underlying66;cases pa with
 | none =>
  have hT:T = []:=by
   cases T with
   | nil=>rfl
   | cons x T=>obtain ⟨a,e,_⟩:=a1 (by simp);cases e
  subst hT;clear a1 hn n1 hca;go_enter Tryz.func35,Tryz.ntmps35;go_wp2_with fail;go_ret;exact ⟨_,rfl,World.ownsRow_nil _ _ _ _,Kb.refl _ _⟩
 | some b0 =>
  by_cases hT:T = []
  ·subst hT;have HZ:Hid (OwG w.heap.size (w.alloc (.cells #[] 72)) (.slice (some ⟨w.heap.size,0,none⟩) 0 0) []):=World.ownsRow_lit w #[] 0 (Nat.le_refl _) (by decide) rfl;clear a1 hn n1 hca;go_enter Tryz.func35,Tryz.ntmps35;go_wp2_with fail;go_ret;exact ⟨_,rfl,HZ,kb_alloc _ _ _⟩
  have hpos : 0 < T.length:=by cases T with | nil=>exact absurd rfl hT | cons x T=>simp
  obtain ⟨b',e',-,h7⟩:=a1 hpos;obtain rfl:b0=b':=by simpa using e'
  have hown:(w.alloc (.cells #[] 72)).ownsRow w.heap.size 72 3 (.slice (some ⟨w.heap.size,0,none⟩) 0 0) 0 []:=World.ownsRow_lit w #[] 0 (Nat.le_refl _) (by decide) rfl
  have hnews:∀ j u,(T.flatMap gcl)[j]? = some u→(w.alloc (.cells #[] 72)).cell? (b0.add j)=some u:=fun j u hj=>by
   obtain ⟨i,t,ht,rfl⟩:∃ i t,t < 3∧j=i*3+t:=⟨j / 3,j % 3,by omega,by omega⟩
   have hlt:=(List.getElem?_eq_some_iff.1 hj).1;rw [gcl_len] at hlt;obtain ⟨x,hx⟩:∃ x,T[i]? = some x:=⟨_,List.getElem?_eq_getElem (by omega)⟩
   rw [gcl_at T i x hx t ht] at hj;have hc:=h7 i x hx;refine (kb_alloc 0 w _).cell ?_;rcases (by omega:t=0∨t=1∨t=2) with rfl | rfl | rfl
   ·have:u = .bool x.1:=by simpa [gcl] using hj.symm
    rw [this];exact hc.c0
   ·have:u = .int .i64 x.2.1:=by simpa [gcl] using hj.symm
    rw [this,add_plus b0 (i*3) 1 (by omega)];exact hc.c1
   ·have:u = .int .i64 x.2.2:=by simpa [gcl] using hj.symm
    rw [this,add_plus b0 (i*3) 2 (by omega)];exact hc.c2
  have h1c:∀ u ∈ (T.flatMap gcl),u.oneCell'=true:=by intro u hu;obtain ⟨x,_,hx⟩:=List.mem_flatMap.1 hu;simp [gcl] at hx;rcases hx with rfl | rfl | rfl <;> rfl
  have hll:(T.flatMap gcl).length=T.length*3:=by exact gcl_len T
  have HSTP:Hid (∀ (g c':Nat) (w7:World),w7.ownsRow w.heap.size 72 3 (.slice (some ⟨g,0,none⟩) (0+T.length) c') (0+T.length) ([] ++ (T.flatMap gcl))→(w.alloc (.cells #[] 72)).grownBy w7 (Value.slice (some ⟨w.heap.size,0,none⟩) 0 0).ownBlock→OwG w.heap.size w7 (.slice (some ⟨g,0,none⟩) (0+T.length) c') T∧Kb 0 w w7):=(fun g c' w7 h1 h2=>⟨by unfold OwG;rw [Nat.zero_add] at h1 ⊢;simpa using h1,(kb_alloc 0 w _).gr h2 (fun g e=>by simp [Value.ownBlock] at e;omega)⟩:∀ (g c':Nat),_)
  have HP:Hid (0 < T.length∧T.length≤1000):=(⟨hpos,hn⟩:_∧_)
  obtain ⟨i0,hi0,hz0,hzs,hzb⟩:=info_parts infoG;have HI0:Hid (Tryz.prog.info? 72=some i0):=hi0;clear hi0;clear a1 hn hT hpos e' h7 hca;obtain ⟨nT,hnT⟩:∃ nT,nT=T.length:=⟨_,rfl⟩
  rw [← hnT] at HSTP HP hll n1 ⊢;go_enter Tryz.func35,Tryz.ntmps35;go_wp2_with (at_builtin;refine wpList_append_lies _ rfl (.tmp 5) (.tmp 6) 66 rfl w.heap.size 72 i0 (.agg #[.bool false,.int .i64 0,.int .i64 0]) 3 24 Tryz.underlying66 HI0 hz0 hzs hzb rfl (by decide) _ _ _ rfl hown b0 nT ca (T.flatMap gcl) rfl hll hnews h1c (uh HP).1 (by have:=(uh HP).2;unfold maxLen;omega) (by have:=(uh HP).2;omega) (by simp) (w.heap.size+1) (by simp) ?_;intro g cap' w7 hown3 hgr3 hl3 _;have HZ:Hid _:=(uh HSTP) _ _ _ hown3 hgr3;clear hown3 hgr3 hl3 hown hnews h1c hll HSTP);refine bodyPost_ret (by simp [results,Tryz.results35,go_sem];rfl) rfl ?_;exact ⟨_,rfl,by have:=(uh HZ).1;rw [Nat.zero_add,hnT] at this;exact this,(uh HZ).2⟩
def ChB (C:Nat) (a:Iv) (vt vg v8 v9:Value) (W:World):Prop:=W.heap[C]? = some (.cells #[.int .i64 a.o,.int .i64 a.a,.int .i64 a.b,.int .i64 a.c,.int .i64 a.d,.bool true,vt,vg,v8,v9] 186 (0,0))
theorem kb_heap {w W':World} (e0:W'.heap=w.heap) (e1:W'.os=w.os) (e2:W'.output=w.output):Kb 0 w W':=⟨e1,e2,by rw [e0];exact Nat.le_refl _,fun k _ _=>by rw [e0]⟩
theorem fg_32 {av : Nat → Prop} {C : Nat} {a : Iv} {G : List Gv} {vt vg v8 v9 : Value} (w : World) (hC : ChB C a vt vg v8 v9 w) (r : Rg av w vg G) (hn : G.length ≤ 50) (hg : ∀ g, g ∈ G → 0 ≤ g.2.1 ∧ g.2.1 ≤ 250) (h : a.o = 32) :
  Calls Tryz.prog 131 #[.pointer (some ⟨C,0,none⟩)] w fun e w'=>e = .returned (.bool (dc (gfit a G)))∧Kb 0 w w':=by
 obtain ⟨R,hR⟩:∃ R,R=dc (gfit a G):=⟨_,rfl⟩
 rw [← hR];have hC:w.heap[C]? = _:=hC;have c0:w.cell? ⟨C,0,none⟩=some (.int .i64 32):=by rw [← h];exact cell_of hC rfl
 have c1:w.cell? ⟨C,1,none⟩=some (.int .i64 a.a):=cell_of hC rfl;have c2:w.cell? ⟨C,2,none⟩=some (.int .i64 a.b):=cell_of hC rfl;have c7:w.cell? ⟨C,7,none⟩=some vg:=cell_of hC rfl
 have HKP:Hid (∀ W',W'.heap=w.heap→W'.os=w.os→W'.output=w.output→Calls Tryz.prog 170 #[.pointer (some ⟨C,0,none⟩)] W' fun e w'=>e = .returned (.int .i64 (kpt G))∧Kb 0 w w'):=(fun W' e0 e1 e2=>by
  have kk:=kb_heap e0 e1 e2;refine (im_kept W' (kk.cell c7) (r.kb kk) (by omega) (fun g hg'=>by have:=hg g hg';omega)).mono ?_;rintro e w' ⟨rfl,k⟩
  exact ⟨rfl,kk.trans k⟩:∀ W',_)
 have hkr : 0≤kpt G∧kpt G≤250:=⟨kpt_nn G,kpt_le (by omega) (fun g hg'=>(hg g hg').2)⟩
 obtain ⟨K,hK⟩:∃ K,K=kpt G:=⟨_,rfl⟩
 rw [← hK] at HKP hkr;obtain ⟨pg,cg,rfl,hcg,r1⟩:=r;have nI:(G.length:Int)≤50:=by omega
 have hfit:gfit a G↔ctc G=true:=by unfold gfit;simp [h]
 have HKK:Hid (Kb 0 w w):=Kb.refl _ _;by_cases hnil:G = []
 ·subst hnil;have hF:R=false:=by rw [hR];exact dc_f (fun q=>by have:=hfit.1 q;simp [ctc] at this)
  subst hF;clear hR hfit hC HKP hkr hK r1 hg hn h c1 c2;go_enter Tryz.func131,Tryz.ntmps131;go_wp2_with fail;go_ret;exact ⟨rfl,HKK⟩
 obtain ⟨m,g,hL⟩:=last_of hnil;obtain ⟨b,e',-,h7⟩:=r1 (by rw [hL.1];omega);subst e';have d0:=(h7 m g hL.2.1).c0;have hlen:=hL.1;have hct:=hL.2.2.1;have hdf:=hL.2.2.2.1;have mI:(m:Int)+1≤50:=by omega
 have cI:(m:Int)+1≤(cg:Int):=by omega
 have HLEN:Hid (G.length=m+1):=hlen;rw [hlen] at c7;clear r1 h7 hL hnil hlen nI hcg;rcases hgb:g.1 with _ | _
 ·rw [hgb] at d0 hct;have hRb:R=false:=by rw [hR];exact dc_f (fun q=>by have:=hfit.1 q;rw [hct] at this;exact absurd this (by decide))
  subst hRb;clear hR hfit hC HKP hkr hK hg hn h c1 c2 hct hdf hgb HLEN;go_enter Tryz.func131,Tryz.ntmps131;go_wp2_with fail;go_ret;exact ⟨rfl,HKK⟩
 ·rw [hgb] at d0 hct;have hRb:R=true:=by rw [hR];exact dc_t (hfit.2 (by rw [hct];try rfl))
  subst hRb;clear hR hfit hC HKP hkr hK hg hn h c1 c2 hct hdf hgb HLEN;go_enter Tryz.func131,Tryz.ntmps131;go_wp2_with fail;go_ret;exact ⟨rfl,HKK⟩
theorem fg_35 {av : Nat → Prop} {C : Nat} {a : Iv} {G : List Gv} {vt vg v8 v9 : Value} (w : World) (hC : ChB C a vt vg v8 v9 w) (r : Rg av w vg G) (hn : G.length ≤ 50) (hg : ∀ g, g ∈ G → 0 ≤ g.2.1 ∧ g.2.1 ≤ 250) (h : a.o = 35) :
  Calls Tryz.prog 131 #[.pointer (some ⟨C,0,none⟩)] w fun e w'=>e = .returned (.bool (dc (gfit a G)))∧Kb 0 w w':=by
 obtain ⟨R,hR⟩:∃ R,R=dc (gfit a G):=⟨_,rfl⟩
 rw [← hR];have hC:w.heap[C]? = _:=hC;have c0:w.cell? ⟨C,0,none⟩=some (.int .i64 35):=by rw [← h];exact cell_of hC rfl
 have c1:w.cell? ⟨C,1,none⟩=some (.int .i64 a.a):=cell_of hC rfl;have c2:w.cell? ⟨C,2,none⟩=some (.int .i64 a.b):=cell_of hC rfl;have c7:w.cell? ⟨C,7,none⟩=some vg:=cell_of hC rfl
 have HKP:Hid (∀ W',W'.heap=w.heap→W'.os=w.os→W'.output=w.output→Calls Tryz.prog 170 #[.pointer (some ⟨C,0,none⟩)] W' fun e w'=>e = .returned (.int .i64 (kpt G))∧Kb 0 w w'):=(fun W' e0 e1 e2=>by
  have kk:=kb_heap e0 e1 e2;refine (im_kept W' (kk.cell c7) (r.kb kk) (by omega) (fun g hg'=>by have:=hg g hg';omega)).mono ?_;rintro e w' ⟨rfl,k⟩
  exact ⟨rfl,kk.trans k⟩:∀ W',_)
 have hkr : 0≤kpt G∧kpt G≤250:=⟨kpt_nn G,kpt_le (by omega) (fun g hg'=>(hg g hg').2)⟩
 obtain ⟨K,hK⟩:∃ K,K=kpt G:=⟨_,rfl⟩
 rw [← hK] at HKP hkr;obtain ⟨pg,cg,rfl,hcg,r1⟩:=r;have nI:(G.length:Int)≤50:=by omega
 have hfit:gfit a G↔dfr G=true:=by unfold gfit;simp [h]
 have HKK:Hid (Kb 0 w w):=Kb.refl _ _;by_cases hnil:G = []
 ·subst hnil;have hF:R=false:=by rw [hR];exact dc_f (fun q=>by have:=hfit.1 q;simp [dfr] at this)
  subst hF;clear hR hfit hC HKP hkr hK r1 hg hn h c1 c2;go_enter Tryz.func131,Tryz.ntmps131;go_wp2_with fail;go_ret;exact ⟨rfl,HKK⟩
 obtain ⟨m,g,hL⟩:=last_of hnil;obtain ⟨b,e',-,h7⟩:=r1 (by rw [hL.1];omega);subst e';have d0:=(h7 m g hL.2.1).c0;have hlen:=hL.1;have hct:=hL.2.2.1;have hdf:=hL.2.2.2.1;have mI:(m:Int)+1≤50:=by omega
 have cI:(m:Int)+1≤(cg:Int):=by omega
 have HLEN:Hid (G.length=m+1):=hlen;rw [hlen] at c7;clear r1 h7 hL hnil hlen nI hcg;rcases hgb:g.1 with _ | _
 ·rw [hgb] at d0 hdf;have hRb:R=true:=by rw [hR];exact dc_t (hfit.2 (by rw [hdf];try rfl))
  subst hRb;clear hR hfit hC HKP hkr hK hg hn h c1 c2 hct hdf hgb HLEN;go_enter Tryz.func131,Tryz.ntmps131;go_wp2_with fail;go_ret;exact ⟨rfl,HKK⟩
 ·rw [hgb] at d0 hdf;have hRb:R=false:=by rw [hR];exact dc_f (fun q=>by have:=hfit.1 q;rw [hdf] at this;exact absurd this (by decide))
  subst hRb;clear hR hfit hC HKP hkr hK hg hn h c1 c2 hct hdf hgb HLEN;go_enter Tryz.func131,Tryz.ntmps131;go_wp2_with fail;go_ret;exact ⟨rfl,HKK⟩
theorem fg_36 {av : Nat → Prop} {C : Nat} {a : Iv} {G : List Gv} {vt vg v8 v9 : Value} (w : World) (hC : ChB C a vt vg v8 v9 w) (r : Rg av w vg G) (hn : G.length ≤ 50) (hg : ∀ g, g ∈ G → 0 ≤ g.2.1 ∧ g.2.1 ≤ 250) (h : a.o = 36) :
  Calls Tryz.prog 131 #[.pointer (some ⟨C,0,none⟩)] w fun e w'=>e = .returned (.bool (dc (gfit a G)))∧Kb 0 w w':=by
 obtain ⟨R,hR⟩:∃ R,R=dc (gfit a G):=⟨_,rfl⟩
 rw [← hR];have hC:w.heap[C]? = _:=hC;have c0:w.cell? ⟨C,0,none⟩=some (.int .i64 36):=by rw [← h];exact cell_of hC rfl
 have c1:w.cell? ⟨C,1,none⟩=some (.int .i64 a.a):=cell_of hC rfl;have c2:w.cell? ⟨C,2,none⟩=some (.int .i64 a.b):=cell_of hC rfl;have c7:w.cell? ⟨C,7,none⟩=some vg:=cell_of hC rfl
 have HKP:Hid (∀ W',W'.heap=w.heap→W'.os=w.os→W'.output=w.output→Calls Tryz.prog 170 #[.pointer (some ⟨C,0,none⟩)] W' fun e w'=>e = .returned (.int .i64 (kpt G))∧Kb 0 w w'):=(fun W' e0 e1 e2=>by
  have kk:=kb_heap e0 e1 e2;refine (im_kept W' (kk.cell c7) (r.kb kk) (by omega) (fun g hg'=>by have:=hg g hg';omega)).mono ?_;rintro e w' ⟨rfl,k⟩
  exact ⟨rfl,kk.trans k⟩:∀ W',_)
 have hkr : 0≤kpt G∧kpt G≤250:=⟨kpt_nn G,kpt_le (by omega) (fun g hg'=>(hg g hg').2)⟩
 obtain ⟨K,hK⟩:∃ K,K=kpt G:=⟨_,rfl⟩
 rw [← hK] at HKP hkr;obtain ⟨pg,cg,rfl,hcg,r1⟩:=r;have nI:(G.length:Int)≤50:=by omega
 have hfit:gfit a G↔dfr G=true:=by unfold gfit;simp [h]
 have HKK:Hid (Kb 0 w w):=Kb.refl _ _;by_cases hnil:G = []
 ·subst hnil;have hF:R=false:=by rw [hR];exact dc_f (fun q=>by have:=hfit.1 q;simp [dfr] at this)
  subst hF;clear hR hfit hC HKP hkr hK r1 hg hn h c1 c2;go_enter Tryz.func131,Tryz.ntmps131;go_wp2_with fail;go_ret;exact ⟨rfl,HKK⟩
 obtain ⟨m,g,hL⟩:=last_of hnil;obtain ⟨b,e',-,h7⟩:=r1 (by rw [hL.1];omega);subst e';have d0:=(h7 m g hL.2.1).c0;have hlen:=hL.1;have hct:=hL.2.2.1;have hdf:=hL.2.2.2.1;have mI:(m:Int)+1≤50:=by omega
 have cI:(m:Int)+1≤(cg:Int):=by omega
 have HLEN:Hid (G.length=m+1):=hlen;rw [hlen] at c7;clear r1 h7 hL hnil hlen nI hcg;rcases hgb:g.1 with _ | _
 ·rw [hgb] at d0 hdf;have hRb:R=true:=by rw [hR];exact dc_t (hfit.2 (by rw [hdf];try rfl))
  subst hRb;clear hR hfit hC HKP hkr hK hg hn h c1 c2 hct hdf hgb HLEN;go_enter Tryz.func131,Tryz.ntmps131;go_wp2_with fail;go_ret;exact ⟨rfl,HKK⟩
 ·rw [hgb] at d0 hdf;have hRb:R=false:=by rw [hR];exact dc_f (fun q=>by have:=hfit.1 q;rw [hdf] at this;exact absurd this (by decide))
  subst hRb;clear hR hfit hC HKP hkr hK hg hn h c1 c2 hct hdf hgb HLEN;go_enter Tryz.func131,Tryz.ntmps131;go_wp2_with fail;go_ret;exact ⟨rfl,HKK⟩
theorem fg_34 {av : Nat → Prop} {C : Nat} {a : Iv} {G : List Gv} {vt vg v8 v9 : Value} (w : World) (hC : ChB C a vt vg v8 v9 w) (r : Rg av w vg G) (hn : G.length ≤ 50) (hg : ∀ g, g ∈ G → 0 ≤ g.2.1 ∧ g.2.1 ≤ 250) (h : a.o = 34) :
  Calls Tryz.prog 131 #[.pointer (some ⟨C,0,none⟩)] w fun e w'=>e = .returned (.bool (dc (gfit a G)))∧Kb 0 w w':=by
 obtain ⟨R,hR⟩:∃ R,R=dc (gfit a G):=⟨_,rfl⟩
 rw [← hR];have hC:w.heap[C]? = _:=hC;have c0:w.cell? ⟨C,0,none⟩=some (.int .i64 34):=by rw [← h];exact cell_of hC rfl
 have c1:w.cell? ⟨C,1,none⟩=some (.int .i64 a.a):=cell_of hC rfl;have c2:w.cell? ⟨C,2,none⟩=some (.int .i64 a.b):=cell_of hC rfl;have c7:w.cell? ⟨C,7,none⟩=some vg:=cell_of hC rfl
 have HKQ:Hid (∀ p:KW w,Calls Tryz.prog 170 #[.pointer (some ⟨C,0,none⟩)] p.w fun e w'=>e = .returned (.int .i64 (kpt G))∧∃ q:KW w,w'=q.w):=(fun p=>by
  refine (im_kept p.w (p.k.cell c7) (r.kb p.k) (by omega) (fun g hg'=>by have:=hg g hg';omega)).mono ?_;rintro e w' ⟨rfl,k⟩
  exact ⟨rfl,⟨w',p.k.trans k⟩,rfl⟩:∀ p,_)
 have HKP:Hid (∀ W',W'.heap=w.heap→W'.os=w.os→W'.output=w.output→Calls Tryz.prog 170 #[.pointer (some ⟨C,0,none⟩)] W' fun e w'=>e = .returned (.int .i64 (kpt G))∧Kb 0 w w'):=(fun W' e0 e1 e2=>by
  have kk:=kb_heap e0 e1 e2;refine (im_kept W' (kk.cell c7) (r.kb kk) (by omega) (fun g hg'=>by have:=hg g hg';omega)).mono ?_;rintro e w' ⟨rfl,k⟩
  exact ⟨rfl,kk.trans k⟩:∀ W',_)
 have hkr : 0≤kpt G∧kpt G≤250:=⟨kpt_nn G,kpt_le (by omega) (fun g hg'=>(hg g hg').2)⟩
 obtain ⟨K,hK⟩:∃ K,K=kpt G:=⟨_,rfl⟩
 rw [← hK] at HKP HKQ hkr;clear HKP;obtain ⟨pg,cg,rfl,hcg,r1⟩:=r;have nI:(G.length:Int)≤50:=by omega
 have hfit:gfit a G↔(dfr G=true∧kpt G≤a.a):=by unfold gfit;simp [h]
 have HKK:Hid (Kb 0 w w):=Kb.refl _ _;by_cases hnil:G = []
 ·subst hnil;have hF:R=false:=by rw [hR];exact dc_f (fun q=>by have:=(hfit.1 q).1;simp [dfr] at this)
  subst hF;clear hR hfit hC HKQ hkr hK r1 hg hn h c2;go_enter Tryz.func131,Tryz.ntmps131;go_upto_region 11 with fail
  go_quiet (skip)
  go_wp2_with fail;refine bodyPost_ret (by simp [results,Tryz.results131,go_sem];rfl) rfl ?_;exact ⟨rfl,(uh HKK).drewN _⟩
 obtain ⟨m,g,hL⟩:=last_of hnil;obtain ⟨b,e',-,h7⟩:=r1 (by rw [hL.1];omega);subst e';have d0:=(h7 m g hL.2.1).c0;have hlen:=hL.1;have hct:=hL.2.2.1;have hdf:=hL.2.2.2.1;have mI:(m:Int)+1≤50:=by omega
 have cI:(m:Int)+1≤(cg:Int):=by omega
 have HLEN:Hid (G.length=m+1):=hlen;rw [hlen] at c7;clear r1 h7 hL hnil hlen nI hcg;rcases hgb:g.1 with _ | _
 ·rw [hgb] at d0 hdf;rw [hdf,← hK] at hfit;by_cases ck:K≤a.a
  ·have hRb:R=true:=by rw [hR];exact dc_t (hfit.2 ⟨rfl,ck⟩)
   subst hRb;have gk:K≤a.a:=ck;clear hR hfit hC hkr hK hg hn h hct hdf hgb HLEN ck;have C1:∀ p:KW w,Calls Tryz.prog 170 #[.pointer (some ⟨C,0,none⟩)] p.w fun e w'=>e = .returned (.int .i64 K)∧∃ q:KW w,w'=q.w:=(uh HKQ)
   have p1:∀ p:KW w,p.w.cell? ⟨C,1,none⟩=some (.int .i64 a.a):=fun p=>p.k.cell c1;have p2:∀ p:KW w,p.w.cell? ⟨C,2,none⟩=some (.int .i64 a.b):=fun p=>p.k.cell c2;have hne:Nonempty (KW w):=⟨⟨w,Kb.refl _ _⟩⟩
   clear HKQ;go_enter Tryz.func131,Tryz.ntmps131;go_upto_region 11 with fail;refine wp_region_kb (by kernel_rfl) (by kernel_rfl) ?_
   repeat go_big_quiet_step ((first | (go_at_call 170;exact C1 _) | fail))
   refine wpQuiet_nil ?_;intro w5 hw'
   have HK5:Hid (Kb 0 w w5):=by
    obtain ⟨q,hq⟩:=hw';rw [hq];exact q.k
   clear hw' C1 p1 p2 hne;go_wp2_with fail;refine bodyPost_ret (by simp [results,Tryz.results131,go_sem];rfl) rfl ?_;refine ⟨?_,(uh HK5)⟩
   first | rfl | simp [gk] | (simp;omega)
  ·have hRb:R=false:=by rw [hR];exact dc_f (fun q=>ck (hfit.1 q).2)
   subst hRb;have gk:¬ K≤a.a:=ck;clear hR hfit hC hkr hK hg hn h hct hdf hgb HLEN ck;have C1:∀ p:KW w,Calls Tryz.prog 170 #[.pointer (some ⟨C,0,none⟩)] p.w fun e w'=>e = .returned (.int .i64 K)∧∃ q:KW w,w'=q.w:=(uh HKQ)
   have p1:∀ p:KW w,p.w.cell? ⟨C,1,none⟩=some (.int .i64 a.a):=fun p=>p.k.cell c1;have p2:∀ p:KW w,p.w.cell? ⟨C,2,none⟩=some (.int .i64 a.b):=fun p=>p.k.cell c2;have hne:Nonempty (KW w):=⟨⟨w,Kb.refl _ _⟩⟩
   clear HKQ;go_enter Tryz.func131,Tryz.ntmps131;go_upto_region 11 with fail;refine wp_region_kb (by kernel_rfl) (by kernel_rfl) ?_
   repeat go_big_quiet_step ((first | (go_at_call 170;exact C1 _) | fail))
   refine wpQuiet_nil ?_;intro w5 hw'
   have HK5:Hid (Kb 0 w w5):=by
    obtain ⟨q,hq⟩:=hw';rw [hq];exact q.k
   clear hw' C1 p1 p2 hne;go_wp2_with fail;refine bodyPost_ret (by simp [results,Tryz.results131,go_sem];rfl) rfl ?_;refine ⟨?_,(uh HK5)⟩
   first | rfl | simp [gk] | (simp;omega)
 ·rw [hgb] at d0 hdf;have hRb:R=false:=by rw [hR];exact dc_f (fun q=>by have:=(hfit.1 q).1;rw [hdf] at this;cases this)
  subst hRb;clear hR hfit hC HKQ hkr hK hg hn h c2 hct hdf hgb HLEN;go_enter Tryz.func131,Tryz.ntmps131;go_upto_region 11 with fail
  go_quiet (skip)
  go_wp2_with fail;refine bodyPost_ret (by simp [results,Tryz.results131,go_sem];rfl) rfl ?_;exact ⟨rfl,(uh HKK).drewN _⟩
theorem fg_33 {av : Nat → Prop} {C : Nat} {a : Iv} {G : List Gv} {vt vg v8 v9 : Value} (w : World) (hC : ChB C a vt vg v8 v9 w) (r : Rg av w vg G) (hn : G.length ≤ 50) (hg : ∀ g, g ∈ G → 0 ≤ g.2.1 ∧ g.2.1 ≤ 250) (h : a.o = 33) :
  Calls Tryz.prog 131 #[.pointer (some ⟨C,0,none⟩)] w fun e w'=>e = .returned (.bool (dc (gfit a G)))∧Kb 0 w w':=by
 obtain ⟨R,hR⟩:∃ R,R=dc (gfit a G):=⟨_,rfl⟩
 rw [← hR];have hC:w.heap[C]? = _:=hC;have c0:w.cell? ⟨C,0,none⟩=some (.int .i64 33):=by rw [← h];exact cell_of hC rfl
 have c1:w.cell? ⟨C,1,none⟩=some (.int .i64 a.a):=cell_of hC rfl;have c2:w.cell? ⟨C,2,none⟩=some (.int .i64 a.b):=cell_of hC rfl;have c7:w.cell? ⟨C,7,none⟩=some vg:=cell_of hC rfl
 have HKQ:Hid (∀ p:KW w,Calls Tryz.prog 170 #[.pointer (some ⟨C,0,none⟩)] p.w fun e w'=>e = .returned (.int .i64 (kpt G))∧∃ q:KW w,w'=q.w):=(fun p=>by
  refine (im_kept p.w (p.k.cell c7) (r.kb p.k) (by omega) (fun g hg'=>by have:=hg g hg';omega)).mono ?_;rintro e w' ⟨rfl,k⟩
  exact ⟨rfl,⟨w',p.k.trans k⟩,rfl⟩:∀ p,_)
 have HKP:Hid (∀ W',W'.heap=w.heap→W'.os=w.os→W'.output=w.output→Calls Tryz.prog 170 #[.pointer (some ⟨C,0,none⟩)] W' fun e w'=>e = .returned (.int .i64 (kpt G))∧Kb 0 w w'):=(fun W' e0 e1 e2=>by
  have kk:=kb_heap e0 e1 e2;refine (im_kept W' (kk.cell c7) (r.kb kk) (by omega) (fun g hg'=>by have:=hg g hg';omega)).mono ?_;rintro e w' ⟨rfl,k⟩
  exact ⟨rfl,kk.trans k⟩:∀ W',_)
 have hkr : 0≤kpt G∧kpt G≤250:=⟨kpt_nn G,kpt_le (by omega) (fun g hg'=>(hg g hg').2)⟩
 obtain ⟨K,hK⟩:∃ K,K=kpt G:=⟨_,rfl⟩
 rw [← hK] at HKP HKQ hkr;clear HKP;obtain ⟨pg,cg,rfl,hcg,r1⟩:=r;have nI:(G.length:Int)≤50:=by omega
 have hfit:gfit a G↔(G.length < 50∧kpt G≤a.a):=by unfold gfit;simp [h]
 have HKK:Hid (Kb 0 w w):=Kb.refl _ _;by_cases hnil:G = []
 ·subst hnil;by_cases ck:K≤a.a
  ·have hRb:R=true:=by rw [hR];exact dc_t (hfit.2 ⟨by simp,by rw [← hK];exact ck⟩)
   subst hRb;have gk:K≤a.a:=ck;clear hR hfit hC hkr hK hg hn h ck r1;have C1:∀ p:KW w,Calls Tryz.prog 170 #[.pointer (some ⟨C,0,none⟩)] p.w fun e w'=>e = .returned (.int .i64 K)∧∃ q:KW w,w'=q.w:=(uh HKQ)
   have p1:∀ p:KW w,p.w.cell? ⟨C,1,none⟩=some (.int .i64 a.a):=fun p=>p.k.cell c1;have p2:∀ p:KW w,p.w.cell? ⟨C,2,none⟩=some (.int .i64 a.b):=fun p=>p.k.cell c2;have hne:Nonempty (KW w):=⟨⟨w,Kb.refl _ _⟩⟩
   clear HKQ;go_enter Tryz.func131,Tryz.ntmps131;go_upto_region 13 with fail;refine wp_region_kb (by kernel_rfl) (by kernel_rfl) ?_
   repeat go_big_quiet_step ((first | (go_at_call 170;exact C1 _) | fail))
   refine wpQuiet_nil ?_;intro w5 hw'
   have HK5:Hid (Kb 0 w w5):=by
    obtain ⟨q,hq⟩:=hw';rw [hq];exact q.k
   clear hw' C1 p1 p2 hne;go_wp2_with fail;refine bodyPost_ret (by simp [results,Tryz.results131,go_sem];rfl) rfl ?_;refine ⟨?_,(uh HK5)⟩
   first | rfl | simp [gk] | (simp;omega)
  ·have hRb:R=false:=by rw [hR];exact dc_f (fun q=>ck (by rw [hK];exact (hfit.1 q).2))
   subst hRb;have gk:¬ K≤a.a:=ck;clear hR hfit hC hkr hK hg hn h ck r1;have C1:∀ p:KW w,Calls Tryz.prog 170 #[.pointer (some ⟨C,0,none⟩)] p.w fun e w'=>e = .returned (.int .i64 K)∧∃ q:KW w,w'=q.w:=(uh HKQ)
   have p1:∀ p:KW w,p.w.cell? ⟨C,1,none⟩=some (.int .i64 a.a):=fun p=>p.k.cell c1;have p2:∀ p:KW w,p.w.cell? ⟨C,2,none⟩=some (.int .i64 a.b):=fun p=>p.k.cell c2;have hne:Nonempty (KW w):=⟨⟨w,Kb.refl _ _⟩⟩
   clear HKQ;go_enter Tryz.func131,Tryz.ntmps131;go_upto_region 13 with fail;refine wp_region_kb (by kernel_rfl) (by kernel_rfl) ?_
   repeat go_big_quiet_step ((first | (go_at_call 170;exact C1 _) | fail))
   refine wpQuiet_nil ?_;intro w5 hw'
   have HK5:Hid (Kb 0 w w5):=by
    obtain ⟨q,hq⟩:=hw';rw [hq];exact q.k
   clear hw' C1 p1 p2 hne;go_wp2_with fail;refine bodyPost_ret (by simp [results,Tryz.results131,go_sem];rfl) rfl ?_;refine ⟨?_,(uh HK5)⟩
   first | rfl | simp [gk] | (simp;omega)
 obtain ⟨m,g,hL⟩:=last_of hnil;obtain ⟨b,e',-,h7⟩:=r1 (by rw [hL.1];omega);subst e';have d0:=(h7 m g hL.2.1).c0;have hlen:=hL.1;have hct:=hL.2.2.1;have hdf:=hL.2.2.2.1;have mI:(m:Int)+1≤50:=by omega
 have cI:(m:Int)+1≤(cg:Int):=by omega
 have HLEN:Hid (G.length=m+1):=hlen;rw [hlen] at c7;clear r1 h7 hL hnil hlen nI hcg;rcases hgb:g.1 with _ | _
 ·rw [hgb] at d0;have hlen:=(uh HLEN)
  by_cases c50:m+1 < 50
  ·have m50:(m:Int)+1 < 50:=by omega
   by_cases ck:K≤a.a
   ·have hRb:R=true:=by rw [hR];exact dc_t (hfit.2 ⟨by omega,by rw [← hK];exact ck⟩)
    subst hRb;have gk:K≤a.a:=ck;clear hR hfit hC hkr hK hg hn h ck hct hdf hgb HLEN hlen c50;have C1:∀ p:KW w,Calls Tryz.prog 170 #[.pointer (some ⟨C,0,none⟩)] p.w fun e w'=>e = .returned (.int .i64 K)∧∃ q:KW w,w'=q.w:=(uh HKQ)
    have p1:∀ p:KW w,p.w.cell? ⟨C,1,none⟩=some (.int .i64 a.a):=fun p=>p.k.cell c1;have p2:∀ p:KW w,p.w.cell? ⟨C,2,none⟩=some (.int .i64 a.b):=fun p=>p.k.cell c2;have hne:Nonempty (KW w):=⟨⟨w,Kb.refl _ _⟩⟩
    clear HKQ;go_enter Tryz.func131,Tryz.ntmps131;go_upto_region 13 with fail;refine wp_region_kb (by kernel_rfl) (by kernel_rfl) ?_
    repeat go_big_quiet_step ((first | (go_at_call 170;exact C1 _) | fail))
    refine wpQuiet_nil ?_;intro w5 hw'
    have HK5:Hid (Kb 0 w w5):=by
     obtain ⟨q,hq⟩:=hw';rw [hq];exact q.k
    clear hw' C1 p1 p2 hne;go_wp2_with fail;refine bodyPost_ret (by simp [results,Tryz.results131,go_sem];rfl) rfl ?_;refine ⟨?_,(uh HK5)⟩
    first | rfl | simp [gk] | (simp;omega)
   ·have hRb:R=false:=by rw [hR];exact dc_f (fun q=>ck (by rw [hK];exact (hfit.1 q).2))
    subst hRb;have gk:¬ K≤a.a:=ck;clear hR hfit hC hkr hK hg hn h ck hct hdf hgb HLEN hlen c50;have C1:∀ p:KW w,Calls Tryz.prog 170 #[.pointer (some ⟨C,0,none⟩)] p.w fun e w'=>e = .returned (.int .i64 K)∧∃ q:KW w,w'=q.w:=(uh HKQ)
    have p1:∀ p:KW w,p.w.cell? ⟨C,1,none⟩=some (.int .i64 a.a):=fun p=>p.k.cell c1;have p2:∀ p:KW w,p.w.cell? ⟨C,2,none⟩=some (.int .i64 a.b):=fun p=>p.k.cell c2;have hne:Nonempty (KW w):=⟨⟨w,Kb.refl _ _⟩⟩
    clear HKQ;go_enter Tryz.func131,Tryz.ntmps131;go_upto_region 13 with fail;refine wp_region_kb (by kernel_rfl) (by kernel_rfl) ?_
    repeat go_big_quiet_step ((first | (go_at_call 170;exact C1 _) | fail))
    refine wpQuiet_nil ?_;intro w5 hw'
    have HK5:Hid (Kb 0 w w5):=by
     obtain ⟨q,hq⟩:=hw';rw [hq];exact q.k
    clear hw' C1 p1 p2 hne;go_wp2_with fail;refine bodyPost_ret (by simp [results,Tryz.results131,go_sem];rfl) rfl ?_;refine ⟨?_,(uh HK5)⟩
    first | rfl | simp [gk] | (simp;omega)
  ·have m50:¬ (m:Int)+1 < 50:=by omega
   have hRb:R=false:=by rw [hR];exact dc_f (fun q=>c50 (by have:=(hfit.1 q).1;omega))
   subst hRb;clear hR hfit hC HKQ hkr hK hg hn h hct hdf hgb HLEN hlen c50;go_enter Tryz.func131,Tryz.ntmps131;go_upto_region 13 with fail
   go_quiet (skip)
   go_wp2_with fail;refine bodyPost_ret (by simp [results,Tryz.results131,go_sem];rfl) rfl ?_;exact ⟨rfl,(uh HKK).drewN _⟩
 ·rw [hgb] at d0;have hlen:=(uh HLEN)
  by_cases c50:m+1 < 50
  ·have m50:(m:Int)+1 < 50:=by omega
   by_cases ck:K≤a.a
   ·have hRb:R=true:=by rw [hR];exact dc_t (hfit.2 ⟨by omega,by rw [← hK];exact ck⟩)
    subst hRb;have gk:K≤a.a:=ck;clear hR hfit hC hkr hK hg hn h ck hct hdf hgb HLEN hlen c50;have C1:∀ p:KW w,Calls Tryz.prog 170 #[.pointer (some ⟨C,0,none⟩)] p.w fun e w'=>e = .returned (.int .i64 K)∧∃ q:KW w,w'=q.w:=(uh HKQ)
    have p1:∀ p:KW w,p.w.cell? ⟨C,1,none⟩=some (.int .i64 a.a):=fun p=>p.k.cell c1;have p2:∀ p:KW w,p.w.cell? ⟨C,2,none⟩=some (.int .i64 a.b):=fun p=>p.k.cell c2;have hne:Nonempty (KW w):=⟨⟨w,Kb.refl _ _⟩⟩
    clear HKQ;go_enter Tryz.func131,Tryz.ntmps131;go_upto_region 13 with fail;refine wp_region_kb (by kernel_rfl) (by kernel_rfl) ?_
    repeat go_big_quiet_step ((first | (go_at_call 170;exact C1 _) | fail))
    refine wpQuiet_nil ?_;intro w5 hw'
    have HK5:Hid (Kb 0 w w5):=by
     obtain ⟨q,hq⟩:=hw';rw [hq];exact q.k
    clear hw' C1 p1 p2 hne;go_wp2_with fail;refine bodyPost_ret (by simp [results,Tryz.results131,go_sem];rfl) rfl ?_;refine ⟨?_,(uh HK5)⟩
    first | rfl | simp [gk] | (simp;omega)
   ·have hRb:R=false:=by rw [hR];exact dc_f (fun q=>ck (by rw [hK];exact (hfit.1 q).2))
    subst hRb;have gk:¬ K≤a.a:=ck;clear hR hfit hC hkr hK hg hn h ck hct hdf hgb HLEN hlen c50;have C1:∀ p:KW w,Calls Tryz.prog 170 #[.pointer (some ⟨C,0,none⟩)] p.w fun e w'=>e = .returned (.int .i64 K)∧∃ q:KW w,w'=q.w:=(uh HKQ)
    have p1:∀ p:KW w,p.w.cell? ⟨C,1,none⟩=some (.int .i64 a.a):=fun p=>p.k.cell c1;have p2:∀ p:KW w,p.w.cell? ⟨C,2,none⟩=some (.int .i64 a.b):=fun p=>p.k.cell c2;have hne:Nonempty (KW w):=⟨⟨w,Kb.refl _ _⟩⟩
    clear HKQ;go_enter Tryz.func131,Tryz.ntmps131;go_upto_region 13 with fail;refine wp_region_kb (by kernel_rfl) (by kernel_rfl) ?_
    repeat go_big_quiet_step ((first | (go_at_call 170;exact C1 _) | fail))
    refine wpQuiet_nil ?_;intro w5 hw'
    have HK5:Hid (Kb 0 w w5):=by
     obtain ⟨q,hq⟩:=hw';rw [hq];exact q.k
    clear hw' C1 p1 p2 hne;go_wp2_with fail;refine bodyPost_ret (by simp [results,Tryz.results131,go_sem];rfl) rfl ?_;refine ⟨?_,(uh HK5)⟩
    first | rfl | simp [gk] | (simp;omega)
  ·have m50:¬ (m:Int)+1 < 50:=by omega
   have hRb:R=false:=by rw [hR];exact dc_f (fun q=>c50 (by have:=(hfit.1 q).1;omega))
   subst hRb;clear hR hfit hC HKQ hkr hK hg hn h hct hdf hgb HLEN hlen c50;go_enter Tryz.func131,Tryz.ntmps131;go_upto_region 13 with fail
   go_quiet (skip)
   go_wp2_with fail;refine bodyPost_ret (by simp [results,Tryz.results131,go_sem];rfl) rfl ?_;exact ⟨rfl,(uh HKK).drewN _⟩
