import Derived.Test.YtjakooihcbdcaaaGreatDoorMZsq
import Derived.Test.YtjakooihcbdcaaaGreatDoorMTos
import Derived.Lib.SliceRun
set_option maxHeartbeats 16000000
namespace Go.Proofs.YtjakooihcbdcaaaGreatDoor.Fo
open Go.ChangeShapes Go.WideShapes Go.ChangeAt Go.RowKit
set_option linter.unusedVariables false
set_option maxRecDepth 100000
def nbx (T:List Int) (u:Bool × Int):Prop:=u.1=true∧T.getD u.2.toNat 0 ≠ 2
theorem im_nbx {av : Nat → Prop} {T : List Int} {vt : Value} (l : Bool) (x : Int) (B : Nat) (w : World) (hB : w.cell? ⟨B, 0, none⟩ = some vt) (hT : Rz av w vt T) (hn : T.length ≤ 250) (hx : l = true → 0 ≤ x ∧ x < (T.length : Int)) :
  Calls Tryz.prog 167 #[.agg #[.bool l,.int .i64 x],.pointer (some ⟨B,0,none⟩)] w fun e w'=>e = .returned (.bool (dc (nbx T (l,x))))∧Kb 0 w w':=by
 obtain ⟨R,hR⟩:∃ R,R=dc (nbx T (l,x)):=⟨_,rfl⟩
 rw [← hR];have k1:Kb 0 w (w.alloc (.cells #[.bool l,.int .i64 x] 165)):=kb_alloc _ _ _;cases l
 ·rw [dc_f (by unfold nbx;simp)] at hR;subst hR;clear hx hT hB hn;go_enter Tryz.func167,Tryz.ntmps167;go_wp2_with fail;go_ret;exact ⟨by first | rfl | simp,k1⟩
 ·obtain ⟨k,rfl⟩:∃ k:Nat,x=(k:Int):=⟨x.toNat,by have:=hx rfl;omega⟩
  have hk:k < T.length:=by have:=hx rfl;omega
  obtain ⟨pt,ct,rfl,-,ra⟩:=hT;obtain ⟨a,rfl,-,ra2⟩:=ra (by omega);obtain ⟨y,hy⟩:∃ y,T[k]? = some y:=⟨_,List.getElem?_eq_getElem hk⟩
  have s1:=ra2 k y hy;have hD:T.getD k 0=y:=by rw [List.getD_eq_getElem?_getD,hy];rfl
  have kI:(k:Int) < (T.length:Int):=by omega
  have TI:(T.length:Int)≤250:=by omega
  obtain ⟨w1,hw1⟩:∃ w1,w1=w.alloc (.cells #[.bool true,.int .i64 k] 165):=⟨_,rfl⟩
  obtain ⟨s0,hs0⟩:∃ s0,s0=w.heap.size:=⟨_,rfl⟩
  rw [← hw1] at k1;have hb1:w1.heap[s0]? = some (.cells #[.bool true,.int .i64 k] 165 (0,0)):=by rw [hw1,hs0];exact alloc_new _ _ _
  have c0:w1.cell? ⟨s0,0,none⟩=some (.bool true):=cell_of hb1 rfl;have c1:w1.cell? ⟨s0,1,none⟩=some (.int .i64 k):=cell_of hb1 rfl;have cB:=k1.cell hB;have s1':=k1.cell s1;have HK:Hid (Kb 0 w w1):=k1;have HW:Hid (w1 = _∧s0 = _):=⟨hw1,hs0⟩
  have hRR:R=dc (y ≠ 2):=by rw [hR];exact dc_iff ⟨fun q=>by have:=q.2;rw [show ((true,(k:Int)):Bool × Int).2.toNat=k from rfl,hD] at this;exact this,fun q=>⟨rfl,by rw [show ((true,(k:Int)):Bool × Int).2.toNat=k from rfl,hD];exact q⟩⟩
  clear hR hw1 hs0 hb1 k1 hB s1 hD hy ra ra2 hx hn hk;by_cases e:y=2
  ·have g:(y == 2)=true:=beq1 e;rw [dc_f (by simpa using e)] at hRR;subst hRR;clear e;go_enter Tryz.func167,Tryz.ntmps167;go_upto_region 1 with fail;rw [← (uh HW).1,← (uh HW).2];clear HW;go_wp2_with fail;go_ret;exact ⟨by simp;simpa using g,HK⟩
  ·have g:(y == 2)=false:=bne e;rw [dc_t e] at hRR;subst hRR;go_enter Tryz.func167,Tryz.ntmps167;go_upto_region 1 with fail;rw [← (uh HW).1,← (uh HW).2];clear HW;go_wp2_with fail;go_ret;exact ⟨by simp;exact e,HK⟩
theorem en_nbx:∀ args w,(callFunc 167 args).run Tryz.prog w = .ok (.enter 167 args) w:=enters_of Tryz.func167 (by kernel_rfl) rfl
theorem im_ixnbx {av : Nat → Prop} {T : List Int} {vt vu : Value} {n : Nat} {U : Nat → Bool × Int} (B : Nat) (w : World) (hu : RowU 0 w vu n U) (hn : n ≤ 250) (hB : w.cell? ⟨B, 0, none⟩ = some vt) (hT : Rz av w vt T) (hnT : T.length ≤ 250) (hx : ∀ j, j < n → (U j).1 = true → 0 ≤ (U j).2 ∧ (U j).2 < (T.length : Int)) :
  Calls Tryz.prog 185 #[vu,.func (.func 167) #[] #[.pointer (some ⟨B,0,none⟩)]] w fun e w'=>∃ r:Int,e = .returned (.int .i64 r)∧(0≤r↔∃ j,j < n∧nbx T (U j))∧Kb 0 w w':=by
 obtain ⟨pa,ca,rfl,a1⟩:=hu;have HA:Hid (0 < n→∃ a:Addr,pa=some a∧n≤ca∧0≤a.block∧∀ i,i < n→UpC 0 w (a.add (i*2)) (U i)):=a1;have n1:(n:Int)≤250:=by omega
 have eg:=en_nbx;have HCB:Hid (∀ j,j < n→∀ W,Kb 0 w W→Calls Tryz.prog 167 #[.agg #[.bool (U j).1,.int .i64 (U j).2],.pointer (some ⟨B,0,none⟩)] W fun e w'=>e = .returned (.bool (dc (nbx T (U j))))∧Kb 0 W w'):=(fun j hj W kk=>im_nbx (U j).1 (U j).2 B W (kk.cell hB) (hT.kb kk) hnT (hx j hj):∀ j,_)
 clear a1 hn hB hT hnT hx;go_enter Tryz.func185,Tryz.ntmps185;go_wp2_with fail
 go_loopw [8] (fun sl wr=>∃ i:Nat,sl = .int .i64 i∧i≤n∧Hid (Kb 0 w wr)∧Hid (∀ j,j < i→¬ nbx T (U j))) (fun sl _=>n - (intOf sl).toNat)
 case atStart=>exact ⟨0,rfl,Nat.zero_le _,Kb.refl _ _,(fun j h=>by omega:∀ j,_)⟩
 case round =>
  rename World=>w2
  obtain ⟨i,rfl,hi,HK,HX⟩:=hrel;have hX:=(uh HX)
  clear HX;rcases Nat.lt_or_ge i n with h | h
  ·have hI:(i:Int) < (n:Int):=by omega
   obtain ⟨a,rfl,-,-,ra⟩:=(uh HA) (by omega)
   obtain ⟨s1,s2⟩:=(ra i h).keep zq HK;have hcall:=(uh HCB) i h w2 HK;by_cases e:nbx T (U i)
   ·rw [dc_t e] at hcall;have HZ:Hid (0≤(i:Int)↔∃ j,j < n∧nbx T (U j)):=(⟨fun _=>⟨i,h,e⟩,fun _=>by omega⟩:_↔_)
    clear hX ra e HA HCB;go_wp2_with (go_at_fn 167;refine hcall.mono ?_;rintro e w' ⟨rfl,hk'⟩;have HK':Hid (Kb 0 w2 w'):=hk';clear hk' hcall);go_ret;exact ⟨_,rfl,HZ,(uh HK).trans HK'⟩
   ·rw [dc_f e] at hcall
    have HN:Hid (∀ j,j < i+1→¬ nbx T (U j)):=(fun j hj=>by
     by_cases ej:j=i
     ·subst ej;exact e
     ·exact hX j (by omega):∀ j,_)
    clear hX ra e HA;go_wp2_with (go_at_fn 167;refine hcall.mono ?_;rintro e w' ⟨rfl,hk'⟩;have HK':Hid (Kb 0 w2 w'):=hk';clear hk' hcall);go_roundw
    case rel=>exact ⟨i+1,by go_num,by omega,(uh HK).trans HK',HN⟩
    case measure=>simp [intOf];omega
  ·have hI:¬ (i:Int) < (n:Int):=by omega
   have HZ:Hid (0≤(-1:Int)↔∃ j,j < n∧nbx T (U j)):=(⟨fun q=>by omega,fun ⟨j,q1,q2⟩=>(hX j (by omega) q2).elim⟩:_↔_)
   clear hX HA HCB;go_wp2_with fail;go_ret;exact ⟨_,rfl,HZ,HK⟩
theorem im_ctnbx {av : Nat → Prop} {T : List Int} {vt vu : Value} {n : Nat} {U : Nat → Bool × Int} (B : Nat) (w : World) (hu : RowU 0 w vu n U) (hn : n ≤ 250) (hB : w.cell? ⟨B, 0, none⟩ = some vt) (hT : Rz av w vt T) (hnT : T.length ≤ 250) (hx : ∀ j, j < n → (U j).1 = true → 0 ≤ (U j).2 ∧ (U j).2 < (T.length : Int)) :
  Calls Tryz.prog 166 #[vu,.func (.func 167) #[] #[.pointer (some ⟨B,0,none⟩)]] w fun e w'=>e = .returned (.bool (dc (∃ j,j < n∧nbx T (U j))))∧Kb 0 w w':=by
 have HI:=im_ixnbx B w hu hn hB hT hnT hx;obtain ⟨pa,ca,rfl,-⟩:=hu;obtain ⟨R,hR⟩:∃ R,R=dc (∃ j,j < n∧nbx T (U j)):=⟨_,rfl⟩
 rw [← hR];clear hn hB hT hnT hx;go_enter Tryz.func166,Tryz.ntmps166;go_wp2_with fail;refine HI.mono ?_;rintro e w2 ⟨r,rfl,hr,hk⟩;have HK:Hid (Kb 0 w w2):=hk;by_cases c:∃ j,j < n∧nbx T (U j)
 ·have g:=hr.2 c;rw [dc_t c] at hR;subst hR;clear hr HI c hk;go_wp2_with fail;go_ret;exact ⟨by first | rfl | simp | simp [g],HK⟩
 ·have g:¬ 0≤r:=fun q=>c (hr.1 q);rw [dc_f c] at hR;subst hR;clear hr HI c hk;go_wp2_with fail;go_ret;exact ⟨by first | rfl | (simp;omega),HK⟩
theorem im_boxes {av : Nat → Prop} {C np : Nat} {F : Nat → Pd} {v : Iv} {T : List Int} {vt vp : Value} (w : World) (h9 : w.cell? ⟨C, 9, none⟩ = some vp) (hp : RowP 0 w vp np F) (hnp : np ≤ 1048576) (hT : Rz av w vt T) (hnT : T.length ≤ 250) (hx : v.o = 11 → (0 ≤ v.b ∧ v.b < (np : Int)) ∧ (F v.b.toNat).u ≤ 250 ∧ ∀ j, j < (F v.b.toNat).u → ((F v.b.toNat).U j).1 = true → 0 ≤ ((F v.b.toNat).U j).2 ∧ ((F v.b.toNat).U j).2 < (T.length : Int)) :
  Calls Tryz.prog 128 #[.pointer (some ⟨C,0,none⟩),.agg #[.int .i64 v.o,.int .i64 v.a,.int .i64 v.b,.int .i64 v.c,.int .i64 v.d],vt] w fun e w'=>e = .returned (.bool (dc (bx F v T)))∧Kb 0 w w':=by
 obtain ⟨R,hR⟩:∃ R,R=dc (bx F v T):=⟨_,rfl⟩
 rw [← hR];obtain ⟨pt,ct,rfl,-,-⟩:=id hT;obtain ⟨w2,hw2⟩:∃ w2,w2=((w.alloc (.cells #[.int .i64 v.o,.int .i64 v.a,.int .i64 v.b,.int .i64 v.c,.int .i64 v.d] 84)).alloc (.cells #[.slice pt T.length ct] 63)):=⟨_,rfl⟩
 obtain ⟨s0,hs0⟩:∃ s0,s0=w.heap.size:=⟨_,rfl⟩
 obtain ⟨t0,t1,ts,k2⟩:=two_new' w _ _ _ _ w2 hw2;rw [← hs0] at t0 t1;have d0:w2.cell? ⟨s0,0,none⟩=some (.int .i64 v.o):=cell_of t0 rfl;have d2:w2.cell? ⟨s0,2,none⟩=some (.int .i64 v.b):=cell_of t0 rfl;have d5:w2.cell? ⟨s0+1,0,none⟩=some (.slice pt T.length ct):=cell_of t1 rfl;have HW:Hid (w2 = _∧s0 = _):=⟨hw2,hs0⟩
 have HK2:Hid (Kb 0 w w2):=k2;clear hw2 hs0 t0 t1 ts;by_cases h11:v.o=11
 ·have g:(v.o != 11)=false:=by simpa using h11
  obtain ⟨hb,hu,hj⟩:=hx h11;obtain ⟨kb,hkb⟩:∃ kb:Nat,v.b=(kb:Int):=⟨v.b.toNat,by omega⟩
  obtain ⟨pp,cp,rfl,rp⟩:=hp;obtain ⟨a,rfl,hcp,-,rp2⟩:=rp (by omega);obtain ⟨vu,vc,vn,vd,hcel,hru,-,-,-⟩:=rp2 kb (by omega);rw [show v.b.toNat=kb from by omega] at hu hj;have e5:=k2.cellA zq hcel.c5;have e9:=k2.cell h9;have hru2:=hru.keep k2;have hT2:=hT.kb k2;obtain ⟨pu,cu,rfl,-⟩:=id hru;have bI:(kb:Int) < (np:Int):=by omega
  have nI:(np:Int)≤1048576:=by omega
  rw [hkb] at d2;obtain ⟨B,hB⟩:∃ B,B=s0+1:=⟨_,rfl⟩
  rw [← hB] at d5
  have CC:∀ p:KW w2,Calls Tryz.prog 166 #[.slice pu (F kb).u cu,.func (.func 167) #[] #[.pointer (some ⟨B,0,none⟩)]] p.w fun e w'=>e = .returned (.bool (dc (∃ j,j < (F kb).u∧nbx T ((F kb).U j))))∧∃ q:KW w2,w'=q.w:=(fun p=>by
   refine (im_ctnbx B p.w (hru2.keep p.k) hu (p.k.cell d5) (hT2.kb p.k) hnT hj).mono ?_;rintro e w' ⟨rfl,k'⟩
   exact ⟨rfl,⟨w',p.k.trans k'⟩,rfl⟩)
  have p9:∀ p:KW w2,p.w.cell? ⟨C,9,none⟩=some (.slice (some a) np cp):=fun p=>p.k.cell e9;have p2:∀ p:KW w2,p.w.cell? ⟨s0,2,none⟩=some (.int .i64 kb):=fun p=>p.k.cell d2;have p5:∀ p:KW w2,p.w.cell? ⟨(a.add (kb*9)).block,(a.add (kb*9)).off+5,none⟩=some (.slice pu (F kb).u cu):=fun p=>p.k.cellA zq e5;have hne:Nonempty (KW w2):=⟨⟨w2,Kb.refl _ _⟩⟩
  have hRR:R = !dc (∃ j,j < (F kb).u∧nbx T ((F kb).U j)):=by
   rw [hR];by_cases c:∃ j,j < (F kb).u∧nbx T ((F kb).U j)
   ·rw [dc_t c];refine dc_f (fun q=>?_);obtain ⟨j,q1,q2,q3⟩:=c;have:=q h11;rw [show v.b.toNat=kb from by omega] at this;exact q3 (this j q1 q2)
   ·rw [dc_f c];refine dc_t (fun _=>?_);rw [show v.b.toNat=kb from by omega];intro j q1 q2;apply Classical.byContradiction;intro q3;exact c ⟨j,q1,q2,q3⟩
  obtain ⟨Y,hY⟩:∃ Y,Y=dc (∃ j,j < (F kb).u∧nbx T ((F kb).U j)):=⟨_,rfl⟩
  rw [← hY] at CC hRR;subst hRR;have HB:Hid (B=s0+1):=hB;clear hR hY rp rp2 hcel hru hru2 hT hT2 hu hj hb hkb hcp k2 e5 e9 h9 hx hnT hnp h11 hB d2 d5;go_enter Tryz.func128,Tryz.ntmps128;go_upto_region 1 with fail;rw [← (uh HW).1,← (uh HW).2,← (uh HB)];clear HW HB;go_upto_region 3 with fail;cases Y
  ·refine wp_region_kbd (m:=0) (by kernel_rfl) (by kernel_rfl) ?_
   repeat go_big_quiet_step ((first | (go_at_call 166;exact CC _) | fail))
   refine wpQuiet_nil ?_;intro w5 hw'
   have HK5:Hid (Kb 0 w w5):=by
    obtain ⟨q,hq⟩:=hw';rw [hq];exact (uh HK2).trans q.k
   clear hw' CC p9 p2 p5 hne;go_wp2_with fail;go_ret;exact ⟨by first | rfl | simp,HK5⟩
  ·refine wp_region_kbd (m:=0) (by kernel_rfl) (by kernel_rfl) ?_
   repeat go_big_quiet_step ((first | (go_at_call 166;exact CC _) | fail))
   refine wpQuiet_nil ?_;intro w5 hw'
   have HK5:Hid (Kb 0 w w5):=by
    obtain ⟨q,hq⟩:=hw';rw [hq];exact (uh HK2).trans q.k
   clear hw' CC p9 p2 p5 hne;go_wp2_with fail;go_ret;exact ⟨by first | rfl | simp,HK5⟩
 ·have g:(v.o != 11)=true:=by simpa using h11
  rw [show dc (bx F v T)=true from dc_t (fun q=>(h11 q).elim)] at hR;subst hR;obtain ⟨pp,cp,rfl,-⟩:=hp;clear hx hnT hT hnp h9 h11 k2 d2 d5;go_enter Tryz.func128,Tryz.ntmps128;go_upto_region 1 with fail;rw [← (uh HW).1,← (uh HW).2];clear HW;go_wp2_with fail;go_ret;exact ⟨by first | rfl | simp,HK2⟩
theorem set3_0 {W:World} {s:Nat} {u:Value} (h:W.cell? ⟨s,0,none⟩=some u):∀ x,(W.setCell ⟨s,0,none⟩ x).cell? ⟨s,0,none⟩=some x:=fun x=>set_eq _ _ _ _ _ h
theorem set3_1 {W:World} {s:Nat} {u:Value} (h:W.cell? ⟨s,1,none⟩=some u):∀ x y,((W.setCell ⟨s,0,none⟩ x).setCell ⟨s,1,none⟩ y).cell? ⟨s,1,none⟩=some y:=fun x y=>set_eq _ _ _ _ u (by rw [set_ne _ _ _ _ _ (by omega)];exact h)
theorem set3_2 {W:World} {s:Nat} {u:Value} (h:W.cell? ⟨s,2,none⟩=some u):∀ x y z,(((W.setCell ⟨s,0,none⟩ x).setCell ⟨s,1,none⟩ y).setCell ⟨s,2,none⟩ z).cell? ⟨s,2,none⟩=some z:=fun x y z=>set_eq _ _ _ _ u (by rw [set_ne _ _ _ _ _ (by omega),set_ne _ _ _ _ _ (by omega)];exact h)
def AtA (av bv:Nat→Prop) (a:Iv) (s:Sv) (T:List Int) (G:List Gv) (w:World) (e:Ending) (w':World):Prop:=∃ v1 v2,e = .returned (.agg #[.bool true,v1,v2])∧Rz (fun k=>av k∨bv k∨w.heap.size≤k) w' v1 (att a s T G).1∧Rg (fun k=>av k∨bv k∨w.heap.size≤k) w' v2 (att a s T G).2∧Kb 0 w w'
theorem Rz.wk {av bv:Nat→Prop} {W:World} {v:Value} {T:List Int} (h:Rz av W v T) (k:∀ b,av b→bv b):Rz bv W v T:=by
 obtain ⟨pa,cap,h1,h0,h2⟩:=h;exact ⟨pa,cap,h1,h0,fun hn=>by obtain ⟨a,e1,e2,e3⟩:=h2 hn;exact ⟨a,e1,k _ e2,e3⟩⟩
theorem Rg.wk {av bv:Nat→Prop} {W:World} {v:Value} {T:List Gv} (h:Rg av W v T) (k:∀ b,av b→bv b):Rg bv W v T:=by
 obtain ⟨pa,cap,h1,h0,h2⟩:=h;exact ⟨pa,cap,h1,h0,fun hn=>by obtain ⟨a,e1,e2,e3⟩:=h2 hn;exact ⟨a,e1,k _ e2,e3⟩⟩
theorem at_41 {av bv : Nat → Prop} {C : Nat} {a : Iv} {s : Sv} {T : List Int} {G : List Gv} {vt vg v8 v9 vb vgb : Value} (w : World) (hC : ChB C a vt vg v8 v9 w) (r1 : Rz av w vt s.1) (r2 : Rg av w vg s.2) (r3 : Rz bv w vb T) (r4 : Rg bv w vgb G) (h : a.o = 41) :
  Calls Tryz.prog 135 #[.pointer (some ⟨C,0,none⟩),.agg #[.bool true,vb,vgb]] w (AtA av bv a s T G w):=by
 have g0:(a.o == 41)=true:=beq1 h;obtain ⟨pt,ct,et,-⟩:=id r1;obtain ⟨pg,cg,eg,-⟩:=id r2;obtain ⟨pb,cb,eb,-⟩:=id r3;obtain ⟨pz,cz,ez,-⟩:=id r4;subst et eg eb ez;have hC':w.heap[C]? = _:=hC;obtain ⟨w2,hw2⟩:∃ w2,w2=(w.alloc (.cells #[.bool true,.slice pb T.length cb,.slice pz G.length cz] 68)).alloc (.cells #[.bool false,.slice none 0 0,.slice none 0 0] 68):=⟨_,rfl⟩
 obtain ⟨s0,hs0⟩:∃ s0,s0=w.heap.size:=⟨_,rfl⟩
 obtain ⟨t0,t1,ts,k2⟩:=two_new' w _ _ _ _ w2 hw2;rw [← hs0] at t0 t1;obtain ⟨s1,hs1⟩:∃ s1,s1=s0+1:=⟨_,rfl⟩
 rw [← hs1] at t1;have d0:w2.cell? ⟨s0,0,none⟩=some (.bool true):=cell_of t0 rfl;have d1:w2.cell? ⟨s0,1,none⟩=some (.slice pb T.length cb):=cell_of t0 rfl;have d2:w2.cell? ⟨s0,2,none⟩=some (.slice pz G.length cz):=cell_of t0 rfl;have z0:w2.cell? ⟨s1,0,none⟩=some (.bool false):=cell_of t1 rfl;have z1:w2.cell? ⟨s1,1,none⟩=some (.slice none 0 0):=cell_of t1 rfl;have z2:w2.cell? ⟨s1,2,none⟩=some (.slice none 0 0):=cell_of t1 rfl;have f0:w2.frozen? ⟨s1,0,none⟩=false:=frozen_of t1;have f1:w2.frozen? ⟨s1,1,none⟩=false:=frozen_of t1;have f2:w2.frozen? ⟨s1,2,none⟩=false:=frozen_of t1;have c0:w2.cell? ⟨C,0,none⟩=some (.int .i64 a.o):=k2.cell (cell_of hC' rfl);have c5:w2.cell? ⟨C,5,none⟩=some (.bool true):=k2.cell (cell_of hC' rfl);have c6:w2.cell? ⟨C,6,none⟩=some (.slice pt s.1.length ct):=k2.cell (cell_of hC' rfl);have c7:w2.cell? ⟨C,7,none⟩=some (.slice pg s.2.length cg):=k2.cell (cell_of hC' rfl);have HW:Hid (w2 = _∧s0 = _∧s1 = _):=⟨hw2,hs0,hs1⟩
 have HS:Hid (Kb 0 w w2∧w.heap.size≤s1):=⟨k2,by omega⟩
 have HR:Hid (Rz (fun k=>av k∨bv k∨w.heap.size≤k) w (.slice pt s.1.length ct) (att a s T G).1∧Rg (fun k=>av k∨bv k∨w.heap.size≤k) w (.slice pg s.2.length cg) (att a s T G).2):=(by rw [show att a s T G=s from if_pos h];exact ⟨r1.wk (fun b q=>.inl q),r2.wk (fun b q=>.inl q)⟩)
 clear hw2 hs0 t0 t1 ts hs1 k2 hC hC' r1 r2 r3 r4 h;go_enter Tryz.func135,Tryz.ntmps135;go_upto_region 1 with fail;rw [← (uh HW).1,← (uh HW).2.1,← (uh HW).2.2];clear HW;go_wp2_with fail;refine bodyPost_ret (by simp [results,Tryz.results135,go_sem,set3_0 z0,set3_1 z1,set3_2 z2];rfl) rfl ?_;obtain ⟨q1,q2⟩:=(uh HR)
 obtain ⟨k2,hs⟩:=(uh HS)
 have kk:∀ x y z,Kb 0 w (((w2.setCell ⟨s1,0,none⟩ x).setCell ⟨s1,1,none⟩ y).setCell ⟨s1,2,none⟩ z):=fun x y z=>((k2.setCell ⟨s1,0,none⟩ (.inr hs) x).setCell ⟨s1,1,none⟩ (.inr hs) y).setCell ⟨s1,2,none⟩ (.inr hs) z;exact ⟨_,_,rfl,q1.kb (kk _ _ _),q2.kb (kk _ _ _),kk _ _ _⟩
theorem at_oth {av bv : Nat → Prop} {C : Nat} {a : Iv} {s : Sv} {T : List Int} {G : List Gv} {vt vg v8 v9 vb vgb : Value} (w : World) (hC : ChB C a vt vg v8 v9 w) (r1 : Rz av w vt s.1) (r2 : Rg av w vg s.2) (r3 : Rz bv w vb T) (r4 : Rg bv w vgb G) (h : a.o ≠ 41) (h2 : a.o ≠ 31) :
  Calls Tryz.prog 135 #[.pointer (some ⟨C,0,none⟩),.agg #[.bool true,vb,vgb]] w (AtA av bv a s T G w):=by
 have g0:(a.o == 41)=false:=bne h;have g1:(a.o == 31)=false:=bne h2;obtain ⟨pt,ct,et,-⟩:=id r1;obtain ⟨pg,cg,eg,-⟩:=id r2;obtain ⟨pb,cb,eb,-⟩:=id r3;obtain ⟨pz,cz,ez,-⟩:=id r4;subst et eg eb ez;have hC':w.heap[C]? = _:=hC;obtain ⟨w2,hw2⟩:∃ w2,w2=(w.alloc (.cells #[.bool true,.slice pb T.length cb,.slice pz G.length cz] 68)).alloc (.cells #[.bool false,.slice none 0 0,.slice none 0 0] 68):=⟨_,rfl⟩
 obtain ⟨s0,hs0⟩:∃ s0,s0=w.heap.size:=⟨_,rfl⟩
 obtain ⟨t0,t1,ts,k2⟩:=two_new' w _ _ _ _ w2 hw2;rw [← hs0] at t0 t1;obtain ⟨s1,hs1⟩:∃ s1,s1=s0+1:=⟨_,rfl⟩
 rw [← hs1] at t1;have d0:w2.cell? ⟨s0,0,none⟩=some (.bool true):=cell_of t0 rfl;have d1:w2.cell? ⟨s0,1,none⟩=some (.slice pb T.length cb):=cell_of t0 rfl;have d2:w2.cell? ⟨s0,2,none⟩=some (.slice pz G.length cz):=cell_of t0 rfl;have z0:w2.cell? ⟨s1,0,none⟩=some (.bool false):=cell_of t1 rfl;have z1:w2.cell? ⟨s1,1,none⟩=some (.slice none 0 0):=cell_of t1 rfl;have z2:w2.cell? ⟨s1,2,none⟩=some (.slice none 0 0):=cell_of t1 rfl;have f0:w2.frozen? ⟨s1,0,none⟩=false:=frozen_of t1;have f1:w2.frozen? ⟨s1,1,none⟩=false:=frozen_of t1;have f2:w2.frozen? ⟨s1,2,none⟩=false:=frozen_of t1;have c0:w2.cell? ⟨C,0,none⟩=some (.int .i64 a.o):=k2.cell (cell_of hC' rfl);have c5:w2.cell? ⟨C,5,none⟩=some (.bool true):=k2.cell (cell_of hC' rfl);have c6:w2.cell? ⟨C,6,none⟩=some (.slice pt s.1.length ct):=k2.cell (cell_of hC' rfl);have c7:w2.cell? ⟨C,7,none⟩=some (.slice pg s.2.length cg):=k2.cell (cell_of hC' rfl);have HW:Hid (w2 = _∧s0 = _∧s1 = _):=⟨hw2,hs0,hs1⟩
 have HS:Hid (Kb 0 w w2∧w.heap.size≤s1):=⟨k2,by omega⟩
 have HR:Hid (Rz (fun k=>av k∨bv k∨w.heap.size≤k) w (.slice pb T.length cb) (att a s T G).1∧Rg (fun k=>av k∨bv k∨w.heap.size≤k) w (.slice pz G.length cz) (att a s T G).2):=(by rw [show att a s T G=(T,G) from (if_neg h).trans (if_neg h2)];exact ⟨r3.wk (fun b q=>.inr (.inl q)),r4.wk (fun b q=>.inr (.inl q))⟩)
 clear hw2 hs0 t0 t1 ts hs1 k2 hC hC' r1 r2 r3 r4 h h2;go_enter Tryz.func135,Tryz.ntmps135;go_upto_region 1 with fail;rw [← (uh HW).1,← (uh HW).2.1,← (uh HW).2.2];clear HW;go_wp2_with fail;refine bodyPost_ret (by simp [results,Tryz.results135,go_sem,set3_0 z0,set3_1 z1,set3_2 z2];rfl) rfl ?_;obtain ⟨q1,q2⟩:=(uh HR)
 obtain ⟨k2,hs⟩:=(uh HS)
 have kk:∀ x y z,Kb 0 w (((w2.setCell ⟨s1,0,none⟩ x).setCell ⟨s1,1,none⟩ y).setCell ⟨s1,2,none⟩ z):=fun x y z=>((k2.setCell ⟨s1,0,none⟩ (.inr hs) x).setCell ⟨s1,1,none⟩ (.inr hs) y).setCell ⟨s1,2,none⟩ (.inr hs) z;exact ⟨_,_,rfl,q1.kb (kk _ _ _),q2.kb (kk _ _ _),kk _ _ _⟩
theorem kb_setCells {a:World} (q:Nat) (hq:a.heap.size≤q):∀ (vs:List Value) (o:Nat) (w:World),Kb 0 a w→Kb 0 a (w.setCells q o vs)
 | [],_,_,h=>h
 | v :: vs,o,w,h=>kb_setCells q hq vs (o+1) _ (h.setCell ⟨q,o,none⟩ (.inr hq) v)
theorem at_31 {av bv : Nat → Prop} {C : Nat} {a : Iv} {s : Sv} {T : List Int} {G : List Gv} {vt vg v8 v9 vb vgb : Value} (w : World) (hC : ChB C a vt vg v8 v9 w) (r1 : Rz av w vt s.1) (r2 : Rg av w vg s.2) (r3 : Rz bv w vb T) (r4 : Rg bv w vgb G) (h : a.o = 31) (hb : 0 ≤ a.b ∧ a.b + 2 ≤ (s.1.length : Int)) (hn : s.1.length ≤ 250) :
  Calls Tryz.prog 135 #[.pointer (some ⟨C,0,none⟩),.agg #[.bool true,vb,vgb]] w (AtA av bv a s T G w):=by
 have g0:(a.o == 41)=false:=bne (by omega);have g1:(a.o == 31)=true:=beq1 h;obtain ⟨k,hk⟩:∃ k:Nat,a.b=(k:Int):=⟨a.b.toNat,by omega⟩
 obtain ⟨n,hnn⟩:∃ n,n=s.1.length:=⟨_,rfl⟩
 rw [← hnn] at hb hn;have hkn:k+2≤n:=by omega
 obtain ⟨pt,ct,et,hct,-⟩:=id r1;obtain ⟨pg,cg,eg,-⟩:=id r2;obtain ⟨pb,cb,eb,-⟩:=id r3;obtain ⟨pz,cz,ez,-⟩:=id r4;subst et eg eb ez;have hC':w.heap[C]? = _:=hC;obtain ⟨w2,hw2⟩:∃ w2,w2=(w.alloc (.cells #[.bool true,.slice pb T.length cb,.slice pz G.length cz] 68)).alloc (.cells #[.bool false,.slice none 0 0,.slice none 0 0] 68):=⟨_,rfl⟩
 obtain ⟨s0,hs0⟩:∃ s0,s0=w.heap.size:=⟨_,rfl⟩
 obtain ⟨t0,t1,ts,k2⟩:=two_new' w _ _ _ _ w2 hw2;rw [← hs0] at t0 t1;obtain ⟨s1,hs1⟩:∃ s1,s1=s0+1:=⟨_,rfl⟩
 rw [← hs1] at t1;have HCL:=im_clone w2 (r1.kb k2) (by omega);have c0:w2.cell? ⟨C,0,none⟩=some (.int .i64 a.o):=k2.cell (cell_of hC' rfl);have c6:w2.cell? ⟨C,6,none⟩=some (.slice pt s.1.length ct):=k2.cell (cell_of hC' rfl);have HC2:Hid (w2.cell? ⟨C,2,none⟩=some (.int .i64 k)∧w2.cell? ⟨C,7,none⟩=some (.slice pg s.2.length cg)∧C < w2.heap.size):=(⟨by rw [← hk];exact k2.cell (cell_of hC' rfl),k2.cell (cell_of hC' rfl),by have:=(Array.getElem?_eq_some_iff.1 hC').1;omega⟩:_∧_)
 have HW:Hid (w2 = _∧s0 = _∧s1 = _):=⟨hw2,hs0,hs1⟩
 have HS:Hid (Kb 0 w w2∧w.heap.size≤s1∧s1 < w2.heap.size∧w2.heap[s1]? = some (.cells #[.bool false,.slice none 0 0,.slice none 0 0] 68 (0,0))):=(⟨k2,by omega,by omega,t1⟩:_∧_)
 have HG:Hid (Rg (fun k=>av k∨bv k∨w.heap.size≤k) w (.slice pg s.2.length cg) s.2):=r2.wk (fun b q=>.inl q);have HN:Hid (n=s.1.length∧a.b=(k:Int)∧k+2≤n∧n≤250∧a.o=31):=(⟨hnn,hk,hkn,hn,h⟩:_∧_)
 clear hw2 hs0 t0 t1 ts hs1 k2 hC hC' r1 r2 r3 r4 h hk hnn hb hn hkn hct;go_enter Tryz.func135,Tryz.ntmps135;go_upto_region 1 with fail;rw [← (uh HW).1,← (uh HW).2.1,← (uh HW).2.2];clear HW;go_upto_region 6 with (go_at_call 34;refine HCL.mono ?_;rintro e w3 ⟨v5,rfl,ho,k3⟩;obtain ⟨hnn,hk,hkn,hn,h⟩:=(uh HN);obtain ⟨p5,q5,cap,y5,rfl,rfl,hcap,hbq,-,-,hfz,-⟩:=own_wr ho (k:=k) (by omega);have HO:Hid (OwI w2.heap.size w3 (.slice (some ⟨q5,0,none⟩) s.1.length cap) s.1∧Kb 0 w2 w3∧s.1.length≤cap∧w2.heap.size≤q5∧∀ j,w3.frozen? (Addr.add ⟨q5,0,none⟩ j)=false):=(⟨ho,k3,hcap,hbq,hfz⟩:_∧_);clear ho k3 hcap hbq hfz hnn hk hkn hn h y5 HCL c0 c6);obtain ⟨hnn,hk,hkn,hn,h⟩:=(uh HN)
 have hO:=(uh HO)
 obtain ⟨ho,k3,hcap,hq5,hfz⟩:=hO
 have hrow:∀ j x,s.1[j]? = some x→w3.cell? ⟨q5,j,none⟩=some (.int .i64 x):=fun j x hx=>by
  obtain ⟨pa,ca,ee,-,h2⟩:=ho.rz;obtain ⟨e1,-,-⟩:=Value.slice.inj ee;obtain ⟨a',e2,-,e3⟩:=h2 (by have:=(List.getElem?_eq_some_iff.1 hx).1;omega);rw [← e1] at e2;have e4:=Option.some.inj e2;have:=e3 j x hx;rw [← e4,addr0] at this;exact this
 have hfz':∀ j,w3.frozen? ⟨q5,j,none⟩=false:=fun j=>by have:=hfz j;rw [addr0] at this;exact this
 obtain ⟨m,hm⟩:∃ m,s.1.length=m:=⟨_,rfl⟩
 have hmn:m=n:=by omega
 have HCR:∀ ty,(Builtin.clear_ #[63] ty #[.slice (some ⟨q5,k,none⟩) (m - k) (cap - k)]).run Tryz.prog w3 = .ok (.tuple #[]) (w3.setCells q5 k (List.replicate (m - k) (.int .i64 0))):=fun ty=>Lib.run_clear_slice w3 63 3 ty (.int .i64 0) Tryz.underlying63 (fun w=>by rfl) rfl rfl q5 k (m - k) (cap - k) (by omega) (fun j hj=>by
  rw [hrow (k+j) _ (List.getElem?_eq_getElem (by omega))];rfl) (fun j _=>hfz' _)
 obtain ⟨w4,hw4⟩:∃ w4,w4=w3.setCells q5 k (List.replicate (m - k) (.int .i64 0)):=⟨_,rfl⟩
 rw [← hw4] at HCR;have k4:Kb 0 w2 w4:=by rw [hw4];exact kb_setCells q5 hq5 _ _ _ k3
 have hlo:∀ j x,j < k→s.1[j]? = some x→w4.cell? ⟨q5,j,none⟩=some (.int .i64 x):=fun j x hj hx=>by
  rw [hw4,World.cell?_setCells_out _ _ _ _ _ (fun _ _=>.inl hj)];exact hrow j x hx
 have hhi:∀ j,k≤j→j < m→w4.cell? ⟨q5,j,none⟩=some (.int .i64 0):=fun j h1 h2=>by
  have:=World.cell?_setCells_in q5 (List.replicate (m - k) (.int .i64 0)) k w3 (fun j hj=>by
   rw [List.length_replicate] at hj
   rw [hrow (k+j) _ (List.getElem?_eq_getElem (by omega))];rfl) (j - k) (by rw [List.length_replicate];omega)
  rw [hw4,show j=k+(j - k) by omega,this,List.getElem_replicate]
 have hf4:∀ j,w4.frozen? ⟨q5,j,none⟩=false:=fun j=>by rw [hw4,World.frozen?_setCells];exact hfz' j
 have c2:w3.cell? ⟨C,2,none⟩=some (.int .i64 k):=k3.cell (uh HC2).1;have c2':w4.cell? ⟨C,2,none⟩=some (.int .i64 k):=k4.cell (uh HC2).1;have HX:Hid ((∀ j x,j < k→s.1[j]? = some x→w4.cell? ⟨q5,j,none⟩=some (.int .i64 x))∧(∀ j,k≤j→j < m→w4.cell? ⟨q5,j,none⟩=some (.int .i64 0))∧(∀ j,w4.frozen? ⟨q5,j,none⟩=false)∧Kb 0 w2 w4∧w2.heap.size≤q5∧s.1.length=m∧k+2≤m∧m≤250∧m≤cap∧a.o=31∧a.b=(k:Int)):=(⟨hlo,hhi,hf4,k4,hq5,hm,by omega,by omega,by omega,h,hk⟩:_∧_)
 have b1:(k:Int)≤(m:Int):=by omega
 have b2:(m:Int)≤(cap:Int):=by omega
 have b3:(m:Int)≤250:=by omega
 have b4:k≤m:=by omega
 have b5:m≤cap:=by omega
 rw [hm];clear hw4 hlo hhi hf4 k4 hq5 hmn hrow hfz hfz' ho k3 hcap HO HN hnn hk hkn hn h hm;have ea:Addr.add ⟨q5,0,none⟩ k=⟨q5,k,none⟩:=addr0 _ _;have b6:¬ cap=k:=by have:=(uh HX);omega
 have b7:¬ k=cap:=fun q=>b6 q.symm;go_upto_region 7 with fail;clear HCR ea b6 b7 c2 b4 b5;obtain ⟨hlo,hhi,hf4,k4,hq5,hm,hk2,hm2,hmc,h,hk⟩:=(uh HX)
 have i1:(k:Int) < (m:Int):=by omega
 have i2:(k:Int)+1 < (m:Int):=by omega
 have e0:w4.cell? ⟨q5,k,none⟩=some (.int .i64 0):=hhi k (Nat.le_refl _) (by omega);have e1:w4.cell? ⟨q5,k+1,none⟩=some (.int .i64 0):=hhi (k+1) (by omega) (by omega);have f0:w4.frozen? ⟨q5,k,none⟩=false:=hf4 _;have f1:w4.frozen? ⟨q5,k+1,none⟩=false:=hf4 _;have ea:∀ j,Addr.add ⟨q5,0,none⟩ j=⟨q5,j,none⟩:=addr0 q5;clear hlo hhi hf4 k4 hq5 hm hk2 hm2 hmc h hk
 go_region
 obtain ⟨hlo,hhi,hf4,k4,hq5,hm,hk2,hm2,hmc,h,hk⟩:=(uh HX)
 generalize hw5:((w4.setCell ⟨q5,k,none⟩ (.int .i64 1)).setCell ⟨q5,k+1,none⟩ (.int .i64 1)).drew=w5;have hc5:∀ p,w5.cell? p=((w4.setCell ⟨q5,k,none⟩ (.int .i64 1)).setCell ⟨q5,k+1,none⟩ (.int .i64 1)).cell? p:=fun p=>by rw [← hw5];rfl
 have k5:Kb 0 w2 w5:=by rw [← hw5];exact ((k4.setCell ⟨q5,k,none⟩ (.inr hq5) _).setCell ⟨q5,k+1,none⟩ (.inr hq5) _).drew
 have hrow5:∀ j x,(tcl s.1 a.b)[j]? = some x→w5.cell? ⟨q5,j,none⟩=some (.int .i64 x):=fun j x hx=>by
  rw [hc5];unfold tcl at hx;rw [hk,show ((k:Int)).toNat=k from rfl] at hx;have hlt:(s.1.take k).length=k:=by rw [List.length_take];omega
  rcases Nat.lt_or_ge j k with q | q
  ·rw [List.getElem?_append_left (by omega),List.getElem?_take_of_lt q] at hx;rw [set_ne _ _ _ _ _ (by omega),set_ne _ _ _ _ _ (by omega)];exact hlo j x q hx
  ·rw [List.getElem?_append_right (by omega),hlt] at hx;by_cases q0:j=k
   ·subst q0;rw [Nat.sub_self] at hx;have hx1:(1:Int)=x:=by simpa using hx
    subst hx1;rw [set_ne _ _ _ _ _ (by omega)];exact set_eq _ _ _ _ _ e0
   ·by_cases q1:j=k+1
    ·subst q1;rw [Nat.add_sub_cancel_left] at hx;have hx1:(1:Int)=x:=by simpa using hx
     subst hx1;exact set_eq _ _ _ _ (.int .i64 0) (by rw [set_ne _ _ _ _ _ (by omega)];exact e1)
    ·obtain ⟨i,rfl⟩:∃ i,j=k+2+i:=⟨j - k - 2,by omega⟩
     rw [show k+2+i - k=i+1+1 by omega,List.getElem?_cons_succ,List.getElem?_cons_succ,List.getElem?_replicate] at hx;split at hx
     ·have hx1:(0:Int)=x:=by simpa using hx
      subst hx1;rw [set_ne _ _ _ _ _ (by omega),set_ne _ _ _ _ _ (by omega)];exact hhi _ (by omega) (by omega)
     ·cases hx
 have hlen:(tcl s.1 a.b).length=m:=by
  unfold tcl;rw [hk,show ((k:Int)).toNat=k from rfl];simp only [List.length_append,List.length_take,List.length_cons,List.length_replicate];omega
 obtain ⟨k2,hs,hsl,t1⟩:=(uh HS)
 have t5:w5.heap[s1]? = some (.cells #[.bool false,.slice none 0 0,.slice none 0 0] 68 (0,0)):=by rw [k5.block _ zq hsl];exact t1
 have z0:w5.cell? ⟨s1,0,none⟩=some (.bool false):=cell_of t5 rfl;have z1:w5.cell? ⟨s1,1,none⟩=some (.slice none 0 0):=cell_of t5 rfl;have z2:w5.cell? ⟨s1,2,none⟩=some (.slice none 0 0):=cell_of t5 rfl;have y0:w5.frozen? ⟨s1,0,none⟩=false:=frozen_of t5;have y1:w5.frozen? ⟨s1,1,none⟩=false:=frozen_of t5;have y2:w5.frozen? ⟨s1,2,none⟩=false:=frozen_of t5;have c7:=k5.cell (uh HC2).2.1;have hq1:s1 ≠ q5:=by omega
 have hqw:w.heap.size≤q5:=Nat.le_trans k2.size hq5;have hatt:att a s T G=(tcl s.1 a.b,s.2):=(if_neg (by omega)).trans (if_pos h)
 have HF:Hid (∀ x y z,AtA av bv a s T G w (.returned (.agg #[.bool true,.slice (some ⟨q5,0,none⟩) m cap,.slice pg s.2.length cg])) (((w5.setCell ⟨s1,0,none⟩ x).setCell ⟨s1,1,none⟩ y).setCell ⟨s1,2,none⟩ z)):=(fun x y z=>by
  have kk:Kb 0 w (((w5.setCell ⟨s1,0,none⟩ x).setCell ⟨s1,1,none⟩ y).setCell ⟨s1,2,none⟩ z):=(((k2.trans k5).setCell ⟨s1,0,none⟩ (.inr hs) x).setCell ⟨s1,1,none⟩ (.inr hs) y).setCell ⟨s1,2,none⟩ (.inr hs) z;refine ⟨_,_,rfl,?_,?_,kk⟩
  ·rw [hatt];refine ⟨some ⟨q5,0,none⟩,cap,by rw [hlen],by rw [hlen];exact hmc,fun _=>⟨⟨q5,0,none⟩,rfl,.inr (.inr hqw),fun j x' hx=>?_⟩⟩;rw [addr0];rw [World.cell?_setCell_other _ _ _ _ (fun e=>hq1 (congrArg Addr.block e)),World.cell?_setCell_other _ _ _ _ (fun e=>hq1 (congrArg Addr.block e)),World.cell?_setCell_other _ _ _ _ (fun e=>hq1 (congrArg Addr.block e))];exact hrow5 j x' hx
  ·rw [hatt]
   exact (uh HG).kb kk:∀ x,_)
 clear hlo hhi hf4 k4 hq5 hm hk2 hm2 hmc h hk hw5 hc5 k5 hrow5 hlen k2 hs hsl t1 t5 hq1 hqw hatt HG HS HX HC2 c2' i1 i2 e0 e1 f0 f1 ea b1 b2 b3;go_wp2_with fail;refine bodyPost_ret (by simp [results,Tryz.results135,go_sem,set3_0 z0,set3_1 z1,set3_2 z2];rfl) rfl ?_;exact (uh HF) _ _ _
theorem im_att {av bv : Nat → Prop} {C : Nat} {a : Iv} {s : Sv} {T : List Int} {G : List Gv} {vt vg v8 v9 vb vgb : Value} (w : World) (hC : ChB C a vt vg v8 v9 w) (r1 : Rz av w vt s.1) (r2 : Rg av w vg s.2) (r3 : Rz bv w vb T) (r4 : Rg bv w vgb G) (hb : a.o = 31 → (0 ≤ a.b ∧ a.b + 2 ≤ (s.1.length : Int))) (hn : s.1.length ≤ 250) :
  Calls Tryz.prog 135 #[.pointer (some ⟨C,0,none⟩),.agg #[.bool true,vb,vgb]] w (AtA av bv a s T G w):=by
 by_cases h:a.o=41
 ·exact at_41 w hC r1 r2 r3 r4 h
 by_cases h2:a.o=31
 ·exact at_31 w hC r1 r2 r3 r4 h2 (hb h2) hn
 exact at_oth w hC r1 r2 r3 r4 h h2
theorem im_types {d : Pd} {p : Nat} {a1 a2 a3 a4 : Option Addr} {b1 b2 b3 b4 c1 c2 c3 c4 : Nat} (w : World) (hd : Hd p d) :
  Calls Tryz.prog 77 #[.agg #[.string d.x,.int .i64 d.l,.int .i64 d.m,.bool d.r,.int .i64 d.g,.slice a1 b1 c1,.slice a2 b2 c2,.slice a4 b4 c4,.slice a3 b3 c3]] w fun e w'=>∃ v,e = .returned v∧OwI w.heap.size w' v (t0 d)∧Kb 0 w w':=by
 have g0I : 0≤d.g:=hd.2.2.1.1;have g1I:d.g≤250:=hd.2.2.1.2;have m0I : 0≤d.m:=hd.2.2.2.1.1;obtain ⟨te1,te2,te3,te4⟩:=tf_end hd;obtain ⟨gn,hgn⟩:∃ gn:Nat,d.g=(gn:Int):=⟨d.g.toNat,by omega⟩
 obtain ⟨mn,hmn⟩:∃ mn:Nat,d.m=(mn:Int):=⟨d.m.toNat,by omega⟩
 rw [hgn,hmn] at te1 te2 te3 te4;rw [Int.toNat_natCast,Int.toNat_natCast] at te1 te2 te3 te4;obtain ⟨w1,hw1⟩:∃ w1,w1=w.alloc (.cells #[.string d.x,.int .i64 d.l,.int .i64 d.m,.bool d.r,.int .i64 d.g,.slice a1 b1 c1,.slice a2 b2 c2,.slice a4 b4 c4,.slice a3 b3 c3] 62):=⟨_,rfl⟩
 obtain ⟨s0,hs0⟩:∃ s0,s0=w.heap.size:=⟨_,rfl⟩
 have k1:Kb 0 w w1:=by rw [hw1];exact kb_alloc _ _ _
 have hb1:w1.heap[s0]? = some (.cells #[.string d.x,.int .i64 d.l,.int .i64 d.m,.bool d.r,.int .i64 d.g,.slice a1 b1 c1,.slice a2 b2 c2,.slice a4 b4 c4,.slice a3 b3 c3] 62 (0,0)):=by rw [hw1,hs0];exact alloc_new _ _ _
 have hz1:w1.heap.size=s0+1:=by rw [hw1,hs0];exact World.size_alloc _ _
 have hmk:=run_make (P:=Tryz.prog) w1 63 3 Tryz.t3 (.int .i64 0) Tryz.underlying63 (by kernel_rfl) (by kernel_rfl) .i64 .i64 (gn:Int) (gn:Int) (by omega) (Int.le_refl _) (by show (8:Int)*(gn:Int)≤_;omega) (by omega);rw [Int.toNat_natCast] at hmk;obtain ⟨w2,hw2⟩:∃ w2,w2=w1.alloc (.cells (madeCells (.int .i64 0:Value).cells (gn*1)) 3):=⟨_,rfl⟩
 rw [show gn*Tryz.t3.size=gn*1 from rfl,← hw2] at hmk;obtain ⟨QB,hQB⟩:∃ QB,QB=w1.heap.size:=⟨_,rfl⟩
 rw [← hQB] at hmk;have k2:Kb 0 w1 w2:=by rw [hw2];exact kb_alloc _ _ _
 have hO:OwI w.heap.size w2 (.slice (some ⟨QB,0,none⟩) gn gn) (tf gn 0):=by
  have:=made_ints w1 w.heap.size gn (by omega) (by omega);rw [← hw2,← hQB] at this;unfold OwI;rw [tf_len zq];exact this
 have y4:w1.cell? ⟨s0,4,none⟩=some (.int .i64 gn):=by rw [← hgn];exact cell_of hb1 rfl
 have y2:w2.cell? ⟨s0,2,none⟩=some (.int .i64 mn):=by rw [← hmn];exact k2.cell (cell_of hb1 rfl)
 have HC:Hid (∀ W,Kb 0 w1 W→W.cell? ⟨s0,2,none⟩=some (.int .i64 mn)∧W.cell? ⟨s0,3,none⟩=some (.bool d.r)):=(fun W kk=>⟨by rw [← hmn];exact kk.cell (cell_of hb1 rfl),kk.cell (cell_of hb1 rfl)⟩:∀ W,_)
 obtain ⟨bQ,hbQ⟩:∃ bQ:Addr,bQ=⟨QB,0,none⟩:=⟨_,rfl⟩
 rw [← hbQ] at hmk hO;have HW:Hid (w1 = _∧s0 = _):=⟨hw1,hs0⟩
 have HE:Hid (Kb 0 w w1∧bQ=⟨QB,0,none⟩∧w1.heap.size≤QB∧(d.r=true→(tf gn mn).set mn 3=t0 d)∧(¬ d.r=true→tf gn mn=t0 d)∧mn≤gn∧(d.r=true→mn < gn)∧gn≤250):=(⟨k1,hbQ,by omega,te1,te2,te3,te4,by omega⟩:_∧_)
 have HST:Hid (OwI w.heap.size w2 (.slice (some bQ) gn gn) (tf gn 0)∧Kb 0 w1 w2):=(⟨hO,k2⟩:_∧_)
 have gI:(gn:Int)≤250:=by omega
 have mI:(mn:Int)≤(gn:Int):=by omega
 clear hw1 hs0 hb1 hz1 hw2 hQB k1 k2 hO hbQ te1 te2 te3 te4 hgn hmn g0I g1I m0I hd;go_enter Tryz.func77,Tryz.ntmps77;go_upto_region 1 with fail;rw [← (uh HW).1,← (uh HW).2];clear HW;go_wp2_with fail;clear y4 y2 hmk
 go_loopw [10] (fun s10 wr=>∃ r:Nat,s10 = .int .i64 r∧r≤mn∧Hid (OwI w.heap.size wr (.slice (some bQ) gn gn) (tf gn r)∧Kb 0 w1 wr)) (fun s10 _=>mn - (intOf s10).toNat)
 case atStart=>exact ⟨0,rfl,Nat.zero_le _,HST⟩
 case round =>
  rename World=>wr
  obtain ⟨r,rfl,hr,HX⟩:=hrel;clear HST;obtain ⟨hO,kx⟩:=(uh HX)
  clear HX;obtain ⟨k1,hbQ,l1,te1,te2,te3,te4,hg⟩:=(uh HE)
  rcases Nat.lt_or_ge r mn with h | h
  ·have rI:(r:Int) < (mn:Int):=by omega
   have rg:(r:Int) < (gn:Int):=by omega
   obtain ⟨b',q',cq',y',e1,e2,e3,e4,e5,cy,fz,hset⟩:=own_wr hO (k:=r) (by rw [tf_len (by omega)];omega);have e6:=Value.slice.inj e1;obtain rfl:bQ=b':=by simpa using e6.1
   have fzr:=fz r;have hbl:w1.heap.size≤(bQ.add r).block:=by rw [hbQ,addr0];exact l1
   have HN:Hid (OwI w.heap.size (wr.setCell (bQ.add r) (.int .i64 1)) (.slice (some bQ) gn gn) (tf gn (r+1))∧Kb 0 w1 (wr.setCell (bQ.add r) (.int .i64 1))):=(⟨by rw [← tf_next (by omega)];exact (hset wr (Kb.refl _ _) 1).1,kx.setCell _ (.inr hbl) _⟩:_∧_)
   clear hO kx k1 hbQ l1 te1 te2 te3 te4 hg e1 e2 e3 e4 e5 e6 hset fz hbl;go_wp2_with fail;go_roundw
   case rel=>exact ⟨r+1,by go_num,by omega,HN⟩
   case measure=>simp [intOf];omega
  ·have rI:¬ (r:Int) < (mn:Int):=by omega
   obtain rfl:r=mn:=by omega
   obtain ⟨y2,y3⟩:=(uh HC) wr kx;obtain ⟨rb,hrb⟩:∃ rb,rb=d.r:=⟨_,rfl⟩
   rw [← hrb] at y3;cases rb with
   | false =>
    have HN:Hid (OwI w.heap.size wr (.slice (some bQ) gn gn) (t0 d)∧Kb 0 w wr):=(⟨by rw [← te2 (by rw [← hrb];simp)];exact hO,k1.trans kx⟩:_∧_)
    clear hO kx k1 hbQ l1 te1 te2 te3 te4 hg hrb h hr;go_wp2_with fail;go_ret;exact ⟨_,rfl,HN⟩
   | true =>
    have rg:(r:Int) < (gn:Int):=by have:=te4 hrb.symm;omega
    obtain ⟨b',q',cq',y',e1,e2,e3,e4,e5,cy,fz,hset⟩:=own_wr hO (k:=r) (by rw [tf_len te3];exact te4 hrb.symm);have e6:=Value.slice.inj e1;obtain rfl:bQ=b':=by simpa using e6.1
    have fzr:=fz r;have hbl:w1.heap.size≤(bQ.add r).block:=by rw [hbQ,addr0];exact l1
    have HN:Hid (OwI w.heap.size (wr.setCell (bQ.add r) (.int .i64 3)) (.slice (some bQ) gn gn) (t0 d)∧Kb 0 w (wr.setCell (bQ.add r) (.int .i64 3))):=(⟨by rw [← te1 hrb.symm];exact (hset wr (Kb.refl _ _) 3).1,k1.trans (kx.setCell _ (.inr hbl) _)⟩:_∧_)
    clear hO kx k1 hbQ l1 te1 te2 te3 te4 hg e1 e2 e3 e4 e5 e6 hset fz hbl hrb h hr;go_wp2_with fail;go_ret;exact ⟨_,rfl,HN⟩
