import Derived.Test.YtjakooihcbdcaaaGreatDoorMZsq
import Derived.Test.YtjakooihcbdcaaaGreatDoorMCbb
import Derived.Deep.AppendLies
import Derived.Laws.AppendOwn
import Derived.MapKept
set_option maxHeartbeats 32000000
namespace Go.Proofs.YtjakooihcbdcaaaGreatDoor.Fo
open Go.ChangeShapes Go.WideShapes Go.ChangeAt Go.RowKit
set_option linter.unusedVariables false
set_option maxRecDepth 100000
def Gd (w:World):Prop:=∀ o,o < 43→∀ j,j < 4→w.cell? ⟨1,o*4+j,none⟩=some (.int .u8 (pr o j:Int))
theorem Gd.keep {w w':World} (h:Gd w) (k:Kb 0 w w'):Gd w':=fun o ho j hj=>k.cell (h o ho j hj)
structure KW (w0:World) where
 w:World
 k:Kb 0 w0 w
theorem wp_region_kb {w0 : World} {P : Program} {id : Nat} {Q : Exit → Act → World → Prop} {A : Act} {l : List Oper} (hm : P.follows .mixedOrders = true) (hB : Region.lexB .any l.toArray = true)
  (h:wpQuiet P l.toArray (fun w'=>∃ p:KW w0,w'=p.w) (fun a'=>∀ w',(∃ p:KW w0,w'=p.w)→Q .normal a' w') l A):(Code.region id l.toArray true).wp P Q A w0 :=
 wp_region_quiet (C:=fun w'=>∃ p:KW w0,w'=p.w) hm hB ⟨⟨_,(Kb.refl 0 w0).drew⟩,rfl⟩ (by simpa using h)
theorem ix_0 (x0 x1 x2 x3:Int) (w:World):(Instr.index 216 (.agg #[.int .i64 x0,.int .i64 x1,.int .i64 x2,.int .i64 x3]) (.int .i64 0)).run Tryz.prog w = .ok (.int .i64 x0) w:=by
 first
  | kernel_rfl
  | simp [Instr.index,run_underlying Tryz.underlying216,asIntOf,go_sem]
theorem ix_1 (x0 x1 x2 x3:Int) (w:World):(Instr.index 216 (.agg #[.int .i64 x0,.int .i64 x1,.int .i64 x2,.int .i64 x3]) (.int .i64 1)).run Tryz.prog w = .ok (.int .i64 x1) w:=by
 first
  | kernel_rfl
  | simp [Instr.index,run_underlying Tryz.underlying216,asIntOf,go_sem]
theorem ix_2 (x0 x1 x2 x3:Int) (w:World):(Instr.index 216 (.agg #[.int .i64 x0,.int .i64 x1,.int .i64 x2,.int .i64 x3]) (.int .i64 2)).run Tryz.prog w = .ok (.int .i64 x2) w:=by
 first
  | kernel_rfl
  | simp [Instr.index,run_underlying Tryz.underlying216,asIntOf,go_sem]
theorem ix_3 (x0 x1 x2 x3:Int) (w:World):(Instr.index 216 (.agg #[.int .i64 x0,.int .i64 x1,.int .i64 x2,.int .i64 x3]) (.int .i64 3)).run Tryz.prog w = .ok (.int .i64 x3) w:=by
 first
  | kernel_rfl
  | simp [Instr.index,run_underlying Tryz.underlying216,asIntOf,go_sem]
theorem im_intable {A : Addr} {np ca B : Nat} {d : Pd} {pu pc pn pm : Option Addr} {cu cc cn cm : Nat} (a : Iv) (w : World) (hnp : np ≤ 1048576) (hb : w.cell? ⟨B, 0, none⟩ = some (.slice (some A) np ca)) (hgd : Gd w) (hu : d.u ≤ 1048576) (hc : d.c ≤ 1048576) (hni : d.n ≤ 1048576) (hg : 0 ≤ d.g ∧ d.g ≤ 250) :
  Calls Tryz.prog 119 #[.pointer (some ⟨B,0,none⟩),.agg #[.string d.x,.int .i64 d.l,.int .i64 d.m,.bool d.r,.int .i64 d.g,.slice pu d.u cu,.slice pc d.c cc,.slice pn d.n cn,.slice pm d.d cm],.agg #[.int .i64 a.o,.int .i64 a.a,.int .i64 a.b,.int .i64 a.c,.int .i64 a.d]] w fun e w'=>e = .returned (.bool (dc (Tok np d a)))∧Kb 0 w w':=by
 by_cases ho1 : 1≤a.o
 rotate_left
 ·rw [dc_f (fun q:Tok np d a=>ho1 q.1)];have g1:a.o < 1:=by omega
  clear ho1 hgd;go_enter Tryz.func119,Tryz.ntmps119;go_wp2_with fail;go_ret;exact ⟨rfl,kb_alloc2 _ _ _ _⟩
 by_cases ho2:a.o≤42
 rotate_left
 ·rw [dc_f (fun q:Tok np d a=>ho2 q.2.1)];have g1:¬ a.o < 1:=by omega
  have g2 : 42 < a.o:=by omega
  clear ho1 ho2 hgd;go_enter Tryz.func119,Tryz.ntmps119;go_wp2_with fail;go_ret;exact ⟨rfl,kb_alloc2 _ _ _ _⟩
 obtain ⟨n,hn⟩:∃ n:Nat,a.o=(n:Int):=⟨a.o.toNat,by omega⟩
 have g1:¬ (n:Int) < 1:=by omega
 have g2:¬ 42 < (n:Int):=by omega
 obtain ⟨R,hR⟩:∃ R,R=dc (Tok np d a):=⟨_,rfl⟩
 rw [← hR]
 have hTK:Tok np d a↔∀ j,j < 4→Fit np d (pcl (pr n j)) (fld a j):=by
  unfold Tok;rw [show a.o.toNat=n by omega];exact ⟨fun q=>q.2.2,fun q=>⟨ho1,ho2,q⟩⟩
 have HR:Hid (R=dc (Tok np d a)∧(Tok np d a↔∀ j,j < 4→Fit np d (pcl (pr n j)) (fld a j))):=(⟨hR,hTK⟩:_∧_)
 have HY:Hid (np≤1048576∧d.u≤1048576∧d.c≤1048576∧d.n≤1048576∧(0≤d.g∧d.g≤250)∧(1≤n∧n≤42)∧a.o=(n:Int)):=(⟨hnp,hu,hc,hni,hg,⟨by omega,by omega⟩,hn⟩:_∧_)
 have HF:=fun W=>im_fieldsof a W;unfold insv at HF;obtain ⟨w2,hw2⟩:∃ w2,w2=(w.alloc (.cells #[.string d.x,.int .i64 d.l,.int .i64 d.m,.bool d.r,.int .i64 d.g,.slice pu d.u cu,.slice pc d.c cc,.slice pn d.n cn,.slice pm d.d cm] 62)).alloc (.cells #[.int .i64 a.o,.int .i64 a.a,.int .i64 a.b,.int .i64 a.c,.int .i64 a.d] 84):=⟨_,rfl⟩
 obtain ⟨b0,b1,bs,k2⟩:=two_new' w _ _ _ _ w2 hw2;have HB:Hid (w2.heap[w.heap.size]? = some (.cells #[.string d.x,.int .i64 d.l,.int .i64 d.m,.bool d.r,.int .i64 d.g,.slice pu d.u cu,.slice pc d.c cc,.slice pn d.n cn,.slice pm d.d cm] 62 (0,0))∧w2.heap[w.heap.size+1]? = some (.cells #[.int .i64 a.o,.int .i64 a.a,.int .i64 a.b,.int .i64 a.c,.int .i64 a.d] 84 (0,0))∧Kb 0 w w2∧Gd w2∧w2.cell? ⟨B,0,none⟩=some (.slice (some A) np ca)):=(⟨b0,b1,k2,hgd.keep k2,k2.cell hb⟩:_∧_)
 rw [hn] at hw2 HF;have HW:Hid (w2 = _):=hw2;clear hw2 b0 b1 bs k2 hR hTK hgd hb hnp hu hc hni hg ho1 ho2;rw [hn];go_enter Tryz.func119,Tryz.ntmps119;go_wp2_with fail;rw [← (uh HW)];clear HW;refine (HF w2).mono ?_;rintro e w3 ⟨rfl,k3⟩
 have HS:Hid (Kb 0 w w3∧w3.cell? ⟨w.heap.size,0,none⟩=some (.string d.x)∧w3.cell? ⟨w.heap.size,1,none⟩=some (.int .i64 d.l)∧w3.cell? ⟨w.heap.size,2,none⟩=some (.int .i64 d.m)∧w3.cell? ⟨w.heap.size,3,none⟩=some (.bool d.r)∧w3.cell? ⟨w.heap.size,4,none⟩=some (.int .i64 d.g)∧w3.cell? ⟨w.heap.size,5,none⟩=some (.slice pu d.u cu)∧w3.cell? ⟨w.heap.size,6,none⟩=some (.slice pc d.c cc)∧w3.cell? ⟨w.heap.size,7,none⟩=some (.slice pn d.n cn)∧w3.cell? ⟨w.heap.size,8,none⟩=some (.slice pm d.d cm)∧w3.cell? ⟨w.heap.size+1,0,none⟩=some (.int .i64 n)∧Gd w3∧w3.cell? ⟨B,0,none⟩=some (.slice (some A) np ca)):=by
  obtain ⟨b0,b1,k2,hgd,hb⟩:=(uh HB)
  rw [hn] at b1;exact (show _∧_∧_∧_∧_∧_∧_∧_∧_∧_∧_∧_∧_ from ⟨k2.trans k3,k3.cell (cell_of b0 rfl),k3.cell (cell_of b0 rfl),k3.cell (cell_of b0 rfl),k3.cell (cell_of b0 rfl),k3.cell (cell_of b0 rfl),k3.cell (cell_of b0 rfl),k3.cell (cell_of b0 rfl),k3.cell (cell_of b0 rfl),k3.cell (cell_of b0 rfl),k3.cell (cell_of b1 rfl),hgd.keep k3,k3.cell hb⟩)
 clear k3 HB HF hn;go_wp2_with fail
 go_loopw [19] (fun sl wr=>∃ j:Nat,sl = .int .i64 j∧j≤4∧Hid (Kb 0 w3 wr∧∀ y,y < j→Fit np d (pcl (pr n y)) (fld a y))) (fun sl _=>4 - (intOf sl).toNat)
 case atStart=>exact ⟨0,rfl,Nat.zero_le _,(⟨Kb.refl _ _,fun y h=>by omega⟩:_∧_)⟩
 case round =>
  obtain ⟨j,rfl,hj,HX⟩:=hrel;obtain ⟨kw,hX⟩:=(uh HX)
  obtain ⟨k03,c0,c1,c2,c3,c4,c5,c6,c7,c8,i0,hgd,hb⟩:=(uh HS)
  obtain ⟨hnp,hu,hc,hni,hg,⟨n1,n42⟩,hn⟩:=(uh HY)
  obtain ⟨hR,hTK⟩:=(uh HR)
  rcases Nat.lt_or_ge j 4 with h | h
  ·have hI:(j:Int) < 4:=by omega
   have hpr:=(cl_eq0 n (by omega) j h).2.1;have ht:∀ p:KW wr,p.w.cell? ⟨1,n*4+j,none⟩=some (.int .u8 (pr n j:Int)):=fun p=>p.k.cell (kw.cell (hgd n (by omega) j h));have e0:∀ p:KW wr,p.w.cell? ⟨w.heap.size,0,none⟩=some (.string d.x):=fun p=>p.k.cell (kw.cell c0);have e1:∀ p:KW wr,p.w.cell? ⟨w.heap.size,1,none⟩=some (.int .i64 d.l):=fun p=>p.k.cell (kw.cell c1);have e2:∀ p:KW wr,p.w.cell? ⟨w.heap.size,2,none⟩=some (.int .i64 d.m):=fun p=>p.k.cell (kw.cell c2);have e3:∀ p:KW wr,p.w.cell? ⟨w.heap.size,3,none⟩=some (.bool d.r):=fun p=>p.k.cell (kw.cell c3);have e4:∀ p:KW wr,p.w.cell? ⟨w.heap.size,4,none⟩=some (.int .i64 d.g):=fun p=>p.k.cell (kw.cell c4);have e5:∀ p:KW wr,p.w.cell? ⟨w.heap.size,5,none⟩=some (.slice pu d.u cu):=fun p=>p.k.cell (kw.cell c5);have e6:∀ p:KW wr,p.w.cell? ⟨w.heap.size,6,none⟩=some (.slice pc d.c cc):=fun p=>p.k.cell (kw.cell c6);have e7:∀ p:KW wr,p.w.cell? ⟨w.heap.size,7,none⟩=some (.slice pn d.n cn):=fun p=>p.k.cell (kw.cell c7);have e8:∀ p:KW wr,p.w.cell? ⟨w.heap.size,8,none⟩=some (.slice pm d.d cm):=fun p=>p.k.cell (kw.cell c8);have ei:∀ p:KW wr,p.w.cell? ⟨w.heap.size+1,0,none⟩=some (.int .i64 n):=fun p=>p.k.cell (kw.cell i0)
   have C1:∀ p:KW wr,Calls Tryz.prog 160 #[.pointer (some ⟨B,0,none⟩),.agg #[.string d.x,.int .i64 d.l,.int .i64 d.m,.bool d.r,.int .i64 d.g,.slice pu d.u cu,.slice pc d.c cc,.slice pn d.n cn,.slice pm d.d cm],.int .u8 (pr n j:Int)] p.w fun e w'=>e = .returned (.agg #[.int .i64 (rg np d (pcl (pr n j))).1,.int .i64 (rg np d (pcl (pr n j))).2])∧∃ q:KW wr,w'=q.w:=fun p=>by
    refine (im_allows p.w hpr hnp (p.k.cell (kw.cell hb)) hu hc hni hg).mono ?_;rintro e w' ⟨rfl,k⟩;exact ⟨rfl,⟨w',p.k.trans k⟩,rfl⟩
   have C2:∀ p:KW wr,Calls Tryz.prog 161 #[.agg #[.int .i64 (rg np d (pcl (pr n j))).1,.int .i64 (rg np d (pcl (pr n j))).2],.int .i64 (fld a j)] p.w fun e w'=>e = .returned (.bool (dc (Fit np d (pcl (pr n j)) (fld a j))))∧∃ q:KW wr,w'=q.w:=fun p=>by
    refine (im_holds _ _ _ p.w).mono ?_;rintro e w' ⟨rfl,k⟩;exact ⟨rfl,⟨w',p.k.trans k⟩,rfl⟩
   have hne:Nonempty (KW wr):=⟨⟨wr,Kb.refl _ _⟩⟩
   have hgood:Fit np d (pcl (pr n j)) (fld a j)→∀ p:KW wr,Kb 0 w3 p.w∧∀ y,y < j+1→Fit np d (pcl (pr n y)) (fld a y):=fun c p=>⟨kw.trans p.k,fun y hy=>by
    by_cases e:y=j
    ·subst e;exact c
    ·exact hX y (by omega)⟩
   have hbad:¬ Fit np d (pcl (pr n j)) (fld a j)→R=false∧∀ p:KW wr,Kb 0 w p.w:=fun c=>⟨by rw [hR];exact dc_f (fun q=>c (hTK.1 q j h)),fun p=>(k03.trans kw).trans p.k⟩
   clear HX hX kw k03 c0 c1 c2 c3 c4 c5 c6 c7 c8 i0 hgd hb hnp hu hc hni hg n1 n42 hn hR hTK hpr;generalize hF0:Fit np d (pcl (pr n j)) (fld a j)=FF at *;generalize (rg np d (pcl (pr n j))).1=lo at *;generalize (rg np d (pcl (pr n j))).2=hi at *;rcases (by omega:j=0∨j=1∨j=2∨j=3) with rfl | rfl | rfl | rfl
   ·replace C2:∀ p:KW wr,Calls Tryz.prog 161 #[.agg #[.int .i64 lo,.int .i64 hi],.int .i64 a.a] p.w fun e w'=>e = .returned (.bool (dc FF))∧∃ q:KW wr,w'=q.w:=C2;replace ht:∀ p:KW wr,p.w.cell? ⟨1,n*4,none⟩=some (.int .u8 (pr n 0:Int)):=ht;generalize pr n 0=rj at *;have hix:=ix_0 a.a a.b a.c a.d;by_cases c:FF
    ·rw [dc_t c] at C2;have HG:Hid (∀ p:KW wr,Kb 0 w3 p.w∧∀ y,y < 0+1→Fit np d (pcl (pr n y)) (fld a y)):=hgood c;clear hgood hbad c hF0;go_wp2_with fail;refine wp_region_kb (by kernel_rfl) (by kernel_rfl) ?_
     repeat go_big_quiet_step ((fail))
     go_big_quiet_step ((go_at_call 160;exact C1 _))
     go_big_quiet_step ((fail))
     go_big_quiet_step ((go_at_call 161;exact C2 _))
     go_big_quiet_step ((fail))
     refine wpQuiet_nil ?_;intro w5 hw'
     have HX3:Hid (Kb 0 w3 w5∧∀ y,y < 0+1→Fit np d (pcl (pr n y)) (fld a y)):=by
      obtain ⟨q,hq⟩:=hw';rw [hq];exact (uh HG) q
     clear hw' HG C1 C2 ht e0 e1 e2 e3 e4 e5 e6 e7 e8 ei hne hix;go_wp2_with fail;go_roundw
     case rel=>exact ⟨0+1,by go_num,by omega,HX3⟩
     case measure=>simp [intOf]
    ·rw [dc_f c] at C2;obtain ⟨hF,hk⟩:=hbad c;subst hF;have HG:Hid (∀ p:KW wr,Kb 0 w p.w):=hk;clear hgood hbad c hF0 hk HR;go_wp2_with fail;refine wp_region_kb (by kernel_rfl) (by kernel_rfl) ?_
     repeat go_big_quiet_step ((fail))
     go_big_quiet_step ((go_at_call 160;exact C1 _))
     go_big_quiet_step ((fail))
     go_big_quiet_step ((go_at_call 161;exact C2 _))
     go_big_quiet_step ((fail))
     refine wpQuiet_nil ?_;intro w5 hw'
     have HX3:Hid (Kb 0 w w5):=by
      obtain ⟨q,hq⟩:=hw';rw [hq];exact (uh HG) q
     clear hw' HG C1 C2 ht e0 e1 e2 e3 e4 e5 e6 e7 e8 ei hne hix;go_wp2_with fail;go_ret;exact ⟨rfl,HX3⟩
   ·replace C2:∀ p:KW wr,Calls Tryz.prog 161 #[.agg #[.int .i64 lo,.int .i64 hi],.int .i64 a.b] p.w fun e w'=>e = .returned (.bool (dc FF))∧∃ q:KW wr,w'=q.w:=C2;generalize pr n 1=rj at *;have hix:=ix_1 a.a a.b a.c a.d;by_cases c:FF
    ·rw [dc_t c] at C2;have HG:Hid (∀ p:KW wr,Kb 0 w3 p.w∧∀ y,y < 1+1→Fit np d (pcl (pr n y)) (fld a y)):=hgood c;clear hgood hbad c hF0;go_wp2_with fail;refine wp_region_kb (by kernel_rfl) (by kernel_rfl) ?_
     repeat go_big_quiet_step ((fail))
     go_big_quiet_step ((go_at_call 160;exact C1 _))
     go_big_quiet_step ((fail))
     go_big_quiet_step ((go_at_call 161;exact C2 _))
     go_big_quiet_step ((fail))
     refine wpQuiet_nil ?_;intro w5 hw'
     have HX3:Hid (Kb 0 w3 w5∧∀ y,y < 1+1→Fit np d (pcl (pr n y)) (fld a y)):=by
      obtain ⟨q,hq⟩:=hw';rw [hq];exact (uh HG) q
     clear hw' HG C1 C2 ht e0 e1 e2 e3 e4 e5 e6 e7 e8 ei hne hix;go_wp2_with fail;go_roundw
     case rel=>exact ⟨1+1,by go_num,by omega,HX3⟩
     case measure=>simp [intOf]
    ·rw [dc_f c] at C2;obtain ⟨hF,hk⟩:=hbad c;subst hF;have HG:Hid (∀ p:KW wr,Kb 0 w p.w):=hk;clear hgood hbad c hF0 hk HR;go_wp2_with fail;refine wp_region_kb (by kernel_rfl) (by kernel_rfl) ?_
     repeat go_big_quiet_step ((fail))
     go_big_quiet_step ((go_at_call 160;exact C1 _))
     go_big_quiet_step ((fail))
     go_big_quiet_step ((go_at_call 161;exact C2 _))
     go_big_quiet_step ((fail))
     refine wpQuiet_nil ?_;intro w5 hw'
     have HX3:Hid (Kb 0 w w5):=by
      obtain ⟨q,hq⟩:=hw';rw [hq];exact (uh HG) q
     clear hw' HG C1 C2 ht e0 e1 e2 e3 e4 e5 e6 e7 e8 ei hne hix;go_wp2_with fail;go_ret;exact ⟨rfl,HX3⟩
   ·replace C2:∀ p:KW wr,Calls Tryz.prog 161 #[.agg #[.int .i64 lo,.int .i64 hi],.int .i64 a.c] p.w fun e w'=>e = .returned (.bool (dc FF))∧∃ q:KW wr,w'=q.w:=C2;generalize pr n 2=rj at *;have hix:=ix_2 a.a a.b a.c a.d;by_cases c:FF
    ·rw [dc_t c] at C2;have HG:Hid (∀ p:KW wr,Kb 0 w3 p.w∧∀ y,y < 2+1→Fit np d (pcl (pr n y)) (fld a y)):=hgood c;clear hgood hbad c hF0;go_wp2_with fail;refine wp_region_kb (by kernel_rfl) (by kernel_rfl) ?_
     repeat go_big_quiet_step ((fail))
     go_big_quiet_step ((go_at_call 160;exact C1 _))
     go_big_quiet_step ((fail))
     go_big_quiet_step ((go_at_call 161;exact C2 _))
     go_big_quiet_step ((fail))
     refine wpQuiet_nil ?_;intro w5 hw'
     have HX3:Hid (Kb 0 w3 w5∧∀ y,y < 2+1→Fit np d (pcl (pr n y)) (fld a y)):=by
      obtain ⟨q,hq⟩:=hw';rw [hq];exact (uh HG) q
     clear hw' HG C1 C2 ht e0 e1 e2 e3 e4 e5 e6 e7 e8 ei hne hix;go_wp2_with fail;go_roundw
     case rel=>exact ⟨2+1,by go_num,by omega,HX3⟩
     case measure=>simp [intOf]
    ·rw [dc_f c] at C2;obtain ⟨hF,hk⟩:=hbad c;subst hF;have HG:Hid (∀ p:KW wr,Kb 0 w p.w):=hk;clear hgood hbad c hF0 hk HR;go_wp2_with fail;refine wp_region_kb (by kernel_rfl) (by kernel_rfl) ?_
     repeat go_big_quiet_step ((fail))
     go_big_quiet_step ((go_at_call 160;exact C1 _))
     go_big_quiet_step ((fail))
     go_big_quiet_step ((go_at_call 161;exact C2 _))
     go_big_quiet_step ((fail))
     refine wpQuiet_nil ?_;intro w5 hw'
     have HX3:Hid (Kb 0 w w5):=by
      obtain ⟨q,hq⟩:=hw';rw [hq];exact (uh HG) q
     clear hw' HG C1 C2 ht e0 e1 e2 e3 e4 e5 e6 e7 e8 ei hne hix;go_wp2_with fail;go_ret;exact ⟨rfl,HX3⟩
   ·replace C2:∀ p:KW wr,Calls Tryz.prog 161 #[.agg #[.int .i64 lo,.int .i64 hi],.int .i64 a.d] p.w fun e w'=>e = .returned (.bool (dc FF))∧∃ q:KW wr,w'=q.w:=C2;generalize pr n 3=rj at *;have hix:=ix_3 a.a a.b a.c a.d;by_cases c:FF
    ·rw [dc_t c] at C2;have HG:Hid (∀ p:KW wr,Kb 0 w3 p.w∧∀ y,y < 3+1→Fit np d (pcl (pr n y)) (fld a y)):=hgood c;clear hgood hbad c hF0;go_wp2_with fail;refine wp_region_kb (by kernel_rfl) (by kernel_rfl) ?_
     repeat go_big_quiet_step ((fail))
     go_big_quiet_step ((go_at_call 160;exact C1 _))
     go_big_quiet_step ((fail))
     go_big_quiet_step ((go_at_call 161;exact C2 _))
     go_big_quiet_step ((fail))
     refine wpQuiet_nil ?_;intro w5 hw'
     have HX3:Hid (Kb 0 w3 w5∧∀ y,y < 3+1→Fit np d (pcl (pr n y)) (fld a y)):=by
      obtain ⟨q,hq⟩:=hw';rw [hq];exact (uh HG) q
     clear hw' HG C1 C2 ht e0 e1 e2 e3 e4 e5 e6 e7 e8 ei hne hix;go_wp2_with fail;go_roundw
     case rel=>exact ⟨3+1,by go_num,by omega,HX3⟩
     case measure=>simp [intOf]
    ·rw [dc_f c] at C2;obtain ⟨hF,hk⟩:=hbad c;subst hF;have HG:Hid (∀ p:KW wr,Kb 0 w p.w):=hk;clear hgood hbad c hF0 hk HR;go_wp2_with fail;refine wp_region_kb (by kernel_rfl) (by kernel_rfl) ?_
     repeat go_big_quiet_step ((fail))
     go_big_quiet_step ((go_at_call 160;exact C1 _))
     go_big_quiet_step ((fail))
     go_big_quiet_step ((go_at_call 161;exact C2 _))
     go_big_quiet_step ((fail))
     refine wpQuiet_nil ?_;intro w5 hw'
     have HX3:Hid (Kb 0 w w5):=by
      obtain ⟨q,hq⟩:=hw';rw [hq];exact (uh HG) q
     clear hw' HG C1 C2 ht e0 e1 e2 e3 e4 e5 e6 e7 e8 ei hne hix;go_wp2_with fail;go_ret;exact ⟨rfl,HX3⟩
  ·obtain rfl:j=4:=by omega
   have hT:R=true:=by rw [hR];exact dc_t (hTK.2 (fun y hy=>hX y hy))
   subst hT;have HK:Hid (Kb 0 w wr):=k03.trans kw;clear HX hX kw k03 c0 c1 c2 c3 c4 c5 c6 c7 c8 i0 hgd hb hnp hu hc hni hg n1 n42 hn hR hTK HR HS HY;go_wp2_with fail;go_ret;exact ⟨rfl,HK⟩
def IsSl (v:Value):Prop:=∃ a b c,v = .slice a b c
theorem im_hasups {d e : Pd} {pu ku : Option Addr} {cu ke : Nat} {xc xn xd vc vn vd : Value} (w : World) (hrow : RowU 0 w (.slice ku e.u ke) e.u e.U) (hu : d.u ≤ 1048576) (hue : e.u ≤ 1048576) (hx : IsSl xc ∧ IsSl xn ∧ IsSl xd ∧ IsSl vc ∧ IsSl vn ∧ IsSl vd) :
  Calls Tryz.prog 122 #[.agg #[.string d.x,.int .i64 d.l,.int .i64 d.m,.bool d.r,.int .i64 d.g,.slice pu d.u cu,xc,xn,xd],.agg #[.string e.x,.int .i64 e.l,.int .i64 e.m,.bool e.r,.int .i64 e.g,.slice ku e.u ke,vc,vn,vd]] w fun e' w'=>e' = .returned (.bool (dc (Uok d e)))∧Kb 0 w w':=by
 obtain ⟨⟨a1,b1,c1,rfl⟩,⟨a2,b2,c2,rfl⟩,⟨a3,b3,c3,rfl⟩,⟨a4,b4,c4,rfl⟩,⟨a5,b5,c5,rfl⟩,⟨a6,b6,c6,rfl⟩⟩:=hx;obtain ⟨w2,hw2⟩:∃ w2,w2=(w.alloc (.cells #[.string d.x,.int .i64 d.l,.int .i64 d.m,.bool d.r,.int .i64 d.g,.slice pu d.u cu,.slice a1 b1 c1,.slice a2 b2 c2,.slice a3 b3 c3] 62)).alloc (.cells #[.string e.x,.int .i64 e.l,.int .i64 e.m,.bool e.r,.int .i64 e.g,.slice ku e.u ke,.slice a4 b4 c4,.slice a5 b5 c5,.slice a6 b6 c6] 62):=⟨_,rfl⟩
 obtain ⟨q0,q1,qs,k2⟩:=two_new' w _ _ _ _ w2 hw2;have HS:Hid (Kb 0 w w2∧w2.cell? ⟨w.heap.size,4,none⟩=some (.int .i64 d.g)∧w2.cell? ⟨w.heap.size,5,none⟩=some (.slice pu d.u cu)∧RowU 0 w2 (.slice ku e.u ke) e.u e.U):=(⟨k2,cell_of q0 rfl,cell_of q0 rfl,hrow.keep k2⟩:_∧_)
 have huI:(d.u:Int)≤1048576:=by omega
 have hueI:(e.u:Int)≤1048576:=by omega
 obtain ⟨R,hR⟩:∃ R,R=dc (Uok d e):=⟨_,rfl⟩
 rw [← hR];have HR:Hid (R=dc (Uok d e)):=hR;have HW:Hid (w2 = _):=hw2;clear hR hw2 q0 q1 qs k2 hrow hu hue;go_enter Tryz.func122,Tryz.ntmps122;go_wp2_with fail;rw [← (uh HW)];clear HW
 go_loopw [11] (fun sl wr=>∃ j:Nat,sl = .int .i64 j∧j≤e.u∧Hid (Kb 0 w2 wr∧∀ y,y < j→0≤(e.U y).2∧(e.U y).2 < (if (e.U y).1=true then d.g else (d.u:Int)))) (fun sl _=>e.u - (intOf sl).toNat)
 case atStart=>exact ⟨0,rfl,Nat.zero_le _,(⟨Kb.refl _ _,fun y h=>by omega⟩:_∧_)⟩
 case round =>
  obtain ⟨j,rfl,hj,HX⟩:=hrel;obtain ⟨kw,hX⟩:=(uh HX)
  obtain ⟨k2,e4,e5,hru⟩:=(uh HS)
  have hR:=(uh HR)
  rcases Nat.lt_or_ge j e.u with h | h
  ·have hI:(j:Int) < (e.u:Int):=by omega
   obtain ⟨ku',ke',ee,hru2⟩:=hru;obtain ⟨rfl,-,rfl⟩:ku=ku'∧e.u=e.u∧ke=ke':=by simpa using ee
   obtain ⟨b,rfl,hcb,-,hrb⟩:=hru2 (by omega);obtain ⟨q0,q1⟩:=(hrb j h).keep zq kw;have o4:∀ o,(wr.alloc o).cell? ⟨w.heap.size,4,none⟩=some (.int .i64 d.g):=fun o=>(kw.alloc o).cell e4;have o5:∀ o,(wr.alloc o).cell? ⟨w.heap.size,5,none⟩=some (.slice pu d.u cu):=fun o=>(kw.alloc o).cell e5
   have hgood:(0≤(e.U j).2∧(e.U j).2 < (if (e.U j).1=true then d.g else (d.u:Int)))→∀ o,Kb 0 w2 (wr.alloc o)∧∀ y,y < j+1→0≤(e.U y).2∧(e.U y).2 < (if (e.U y).1=true then d.g else (d.u:Int)):=fun c o=>⟨kw.alloc o,fun y hy=>by
    by_cases ey:y=j
    ·subst ey;exact c
    ·exact hX y (by omega)⟩
   have hbad:¬ (0≤(e.U j).2∧(e.U j).2 < (if (e.U j).1=true then d.g else (d.u:Int)))→R=false∧∀ o,Kb 0 w (wr.alloc o):=fun c=>⟨by rw [hR];exact dc_f (fun q=>c (q j h)),fun o=>(k2.trans kw).alloc o⟩
   clear HX hX kw k2 e4 e5 hru2 hrb ee hR;generalize e.U j=uj at *;obtain ⟨xl,xi⟩:=uj;dsimp only at q0 q1 hgood hbad;cases xl with
   | true =>
    by_cases c1:xi < 0
    ·obtain ⟨hF,hk⟩:=hbad (by rw [if_pos rfl];omega);subst hF;have HK:Hid (∀ o,Kb 0 w (wr.alloc o)):=hk;clear hgood hbad hk HR;go_wp2_with fail;go_ret;exact ⟨rfl,(uh HK) _⟩
    by_cases c2:d.g≤xi
    ·obtain ⟨hF,hk⟩:=hbad (by rw [if_pos rfl];omega);subst hF;have HK:Hid (∀ o,Kb 0 w (wr.alloc o)):=hk;clear hgood hbad hk HR;go_wp2_with fail;go_ret;exact ⟨rfl,(uh HK) _⟩
    have HG:Hid (∀ o,Kb 0 w2 (wr.alloc o)∧∀ y,y < j+1→0≤(e.U y).2∧(e.U y).2 < (if (e.U y).1=true then d.g else (d.u:Int))):=hgood (by rw [if_pos rfl];omega);clear hgood hbad;go_wp2_with fail;go_roundw
    case rel=>exact ⟨j+1,by go_num,by omega,(uh HG) _⟩
    case measure=>simp [intOf];omega
   | false =>
    by_cases c1:xi < 0
    ·obtain ⟨hF,hk⟩:=hbad (by rw [if_neg (by decide)];omega);subst hF;have HK:Hid (∀ o,Kb 0 w (wr.alloc o)):=hk;clear hgood hbad hk HR;go_wp2_with fail;go_ret;exact ⟨rfl,(uh HK) _⟩
    by_cases c2:(d.u:Int)≤xi
    ·obtain ⟨hF,hk⟩:=hbad (by rw [if_neg (by decide)];omega);subst hF;have HK:Hid (∀ o,Kb 0 w (wr.alloc o)):=hk;clear hgood hbad hk HR;go_wp2_with fail;go_ret;exact ⟨rfl,(uh HK) _⟩
    have HG:Hid (∀ o,Kb 0 w2 (wr.alloc o)∧∀ y,y < j+1→0≤(e.U y).2∧(e.U y).2 < (if (e.U y).1=true then d.g else (d.u:Int))):=hgood (by rw [if_neg (by decide)];omega);clear hgood hbad;go_wp2_with fail;go_roundw
    case rel=>exact ⟨j+1,by go_num,by omega,(uh HG) _⟩
    case measure=>simp [intOf];omega
  ·have hI:¬ (j:Int) < (e.u:Int):=by omega
   have hT:R=true:=by rw [hR];exact dc_t (fun y hy=>hX y (by omega))
   subst hT;have HK:Hid (Kb 0 w wr):=k2.trans kw;clear HX hX kw k2 e4 e5 hru hR HR HS;go_wp2_with fail;go_ret;exact ⟨rfl,HK⟩
theorem tMI:Tryz.prog.underlying 125=some (.map 3 3):=by kernel_rfl
theorem t3I:Tryz.prog.underlying 3=some (.int .i64):=by kernel_rfl
def Mi (w:World) (M:Nat) (L:List Int):Prop:=∃ es clock,w.heap[M]? = some (.map es clock)∧es.toList.map (fun e=>e.key)=L.map (fun x=>Value.int .i64 x)∧∀ e ∈ es.toList,∃ p:Int,e.val = .int .i64 p
theorem mi_key {es:Array MapEntry} {L:List Int} (h:es.toList.map (fun e=>e.key)=L.map (fun x=>Value.int .i64 x)):∀ e ∈ es.toList,MapKept.IsKey (.int .i64) e.key:=by
 intro e he;have:e.key ∈ es.toList.map (fun e=>e.key):=List.mem_map.2 ⟨e,he,rfl⟩;rw [h] at this;obtain ⟨y,_,hy⟩:=List.mem_map.1 this;rw [← hy];rfl
theorem mi_mem {es:Array MapEntry} {L:List Int} (h:es.toList.map (fun e=>e.key)=L.map (fun x=>Value.int .i64 x)) (x:Int):(∃ e ∈ es.toList,e.key = .int .i64 x)↔x ∈ L:=by
 have e1:(∃ e ∈ es.toList,e.key = .int .i64 x)↔Value.int .i64 x ∈ es.toList.map (fun e=>e.key):=by simp
 rw [e1,h]
 simp
theorem run_lookI {w:World} {M:Nat} {L:List Int} (h:Mi w M L) (x:Int):∃ p:Int,(Instr.lookup 125 (.map (some M)) (.int .i64 x) true).run Tryz.prog w = .ok (.tuple #[.int .i64 p,.bool (dc (x ∈ L))]) w:=by
 obtain ⟨es,clock,hb,he,hv⟩:=h;have hk:MapKept.IsKey (.int .i64) (.int .i64 x):=rfl;have hc:=MapKept.run_checkKey (w:=w) t3I hk;rcases MapKept.findNow_spec hk es.toList 0 (mi_key he) with ⟨h1,h2⟩ | ⟨j,e,h1,h2,h3⟩
 ·refine ⟨0,?_⟩;have hr:=MapKept.run_findKey (w:=w) t3I h1;rw [dc_f (fun g=>by obtain ⟨e,e1,e2⟩:=(mi_mem he x).2 g;exact h2 e e1 e2)];unfold Instr.lookup;have hz:(zeroValue 3).run Tryz.prog w = .ok (.int .i64 0) w:=by kernel_rfl
  simp only [Sem.run_bind,run_underlying tMI,Result.andThen_ok,MapKept.run_getObj_map hb,Sem.run_pure,hc,hr,hz];rfl
 ·obtain ⟨p,hp⟩:=hv e (List.mem_of_getElem? h2);refine ⟨p,?_⟩;have hr:=MapKept.run_findKey (w:=w) t3I h1;rw [dc_t ((mi_mem he x).1 ⟨e,List.mem_of_getElem? h2,h3⟩)];unfold Instr.lookup;simp only [Sem.run_bind,run_underlying tMI,Result.andThen_ok,MapKept.run_getObj_map hb,Sem.run_pure,hc,hr];rw [hp];rfl
theorem run_lookN (w:World) (x:Int):(Instr.lookup 125 (.map none) (.int .i64 x) true).run Tryz.prog w = .ok (.tuple #[.int .i64 0,.bool false]) w:=by kernel_rfl
theorem run_makeI (w:World):(Instr.makeMap 125 none).run Tryz.prog w = .ok (.map (some w.heap.size)) (w.alloc (.map #[] 0)):=by kernel_rfl
def setB (w:World) (M:Nat) (o:Obj):World:={ w with heap:=w.heap.setIfInBounds M o }
theorem setB_ne (w:World) (M:Nat) (o:Obj) (b:Nat) (h:b ≠ M):(setB w M o).heap[b]? = w.heap[b]?:=by
 unfold setB;show (w.heap.setIfInBounds M o)[b]? = _;rw [Array.getElem?_setIfInBounds,if_neg (fun e=>h e.symm)]
theorem run_updI {w:World} {M:Nat} {L:List Int} (h:Mi w M L) (x t:Int) (hn:x ∉ L):∃ o,(Instr.mapUpdate 125 (.map (some M)) (.int .i64 x) (.int .i64 t)).run Tryz.prog w = .ok () (setB w M o)∧Mi (setB w M o) M (L ++ [x]):=by
 obtain ⟨es,clock,hb,he,hv⟩:=h;have hk:MapKept.IsKey (.int .i64) (.int .i64 x):=rfl;have hc:=MapKept.run_checkKey (w:=w) t3I hk;rcases MapKept.findNow_spec hk es.toList 0 (mi_key he) with ⟨h1,h2⟩ | ⟨j,e,h1,h2,h3⟩
 ·have hr:=MapKept.run_findKey (w:=w) t3I h1;refine ⟨.map (es.push { key:=.int .i64 x,val:=.int .i64 t,born:=clock }) (clock+1),?_,?_⟩
  ·unfold Instr.mapUpdate;simp only [Sem.run_bind,run_underlying tMI,Result.andThen_ok,MapKept.run_getObj_map hb,hc,hr,MapKept.run_setObj_map _ hb];rfl
  ·refine ⟨_,_,(MapKept.heap_set hb).1,?_,?_⟩
   ·simp [he]
   ·intro e hm;simp at hm;rcases hm with hm | rfl
    ·exact hv e (by simpa using hm)
    ·exact ⟨t,rfl⟩
 ·exact absurd ((mi_mem he x).1 ⟨e,List.mem_of_getElem? h2,h3⟩) hn
theorem Mi.on {a w:World} {M:Nat} {L:List Int} (h:Mi a M L) (k:w.heap[M]? = a.heap[M]?):Mi w M L:=by
 obtain ⟨es,clock,hb,he⟩:=h;exact ⟨es,clock,k.trans hb,he⟩
theorem Mi.new (w:World):Mi (w.alloc (.map #[] 0)) w.heap.size []:=⟨#[],0,(MapKept.heap_alloc w _).1,rfl,by simp⟩
def iv (L:List Int):List Value:=L.map (fun x=>Value.int .i64 x)
structure Zt (S o:Nat) (L:List Int) (v m:Value) (W:World):Prop where
 c0:W.cell? ⟨S,o,none⟩=some v
 c1:W.cell? ⟨S,o+1,none⟩=some m
 fz:∀ j,W.frozen? ⟨S,j,none⟩=false
 row:W.ownsRow 0 3 1 v L.length (iv L)
 mp:(L = []∧m = .map none)∨∃ M,m = .map (some M)∧Mi W M L
 ne:v.ownBlock ≠ some S
structure Ks (S o:Nat) (v m v' m':Value) (w w':World):Prop where
 os:w'.os=w.os
 output:w'.output=w.output
 size:w.heap.size≤w'.heap.size
 block:∀ k,k < w.heap.size→k ≠ S→v.ownBlock ≠ some k→m ≠ .map (some k)→w'.heap[k]? = w.heap[k]?
 cells:∀ j,j ≠ o→j ≠ o+1→w'.cell? ⟨S,j,none⟩=w.cell? ⟨S,j,none⟩
 hv:∀ k,v'.ownBlock=some k→v.ownBlock=some k∨w.heap.size≤k
 hm:∀ k,m' = .map (some k)→m = .map (some k)∨w.heap.size≤k
theorem Ks.refl (S o:Nat) (v m:Value) (w:World):Ks S o v m v m w w:=⟨rfl,rfl,Nat.le_refl _,fun _ _ _ _ _=>rfl,fun _ _ _=>rfl,fun _ h=>.inl h,fun _ h=>.inl h⟩
theorem Ks.trans {S o:Nat} {v m v1 m1 v2 m2:Value} {a b c:World} (h:Ks S o v m v1 m1 a b) (k:Ks S o v1 m1 v2 m2 b c):Ks S o v m v2 m2 a c:=by
 have h0:=h.size;refine ⟨k.os.trans h.os,k.output.trans h.output,Nat.le_trans h.size k.size,fun i hi h1 h2 h3=>?_,fun j h1 h2=>(k.cells j h1 h2).trans (h.cells j h1 h2),fun i hi=>?_,fun i hi=>?_⟩
 ·refine (k.block i (by omega) h1 (fun e=>?_) (fun e=>?_)).trans (h.block i hi h1 h2 h3)
  ·rcases h.hv i e with q | q
   ·exact h2 q
   ·omega
  ·rcases h.hm i e with q | q
   ·exact h3 q
   ·omega
 ·rcases k.hv i hi with q | q
  ·exact h.hv i q
  ·exact .inr (by omega)
 ·rcases k.hm i hi with q | q
  ·exact h.hm i q
  ·exact .inr (by omega)
theorem lt_of_obj {W:World} {B:Nat} {o:Obj} (h:W.heap[B]? = some o):B < W.heap.size:=by
 rcases Nat.lt_or_ge B W.heap.size with g | g
 ·exact g
 ·rw [Array.getElem?_eq_none g] at h;cases h
theorem rowBlk {W W':World} {base e size:Nat} {v:Value} {n:Nat} {xs:List Value} (h:W.ownsRow base e size v n xs) (hk:∀ g,v.ownBlock=some g→W'.heap[g]? = W.heap[g]?):W'.ownsRow base e size v n xs:=by
 refine ⟨h.1,?_⟩;rcases h.2 with h | ⟨g,cap,cur,e1,e2,e3,e4⟩
 ·exact .inl h
 ·exact .inr ⟨g,cap,cur,e1,e2,(hk g (by rw [e1];rfl)).trans e3,e4⟩
theorem map_cells {W:World} {M S j:Nat} {L:List Int} {v:Value} (h:Mi W M L) (hc:W.cell? ⟨S,j,none⟩=some v):M ≠ S:=by
 rintro rfl;obtain ⟨es,clock,hb,_⟩:=h;simp [World.cell?,hb] at hc
theorem map_row {W:World} {M g n:Nat} {L:List Int} {v:Value} {xs:List Value} (h:Mi W M L) (hr:W.ownsRow 0 3 1 v n xs) (hg:v.ownBlock=some g):M ≠ g:=by
 rintro rfl;obtain ⟨es,clock,hb,_⟩:=h;rcases hr.2 with ⟨rfl,_⟩ | ⟨g',cap,cur,e1,e2,e3,e4⟩
 ·cases hg
 ·have e:g'=M:=by rw [e1] at hg;simpa [Value.ownBlock] using hg
  subst e;rw [e3] at hb;cases hb
theorem Zt.on {S o:Nat} {L:List Int} {v m:Value} {W W':World} (h:Zt S o L v m W) (k:Kb 0 W W'):Zt S o L v m W':=by
 refine ⟨k.cell h.c0,k.cell h.c1,fun j=>(k.frozen zq (lt_of_cell' h.c0)).trans (h.fz j),rowBlk h.row (fun g e=>k.block g zq (h.row.lt g e).2),?_,h.ne⟩;rcases h.mp with q | ⟨M,e,hM⟩
 ·exact .inl q
 ·obtain ⟨es,clock,hb,he⟩:=hM;exact .inr ⟨M,e,es,clock,(k.block M zq (lt_of_obj hb)).trans hb,he⟩
theorem Zt.shape {S o:Nat} {L:List Int} {v m:Value} {W:World} (h:Zt S o L v m W):∃ (ad:Option Addr) (cap:Nat),v = .slice ad L.length cap:=by
 rcases h.row.2 with ⟨rfl,e⟩ | ⟨g,cap,cur,rfl,_⟩
 ·exact ⟨none,0,by rw [show L.length=0 from e]⟩
 ·exact ⟨_,cap,rfl⟩
theorem Zt.add {S o M : Nat} {L : List Int} {v v' : Value} {x : Int} {W w7 : World} {ob E : Obj} (h : Zt S o L v (.map (some M)) W) (hM : Mi (setB W M ob) M (L ++ [x])) (ho : w7.ownsRow 0 3 1 v' (L.length + 1) (iv L ++ [.int .i64 x])) (hg : ((setB W M ob).alloc E).grownBy w7 v.ownBlock) (hl : ∀ g, v'.ownBlock = some g → v.ownBlock = some g ∨ g = W.heap.size + 1) :
  w7.cell? ⟨S,o,none⟩=some v∧w7.frozen? ⟨S,o,none⟩=false∧Zt S o (L ++ [x]) v' (.map (some M)) (w7.setCell ⟨S,o,none⟩ v')∧Ks S o v (.map (some M)) v' (.map (some M)) W (w7.setCell ⟨S,o,none⟩ v'):=by
 have hMM:Mi W M L:=by
  rcases h.mp with ⟨_,q⟩ | ⟨M',e,hM'⟩
  ·cases q
  ·have:M=M':=by simpa using e
   subst this;exact hM'
 have hMS:M ≠ S:=map_cells hMM h.c0;have hSl:=lt_of_cell' h.c0;have hMl:M < W.heap.size:=by obtain ⟨es,clock,hb,_⟩:=hMM;exact lt_of_obj hb
 have hsz:(setB W M ob).heap.size=W.heap.size:=by unfold setB;simp
 have hSl':S < W.heap.size:=hSl
 have hblk:∀ k,k < W.heap.size→k ≠ M→v.ownBlock ≠ some k→w7.heap[k]? = W.heap[k]?:=fun k hk hkM hne=>by
  rw [hg.block k (by rw [World.size_alloc,hsz];omega) (fun e=>hne e.symm),Below.heap_alloc _ _ _ (by rw [hsz];omega)];exact setB_ne _ _ _ _ hkM
 have hS7:w7.heap[S]? = W.heap[S]?:=hblk S hSl' (fun e=>hMS e.symm) h.ne
 have hv'S:∀ g,v'.ownBlock=some g→g ≠ S:=fun g e=>by
  rcases hl g e with q | q
  ·rintro rfl;exact h.ne q
  ·omega
 have hM7:w7.heap[M]? = (setB W M ob).heap[M]?:=by
  rw [hg.block M (by rw [World.size_alloc,hsz];omega) (fun e=>map_row hMM h.row e.symm rfl),Below.heap_alloc _ _ _ (by rw [hsz];omega)]
 have hse:∀ k,k ≠ S→(w7.setCell ⟨S,o,none⟩ v').heap[k]? = w7.heap[k]?:=fun k hne=>Below.heap_setCell w7 _ _ _ hne;have hc7:w7.cell? ⟨S,o,none⟩=some v:=(World.cell?_of_block hS7).trans h.c0;have hf7:∀ j,w7.frozen? ⟨S,j,none⟩=false:=fun j=>(World.frozen?_of_block hS7).trans (h.fz j);have hgs:=hg.size;rw [World.size_alloc,hsz] at hgs;refine ⟨hc7,hf7 o,⟨set_eq _ _ _ _ _ hc7,?_,fun j=>(set_fz _ _ _ _ _).trans (hf7 j),?_,.inr ⟨M,rfl,hM.on ((hse M hMS).trans hM7)⟩,fun e=>hv'S S e rfl⟩,⟨?_,?_,by rw [World.size_setCell];omega,fun k hk h1 h2 h3=>?_,fun j h1 h2=>?_,fun k hk=>?_,fun k hk=>.inl hk⟩⟩
 ·rw [set_ne _ _ _ _ _ (by omega)];exact (World.cell?_of_block hS7).trans h.c1
 ·rw [List.length_append];refine rowBlk (W:=w7) ?_ (fun g e=>hse g (hv'S g e));unfold iv at ho ⊢
  simpa using ho
 ·exact hg.os
 ·exact hg.output
 ·rw [hse k h1];exact hblk k hk (fun e=>h3 (by rw [e])) h2
 ·rw [set_ne _ _ _ _ _ h1];exact World.cell?_of_block hS7
 ·rcases hl k hk with q | q
  ·exact .inl q
  ·exact .inr (by omega)
theorem infoI:(Tryz.prog.info? 3).map (fun i=>(i.zero,i.size,i.bytes))=some (some (.int .i64 0),1,8):=by kernel_rfl
theorem im_has {S o:Nat} {L:List Int} {v m:Value} (x:Int) (w:World) (h:Zt S o L v m w):Calls Tryz.prog 123 #[.pointer (some ⟨S,o,none⟩),.int .i64 x] w fun e w'=>e = .returned (.bool (dc (x ∈ L)))∧w'=w:=by
 have c1:=h.c1
 obtain ⟨p,hl⟩:∃ p:Int,(Instr.lookup 125 m (.int .i64 x) true).run Tryz.prog w = .ok (.tuple #[.int .i64 p,.bool (dc (x ∈ L))]) w:=by
  rcases h.mp with ⟨rfl,rfl⟩ | ⟨M,rfl,hM⟩
  ·rw [dc_f (by simp)];exact ⟨0,run_lookN w x⟩
  ·exact run_lookI hM x
 have hmv:∃ b,m = .map b:=by
  rcases h.mp with ⟨rfl,rfl⟩ | ⟨M,rfl,hM⟩ <;> exact ⟨_,rfl⟩
 obtain ⟨b,rfl⟩:=hmv;clear h;generalize dc (x ∈ L)=z at *;go_enter Tryz.func123,Tryz.ntmps123;go_wp2_with fail;go_ret;exact ⟨rfl,rfl⟩
