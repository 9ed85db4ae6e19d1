import Derived.Test.YtohbcpfjjimdnaaGreatDoorMCba
set_option maxHeartbeats 32000000
namespace Go.Proofs.YtohbcpfjjimdnaaGreatDoor.Fo
open Go.ChangeShapes Go.WideShapes Go.ChangeAt Go.RowKit
set_option linter.unusedVariables false
set_option maxRecDepth 100000
variable {i n ca np B cu cc cn cm:Nat}{va:Value}{A:Addr}{pa pu pc pn pm:Option Addr}{s:Nat->Nat}{d:Pd}
def sm (s:Nat->Nat):Nat->Nat
 |0=>0
 |i+1=>sm s i+s i
theorem sm_mono(s:Nat->Nat)(h:i<=n):sm s i<=sm s n:=by
  induction n with
  | zero => obtain rfl : i = 0 := by omega
            exact Nat.le_refl _
  |succ n ih=>
    by_cases e:i=n+1
    · subst e;exact Nat.le_refl _
    · have:=ih (by omega);show _<=sm s n+s n;omega
theorem sm_one(s:Nat->Nat)(h:i<n):s i<=sm s n:=by
 have:=sm_mono s (show i+1<=n from h);have e:sm s (i+1)=sm s i+s i:=rfl;omega
def Szd(s:Nat)(l:Int)(W:World):Ending->World->Prop:=λe w'=>∃r:Int,e=.returned (.int .i64 r)/\(0<=r->r+(s:Int)<=l)/\-1<=r/\r<=l/\Kb 0 W w'
theorem szd_ups{A:Nat->Bool×Int}(w:World)(l:Int)(ha:RowU 0 w va n A)(hn:(n:Int)<140737488355328)(hl0:0<=l)(hl:l<=1048576):
  Calls Tryz.prog 55 #[va,.int .i64 l] w (Szd n l w):=by
 obtain⟨pa,ca,rfl,-⟩:=ha;go_enter Tryz.func55,Tryz.ntmps55;rcases Int.lt_or_le (l-n) 0 with h|h
 ·go_wp2_with fail;go_ret;exact⟨-1,rfl,by omega,by omega,by omega,Kb.refl _ _⟩
 ·have h':¬(l-n<0):=by omega
  go_wp2_with fail;go_ret;exact⟨_,rfl,by omega,by omega,by omega,Kb.refl _ _⟩
theorem szd_inss{A:Nat->Iv}(w:World)(l:Int)(ha:RowI 0 w va n A)(hn:(n:Int)<140737488355328)(hl0:0<=l)(hl:l<=1048576):
  Calls Tryz.prog 57 #[va,.int .i64 l] w (Szd n l w):=by
 obtain⟨pa,ca,rfl,-⟩:=ha;go_enter Tryz.func57,Tryz.ntmps57;rcases Int.lt_or_le (l-n) 0 with h|h
 ·go_wp2_with fail;go_ret;exact⟨-1,rfl,by omega,by omega,by omega,Kb.refl _ _⟩
 ·have h':¬(l-n<0):=by omega
  go_wp2_with fail;go_ret;exact⟨_,rfl,by omega,by omega,by omega,Kb.refl _ _⟩
theorem sz_valu{a:Vv}(w:World)(l:Int)(hx:(a.x.size:Int)<140737488355328)(hl0:0<=l)(hl:l<=1048576):
  Calls Tryz.prog 96 #[valv a,.int .i64 l] w (Szd a.x.size l w):=by
 unfold valv;have hs0:(0:Int)<=(a.x.size:Int):=Int.natCast_nonneg _;generalize hX:a.x.size=X at*;go_enter Tryz.func96,Tryz.ntmps96;rcases Int.lt_or_le (l-(X:Int)) 0 with c|c
 ·go_wp2_with fail;go_ret;exact⟨-1,rfl,λh=>by omega,by omega,by omega,kb_alloc _ _ _⟩
 ·have c':¬(l-(X:Int)<0):=by omega
  go_wp2_with fail;go_ret;exact⟨l-(X:Int),rfl,λh=>by omega,by omega,by omega,kb_alloc _ _ _⟩
theorem sz_name{a:Mv}(w:World)(l:Int)(hx:(a.x.size:Int)<140737488355328)(hl0:0<=l)(hl:l<=1048576):
  Calls Tryz.prog 97 #[namv a,.int .i64 l] w (Szd a.x.size l w):=by
 unfold namv;have hs0:(0:Int)<=(a.x.size:Int):=Int.natCast_nonneg _;generalize hX:a.x.size=X at*;go_enter Tryz.func97,Tryz.ntmps97;rcases Int.lt_or_le (l-(X:Int)) 0 with c|c
 ·go_wp2_with fail;go_ret;exact⟨-1,rfl,λh=>by omega,by omega,by omega,kb_alloc _ _ _⟩
 ·have c':¬(l-(X:Int)<0):=by omega
  go_wp2_with fail;go_ret;exact⟨l-(X:Int),rfl,λh=>by omega,by omega,by omega,kb_alloc _ _ _⟩
theorem szr_vals{C:Nat->Vv}(w:World)(l:Int)(hn:(n:Int)<140737488355328)
  (ha:0<n->∃a:Addr,pa=some a/\n<=ca/\∀i,i<n->CelV w (a.add (i*5)) (C i))
  (he:∀i,i<n->∀W (l:Int),Kb 0 w W->0<=l->l<=1048576->Calls Tryz.prog 96 #[valv (C i),.int .i64 l] W (Szd (s i) l W)) (hl0:0<=l) (hl:l<=1048576):
  Calls Tryz.prog 56 #[.slice pa n ca,.int .i64 l] w (Szd (n+sm s n) l w):=by
 have HA:Hid ((0<n->∃a:Addr,pa=some a/\n<=ca/\∀i,i<n->CelV w (a.add (i*5)) (C i))/\∀i,i<n->∀W (l:Int),Kb 0 w W->0<=l->l<=1048576->Calls Tryz.prog 96 #[valv (C i),.int .i64 l] W (Szd (s i) l W)):=(⟨ha,he⟩:_/\_)
 clear ha he;go_enter Tryz.func56,Tryz.ntmps56;rcases Int.lt_or_le (l-n) 0 with h|h
 ·clear HA;go_wp2_with fail;go_ret;exact⟨-1,rfl,λf=>by omega,by omega,by omega,Kb.refl _ _⟩
 ·have h':¬(l-n<0):=by omega
  go_wp2_with fail
  go_loopw [1,5] (λs1 s5 wr=>∃(i:Nat) (x:Int),s1=.int .i64 x/\s5=.int .i64 i/\i<=n/\0<=x/\x<=l/\Hid (x+(n:Int)+(sm s i:Int)<=l/\Kb 0 w wr)) (λ_ s5 _=>n-(intOf s5).toNat)
  case atStart=>exact⟨0,l-n,rfl,rfl,Nat.zero_le _,by omega,by omega,(⟨by show l-n+n+((0:Nat):Int)<=l;omega,Kb.refl _ _⟩:_/\_)⟩
  case round=>
   obtain⟨i,x,rfl,rfl,hin,hx0,hx1,HX⟩:=hrel;rcases Nat.lt_or_ge i n with hi|hi
   ·have hA:=(uh HA)
    have hX:=(uh HX)
    obtain⟨a,rfl,hca,hra⟩:=hA.1 (by omega);obtain⟨d0,d1,d2,d3,d4⟩:=(hra i hi).keep zq hX.2;have HS:Hid (Calls Tryz.prog 96 #[valv (C i),.int .i64 x] wr (Szd (s i) x wr)):=hA.2 i hi wr x hX.2 hx0 (by omega);have hiI:(i:Int)<(n:Int):=by omega
    clear hA hX hra HA hin;go_wp2_with fail;refine(uh HS).mono ?_;rintro e w6 ⟨r,rfl,hs,hm1,hr1,hb6⟩;have hX:=(uh HX)
    have HB6:Hid ((0<=r->r+(n:Int)+(sm s (i+1):Int)<=l)/\Kb 0 w w6):=(⟨λh=>by
     have:=hs h;have:=hX.1;show r+(n:Int)+((sm s i+s i:Nat):Int)<=l
     omega,hX.2.trans hb6⟩:_/\_)
    clear HS HX hX hb6 hs d0 d1 d2 d3 d4;rcases Int.lt_or_le r 0 with hr0|hr0
    ·go_wp2_with fail;go_ret;exact⟨-1,rfl,λf=>by omega,by omega,by omega,HB6.2⟩
    ·have hr0':¬(r<0):=by omega
     have hr2:r<=l:=by omega
     have hnI:(n:Int)<=1048576:=by omega
     clear hn h h' hm1 hx0 hx1 hr1;go_wp2_with fail;go_roundw
     case rel=>exact⟨i+1,r,rfl,by go_num,by omega,hr0,hr2,(⟨HB6.1 hr0,HB6.2⟩:_/\_)⟩
     case measure=>simp[intOf];omega
   ·obtain rfl:i=n:=by omega
    clear HA;go_wp2_with fail;go_ret;have hX:=(uh HX)
    exact⟨x,rfl,λ_=>by have:=hX.1;omega,by omega,hx1,hX.2⟩
theorem szr_nams{D:Nat->Mv}(w:World)(l:Int)(hn:(n:Int)<140737488355328)
  (ha:0<n->∃a:Addr,pa=some a/\n<=ca/\∀i,i<n->CelM w (a.add (i*4)) (D i))
  (he:∀i,i<n->∀W (l:Int),Kb 0 w W->0<=l->l<=1048576->Calls Tryz.prog 97 #[namv (D i),.int .i64 l] W (Szd (s i) l W)) (hl0:0<=l) (hl:l<=1048576):
  Calls Tryz.prog 58 #[.slice pa n ca,.int .i64 l] w (Szd (n+sm s n) l w):=by
 have HA:Hid ((0<n->∃a:Addr,pa=some a/\n<=ca/\∀i,i<n->CelM w (a.add (i*4)) (D i))/\∀i,i<n->∀W (l:Int),Kb 0 w W->0<=l->l<=1048576->Calls Tryz.prog 97 #[namv (D i),.int .i64 l] W (Szd (s i) l W)):=(⟨ha,he⟩:_/\_)
 clear ha he;go_enter Tryz.func58,Tryz.ntmps58;rcases Int.lt_or_le (l-n) 0 with h|h
 ·clear HA;go_wp2_with fail;go_ret;exact⟨-1,rfl,λf=>by omega,by omega,by omega,Kb.refl _ _⟩
 ·have h':¬(l-n<0):=by omega
  go_wp2_with fail
  go_loopw [1,5] (λs1 s5 wr=>∃(i:Nat) (x:Int),s1=.int .i64 x/\s5=.int .i64 i/\i<=n/\0<=x/\x<=l/\Hid (x+(n:Int)+(sm s i:Int)<=l/\Kb 0 w wr)) (λ_ s5 _=>n-(intOf s5).toNat)
  case atStart=>exact⟨0,l-n,rfl,rfl,Nat.zero_le _,by omega,by omega,(⟨by show l-n+n+((0:Nat):Int)<=l;omega,Kb.refl _ _⟩:_/\_)⟩
  case round=>
   obtain⟨i,x,rfl,rfl,hin,hx0,hx1,HX⟩:=hrel;rcases Nat.lt_or_ge i n with hi|hi
   ·have hA:=(uh HA)
    have hX:=(uh HX)
    obtain⟨a,rfl,hca,hra⟩:=hA.1 (by omega);obtain⟨d0,d1,d2,d3⟩:=(hra i hi).keep zq hX.2;have HS:Hid (Calls Tryz.prog 97 #[namv (D i),.int .i64 x] wr (Szd (s i) x wr)):=hA.2 i hi wr x hX.2 hx0 (by omega);have hiI:(i:Int)<(n:Int):=by omega
    clear hA hX hra HA hin;go_wp2_with fail;refine(uh HS).mono ?_;rintro e w6 ⟨r,rfl,hs,hm1,hr1,hb6⟩;have hX:=(uh HX)
    have HB6:Hid ((0<=r->r+(n:Int)+(sm s (i+1):Int)<=l)/\Kb 0 w w6):=(⟨λh=>by
     have:=hs h;have:=hX.1;show r+(n:Int)+((sm s i+s i:Nat):Int)<=l
     omega,hX.2.trans hb6⟩:_/\_)
    clear HS HX hX hb6 hs d0 d1 d2 d3;rcases Int.lt_or_le r 0 with hr0|hr0
    ·go_wp2_with fail;go_ret;exact⟨-1,rfl,λf=>by omega,by omega,by omega,HB6.2⟩
    ·have hr0':¬(r<0):=by omega
     have hr2:r<=l:=by omega
     have hnI:(n:Int)<=1048576:=by omega
     clear hn h h' hm1 hx0 hx1 hr1;go_wp2_with fail;go_roundw
     case rel=>exact⟨i+1,r,rfl,by go_num,by omega,hr0,hr2,(⟨HB6.1 hr0,HB6.2⟩:_/\_)⟩
     case measure=>simp[intOf];omega
   ·obtain rfl:i=n:=by omega
    clear HA;go_wp2_with fail;go_ret;have hX:=(uh HX)
    exact⟨x,rfl,λ_=>by have:=hX.1;omega,by omega,hx1,hX.2⟩
theorem szd_vals{A:Nat->Vv}(w:World)(l:Int)(ha:RowW 0 w va n A)(hn:(n:Int)<140737488355328)(hA:∀i,i<n->((A i).x.size:Int)<140737488355328)(hl0:0<=l)(hl:l<=1048576):
  Calls Tryz.prog 56 #[va,.int .i64 l] w (Szd (n+sm (λi=>(A i).x.size) n) l w):=by
 obtain⟨pa,ca,rfl,ha2⟩:=ha;refine szr_vals w l hn (λh0=>?_) (λi hi W l k l0 l1=>sz_valu W l (hA i hi) l0 l1) hl0 hl;obtain⟨a,e1,e2,-,e3⟩:=ha2 h0;exact⟨a,e1,e2,e3⟩
theorem szd_nams{A:Nat->Mv}(w:World)(l:Int)(ha:RowM 0 w va n A)(hn:(n:Int)<140737488355328)(hA:∀i,i<n->((A i).x.size:Int)<140737488355328)(hl0:0<=l)(hl:l<=1048576):
  Calls Tryz.prog 58 #[va,.int .i64 l] w (Szd (n+sm (λi=>(A i).x.size) n) l w):=by
 obtain⟨pa,ca,rfl,ha2⟩:=ha;refine szr_nams w l hn (λh0=>?_) (λi hi W l k l0 l1=>sz_name W l (hA i hi) l0 l1) hl0 hl;obtain⟨a,e1,e2,-,e3⟩:=ha2 h0;exact⟨a,e1,e2,e3⟩
theorem sz_pro{f:Pd}{vu vc vn vd:Value}{p q t o:Nat}(w:World)(l:Int)(hx:(f.x.size:Int)<140737488355328)
  (g0:∀W (l:Int),Kb 0 w W->0<=l->l<=1048576->Calls Tryz.prog 55 #[vu,.int .i64 l] W (Szd p l W))
  (g1:∀W (l:Int),Kb 0 w W->0<=l->l<=1048576->Calls Tryz.prog 56 #[vc,.int .i64 l] W (Szd q l W))
  (g2:∀W (l:Int),Kb 0 w W->0<=l->l<=1048576->Calls Tryz.prog 57 #[vn,.int .i64 l] W (Szd t l W))
  (g3:∀W (l:Int),Kb 0 w W->0<=l->l<=1048576->Calls Tryz.prog 58 #[vd,.int .i64 l] W (Szd o l W)) (hl0:0<=l) (hl:l<=1048576):
  Calls Tryz.prog 29 #[prov f vu vc vn vd,.int .i64 l] w (Szd (f.x.size+p+q+t+o) l w):=by
 unfold prov;have G0:Hid (∀W (l:Int),Kb 0 w W->0<=l->l<=1048576->Calls Tryz.prog 55 #[vu,.int .i64 l] W (Szd p l W)):=g0;have G1:Hid (∀W (l:Int),Kb 0 w W->0<=l->l<=1048576->Calls Tryz.prog 56 #[vc,.int .i64 l] W (Szd q l W)):=g1;have G2:Hid (∀W (l:Int),Kb 0 w W->0<=l->l<=1048576->Calls Tryz.prog 57 #[vn,.int .i64 l] W (Szd t l W)):=g2;have G3:Hid (∀W (l:Int),Kb 0 w W->0<=l->l<=1048576->Calls Tryz.prog 58 #[vd,.int .i64 l] W (Szd o l W)):=g3;clear g0 g1 g2 g3;have hs0:(0:Int)<=(f.x.size:Int):=Int.natCast_nonneg _;generalize hX:f.x.size=X at*;go_enter Tryz.func29,Tryz.ntmps29;rcases Int.lt_or_le (l-(X:Int)) 0 with c|c
 ·clear G0 G1 G2 G3;go_wp2_with fail;go_ret;exact⟨-1,rfl,λh=>by omega,by omega,by omega,kb_alloc _ _ _⟩
 ·have c':¬(l-(X:Int)<0):=by omega
  go_wp2_with fail;refine((show ∀W (l:Int),Kb 0 w W->0<=l->l<=1048576->Calls Tryz.prog 55 #[vu,.int .i64 l] W (Szd p l W)from G0) _ _ (kb_alloc _ _ _) c (by omega)).mono ?_;rintro e w1 ⟨r0,rfl,s0,m0,t0,k0⟩;have HK0:Hid (Kb 0 w w1):=(kb_alloc _ _ _).trans k0;have d0_0:w1.cell? ⟨w.heap.size,0,none⟩=some (.string f.x):=k0.cell (cell_of (alloc_new w #[.string f.x,.int .i64 f.l,.int .i64 f.m,.bool f.r,.int .i64 f.g,vu,vc,vn,vd] _) rfl);have d0_1:w1.cell? ⟨w.heap.size,1,none⟩=some (.int .i64 f.l):=k0.cell (cell_of (alloc_new w #[.string f.x,.int .i64 f.l,.int .i64 f.m,.bool f.r,.int .i64 f.g,vu,vc,vn,vd] _) rfl);have d0_2:w1.cell? ⟨w.heap.size,2,none⟩=some (.int .i64 f.m):=k0.cell (cell_of (alloc_new w #[.string f.x,.int .i64 f.l,.int .i64 f.m,.bool f.r,.int .i64 f.g,vu,vc,vn,vd] _) rfl);have d0_3:w1.cell? ⟨w.heap.size,3,none⟩=some (.bool f.r):=k0.cell (cell_of (alloc_new w #[.string f.x,.int .i64 f.l,.int .i64 f.m,.bool f.r,.int .i64 f.g,vu,vc,vn,vd] _) rfl);have d0_4:w1.cell? ⟨w.heap.size,4,none⟩=some (.int .i64 f.g):=k0.cell (cell_of (alloc_new w #[.string f.x,.int .i64 f.l,.int .i64 f.m,.bool f.r,.int .i64 f.g,vu,vc,vn,vd] _) rfl);have d0_5:w1.cell? ⟨w.heap.size,5,none⟩=some (vu):=k0.cell (cell_of (alloc_new w #[.string f.x,.int .i64 f.l,.int .i64 f.m,.bool f.r,.int .i64 f.g,vu,vc,vn,vd] _) rfl);have d0_6:w1.cell? ⟨w.heap.size,6,none⟩=some (vc):=k0.cell (cell_of (alloc_new w #[.string f.x,.int .i64 f.l,.int .i64 f.m,.bool f.r,.int .i64 f.g,vu,vc,vn,vd] _) rfl);have d0_7:w1.cell? ⟨w.heap.size,7,none⟩=some (vn):=k0.cell (cell_of (alloc_new w #[.string f.x,.int .i64 f.l,.int .i64 f.m,.bool f.r,.int .i64 f.g,vu,vc,vn,vd] _) rfl);have d0_8:w1.cell? ⟨w.heap.size,8,none⟩=some (vd):=k0.cell (cell_of (alloc_new w #[.string f.x,.int .i64 f.l,.int .i64 f.m,.bool f.r,.int .i64 f.g,vu,vc,vn,vd] _) rfl);have HS0:Hid ((0<=r0->r0+(p:Int)<=l-(X:Int))/\-1<=r0/\r0<=l-(X:Int)/\0<=l/\l<=1048576/\0<=l-(X:Int)/\0<=(X:Int)):=(⟨s0,m0,t0,hl0,hl,c,hs0⟩:_/\_)
  clear k0 s0 m0 t0 G0 hl0 hl c c' hs0 hx hX;rcases Int.lt_or_le r0 0 with c0|c0
  ·clear G1 G2 G3;go_wp2_with fail;go_ret;obtain⟨q0a,q0b,q0c,q0d⟩:=(uh HS0)
   exact⟨-1,rfl,λh=>by omega,by omega,by omega,HK0⟩
  ·have c0':¬(r0<0):=by omega
   go_wp2_with fail;refine((show ∀W (l:Int),Kb 0 w W->0<=l->l<=1048576->Calls Tryz.prog 56 #[vc,.int .i64 l] W (Szd q l W)from G1) _ r0 HK0 c0 (by obtain⟨q0a,q0b,q0c,q0d⟩:=(uh HS0);omega)).mono ?_;rintro e w2 ⟨r1,rfl,s1,m1,t1,k1⟩;have HK1:Hid (Kb 0 w w2):=(uh HK0).trans k1;have d1_0:w2.cell? ⟨w.heap.size,0,none⟩=some (.string f.x):=k1.cell (d0_0);have d1_1:w2.cell? ⟨w.heap.size,1,none⟩=some (.int .i64 f.l):=k1.cell (d0_1);have d1_2:w2.cell? ⟨w.heap.size,2,none⟩=some (.int .i64 f.m):=k1.cell (d0_2);have d1_3:w2.cell? ⟨w.heap.size,3,none⟩=some (.bool f.r):=k1.cell (d0_3);have d1_4:w2.cell? ⟨w.heap.size,4,none⟩=some (.int .i64 f.g):=k1.cell (d0_4);have d1_5:w2.cell? ⟨w.heap.size,5,none⟩=some (vu):=k1.cell (d0_5);have d1_6:w2.cell? ⟨w.heap.size,6,none⟩=some (vc):=k1.cell (d0_6);have d1_7:w2.cell? ⟨w.heap.size,7,none⟩=some (vn):=k1.cell (d0_7);have d1_8:w2.cell? ⟨w.heap.size,8,none⟩=some (vd):=k1.cell (d0_8);clear d0_0 d0_1 d0_2 d0_3 d0_4 d0_5 d0_6 d0_7 d0_8;have HS1:Hid ((0<=r1->r1+(q:Int)<=r0)/\-1<=r1/\r1<=r0/\0<=r0):=(⟨s1,m1,t1,c0⟩:_/\_)
   clear k1 s1 m1 t1 G1 HK0 c0 c0';rcases Int.lt_or_le r1 0 with c1|c1
   ·clear G2 G3;go_wp2_with fail;go_ret;obtain⟨q0a,q0b,q0c,q0d⟩:=(uh HS0);obtain⟨q1a,q1b,q1c,q1d⟩:=(uh HS1)
    exact⟨-1,rfl,λh=>by omega,by omega,by omega,HK1⟩
   ·have c1':¬(r1<0):=by omega
    go_wp2_with fail;refine((show ∀W (l:Int),Kb 0 w W->0<=l->l<=1048576->Calls Tryz.prog 57 #[vn,.int .i64 l] W (Szd t l W)from G2) _ r1 HK1 c1 (by obtain⟨q0a,q0b,q0c,q0d⟩:=(uh HS0);obtain⟨q1a,q1b,q1c,q1d⟩:=(uh HS1);omega)).mono ?_;rintro e w3 ⟨r2,rfl,s2,m2,t2,k2⟩;have HK2:Hid (Kb 0 w w3):=(uh HK1).trans k2;have d2_0:w3.cell? ⟨w.heap.size,0,none⟩=some (.string f.x):=k2.cell (d1_0);have d2_1:w3.cell? ⟨w.heap.size,1,none⟩=some (.int .i64 f.l):=k2.cell (d1_1);have d2_2:w3.cell? ⟨w.heap.size,2,none⟩=some (.int .i64 f.m):=k2.cell (d1_2);have d2_3:w3.cell? ⟨w.heap.size,3,none⟩=some (.bool f.r):=k2.cell (d1_3);have d2_4:w3.cell? ⟨w.heap.size,4,none⟩=some (.int .i64 f.g):=k2.cell (d1_4);have d2_5:w3.cell? ⟨w.heap.size,5,none⟩=some (vu):=k2.cell (d1_5);have d2_6:w3.cell? ⟨w.heap.size,6,none⟩=some (vc):=k2.cell (d1_6);have d2_7:w3.cell? ⟨w.heap.size,7,none⟩=some (vn):=k2.cell (d1_7);have d2_8:w3.cell? ⟨w.heap.size,8,none⟩=some (vd):=k2.cell (d1_8);clear d1_0 d1_1 d1_2 d1_3 d1_4 d1_5 d1_6 d1_7 d1_8;have HS2:Hid ((0<=r2->r2+(t:Int)<=r1)/\-1<=r2/\r2<=r1/\0<=r1):=(⟨s2,m2,t2,c1⟩:_/\_)
    clear k2 s2 m2 t2 G2 HK1 c1 c1';rcases Int.lt_or_le r2 0 with c2|c2
    ·clear G3;go_wp2_with fail;go_ret;obtain⟨q0a,q0b,q0c,q0d⟩:=(uh HS0);obtain⟨q1a,q1b,q1c,q1d⟩:=(uh HS1);obtain⟨q2a,q2b,q2c,q2d⟩:=(uh HS2)
     exact⟨-1,rfl,λh=>by omega,by omega,by omega,HK2⟩
    ·have c2':¬(r2<0):=by omega
     go_wp2_with fail;refine((show ∀W (l:Int),Kb 0 w W->0<=l->l<=1048576->Calls Tryz.prog 58 #[vd,.int .i64 l] W (Szd o l W)from G3) _ r2 HK2 c2 (by obtain⟨q0a,q0b,q0c,q0d⟩:=(uh HS0);obtain⟨q1a,q1b,q1c,q1d⟩:=(uh HS1);obtain⟨q2a,q2b,q2c,q2d⟩:=(uh HS2);omega)).mono ?_;rintro e w4 ⟨r3,rfl,s3,m3,t3,k3⟩;have HK3:Hid (Kb 0 w w4):=(uh HK2).trans k3;have d3_0:w4.cell? ⟨w.heap.size,0,none⟩=some (.string f.x):=k3.cell (d2_0);have d3_1:w4.cell? ⟨w.heap.size,1,none⟩=some (.int .i64 f.l):=k3.cell (d2_1);have d3_2:w4.cell? ⟨w.heap.size,2,none⟩=some (.int .i64 f.m):=k3.cell (d2_2);have d3_3:w4.cell? ⟨w.heap.size,3,none⟩=some (.bool f.r):=k3.cell (d2_3);have d3_4:w4.cell? ⟨w.heap.size,4,none⟩=some (.int .i64 f.g):=k3.cell (d2_4);have d3_5:w4.cell? ⟨w.heap.size,5,none⟩=some (vu):=k3.cell (d2_5);have d3_6:w4.cell? ⟨w.heap.size,6,none⟩=some (vc):=k3.cell (d2_6);have d3_7:w4.cell? ⟨w.heap.size,7,none⟩=some (vn):=k3.cell (d2_7);have d3_8:w4.cell? ⟨w.heap.size,8,none⟩=some (vd):=k3.cell (d2_8);clear d2_0 d2_1 d2_2 d2_3 d2_4 d2_5 d2_6 d2_7 d2_8;have HS3:Hid ((0<=r3->r3+(o:Int)<=r2)/\-1<=r3/\r3<=r2/\0<=r2):=(⟨s3,m3,t3,c2⟩:_/\_)
     clear k3 s3 m3 t3 G3 HK2 c2 c2';rcases Int.lt_or_le r3 0 with c3|c3
     ·skip
      go_wp2_with fail;go_ret;obtain⟨q0a,q0b,q0c,q0d⟩:=(uh HS0);obtain⟨q1a,q1b,q1c,q1d⟩:=(uh HS1);obtain⟨q2a,q2b,q2c,q2d⟩:=(uh HS2);obtain⟨q3a,q3b,q3c,q3d⟩:=(uh HS3)
      exact⟨-1,rfl,λh=>by omega,by omega,by omega,HK3⟩
     ·have c3':¬(r3<0):=by omega
      go_wp2_with fail;go_ret;obtain⟨q0a,q0b,q0c,q0d⟩:=(uh HS0);obtain⟨q1a,q1b,q1c,q1d⟩:=(uh HS1);obtain⟨q2a,q2b,q2c,q2d⟩:=(uh HS2);obtain⟨q3a,q3b,q3c,q3d⟩:=(uh HS3)
      exact⟨r3,rfl,λh=>by have:=q0a (by omega);have:=q1a (by omega);have:=q2a (by omega);have:=q3a (by omega);omega,by omega,by omega,HK3⟩
theorem szr_pros{F:Nat->Pd}{vu vc vn vd:Nat->Value}(w:World)(l:Int)(hn:(n:Int)<140737488355328)
  (ha:0<n->∃a:Addr,pa=some a/\n<=ca/\∀i,i<n->CelP w (a.add (i*9)) (F i) (vu i) (vc i) (vn i) (vd i))
  (he:∀i,i<n->∀W (l:Int),Kb 0 w W->0<=l->l<=1048576->Calls Tryz.prog 29 #[prov (F i) (vu i) (vc i) (vn i) (vd i),.int .i64 l] W (Szd (s i) l W)) (hl0:0<=l) (hl:l<=1048576):
  Calls Tryz.prog 13 #[.slice pa n ca,.int .i64 l] w (Szd (n+sm s n) l w):=by
 have HA:Hid ((0<n->∃a:Addr,pa=some a/\n<=ca/\∀i,i<n->CelP w (a.add (i*9)) (F i) (vu i) (vc i) (vn i) (vd i))/\∀i,i<n->∀W (l:Int),Kb 0 w W->0<=l->l<=1048576->Calls Tryz.prog 29 #[prov (F i) (vu i) (vc i) (vn i) (vd i),.int .i64 l] W (Szd (s i) l W)):=(⟨ha,he⟩:_/\_)
 clear ha he;go_enter Tryz.func13,Tryz.ntmps13;rcases Int.lt_or_le (l-n) 0 with h|h
 ·clear HA;go_wp2_with fail;go_ret;exact⟨-1,rfl,λf=>by omega,by omega,by omega,Kb.refl _ _⟩
 ·have h':¬(l-n<0):=by omega
  go_wp2_with fail
  go_loopw [1,5] (λs1 s5 wr=>∃(i:Nat) (x:Int),s1=.int .i64 x/\s5=.int .i64 i/\i<=n/\0<=x/\x<=l/\Hid (x+(n:Int)+(sm s i:Int)<=l/\Kb 0 w wr)) (λ_ s5 _=>n-(intOf s5).toNat)
  case atStart=>exact⟨0,l-n,rfl,rfl,Nat.zero_le _,by omega,by omega,(⟨by show l-n+n+((0:Nat):Int)<=l;omega,Kb.refl _ _⟩:_/\_)⟩
  case round=>
   obtain⟨i,x,rfl,rfl,hin,hx0,hx1,HX⟩:=hrel;rcases Nat.lt_or_ge i n with hi|hi
   ·have hA:=(uh HA)
    have hX:=(uh HX)
    obtain⟨a,rfl,hca,hra⟩:=hA.1 (by omega);obtain⟨d0,d1,d2,d3,d4,d5,d6,d7,d8⟩:=(hra i hi).keep zq hX.2;have HS:Hid (Calls Tryz.prog 29 #[prov (F i) (vu i) (vc i) (vn i) (vd i),.int .i64 x] wr (Szd (s i) x wr)):=hA.2 i hi wr x hX.2 hx0 (by omega);have hiI:(i:Int)<(n:Int):=by omega
    clear hA hX hra HA hin;go_wp2_with fail;refine(uh HS).mono ?_;rintro e w6 ⟨r,rfl,hs,hm1,hr1,hb6⟩;have hX:=(uh HX)
    have HB6:Hid ((0<=r->r+(n:Int)+(sm s (i+1):Int)<=l)/\Kb 0 w w6):=(⟨λh=>by
     have:=hs h;have:=hX.1;show r+(n:Int)+((sm s i+s i:Nat):Int)<=l
     omega,hX.2.trans hb6⟩:_/\_)
    clear HS HX hX hb6 hs d0 d1 d2 d3 d4 d5 d6 d7 d8;rcases Int.lt_or_le r 0 with hr0|hr0
    ·go_wp2_with fail;go_ret;exact⟨-1,rfl,λf=>by omega,by omega,by omega,HB6.2⟩
    ·have hr0':¬(r<0):=by omega
     have hr2:r<=l:=by omega
     have hnI:(n:Int)<=1048576:=by omega
     clear hn h h' hm1 hx0 hx1 hr1;go_wp2_with fail;go_roundw
     case rel=>exact⟨i+1,r,rfl,by go_num,by omega,hr0,hr2,(⟨HB6.1 hr0,HB6.2⟩:_/\_)⟩
     case measure=>simp[intOf];omega
   ·obtain rfl:i=n:=by omega
    clear HA;go_wp2_with fail;go_ret;have hX:=(uh HX)
    exact⟨x,rfl,λ_=>by have:=hX.1;omega,by omega,hx1,hX.2⟩
theorem im_holds(lo hi x:Int)(w:World):Calls Tryz.prog 137 #[.agg #[.int .i64 lo,.int .i64 hi],.int .i64 x] w λe w'=>e=.returned (.bool (dc (lo<=x/\x<=hi)))/\Kb 0 w w':=by
 by_cases h1:lo<=x
 ·by_cases h2:x<=hi
  ·rw[dc_t ⟨h1,h2⟩];go_enter Tryz.func137,Tryz.ntmps137;go_wp2_with fail;go_ret;exact⟨by first|rfl|simp[h2],kb_alloc _ _ _⟩
  ·rw[dc_f (λq=>h2 q.2)];go_enter Tryz.func137,Tryz.ntmps137;go_wp2_with fail;go_ret;exact⟨by first|rfl|simp[h2],kb_alloc _ _ _⟩
 ·rw[dc_f (λq=>h1 q.1)];go_enter Tryz.func137,Tryz.ntmps137;go_wp2_with fail;go_ret;exact⟨rfl,kb_alloc _ _ _⟩
theorem im_just(n:Int)(w:World):Calls Tryz.prog 146 #[.int .i64 n] w λe w'=>e=.returned (.agg #[.int .i64 n,.int .i64 n])/\Kb 0 w w':=by
 go_enter Tryz.func146,Tryz.ntmps146;go_wp2_with fail;refine bodyPost_ret (by simp[results,Tryz.results146,go_sem];rfl) rfl ?_;exact⟨rfl,by repeat (first|exact Kb.refl _ _|apply Kb.alloc)⟩
theorem im_fieldsof(a:Iv)(w:World):Calls Tryz.prog 119 #[insv a] w λe w'=>e=.returned (.agg #[.int .i64 a.a,.int .i64 a.b,.int .i64 a.c,.int .i64 a.d])/\Kb 0 w w':=by
 unfold insv;go_enter Tryz.func119,Tryz.ntmps119;go_wp2_with fail;refine bodyPost_ret (by simp[results,Tryz.results119,go_sem];rfl) rfl ?_;exact⟨rfl,by repeat (first|exact Kb.refl _ _|apply Kb.alloc)⟩
theorem im_ends(o:Int)(w:World):Calls Tryz.prog 87 #[.int .i64 o] w λe w'=>e=.returned (.bool (dc (Ends o)))/\w'=w:=by
 unfold Ends;by_cases h1:o=19
 ·rw[dc_t (.inl h1)];have g1:=beq1 h1;go_enter Tryz.func87,Tryz.ntmps87;go_wp2_with fail;go_ret;exact⟨by first|rfl|simp[g1],rfl⟩
 by_cases h2:o=29
 ·rw[dc_t (.inr (.inl h2))];have g1:=bne h1;have g2:=beq1 h2;go_enter Tryz.func87,Tryz.ntmps87;go_wp2_with fail;go_ret;exact⟨by first|rfl|simp[g1,g2],rfl⟩
 by_cases h3:o=30
 ·rw[dc_t (.inr (.inr h3))];have g1:=bne h1;have g2:=bne h2;have g3:=beq1 h3;go_enter Tryz.func87,Tryz.ntmps87;go_wp2_with fail;go_ret;exact⟨by first|rfl|simp[g1,g2,g3],rfl⟩
 rw[dc_f (λq=>q.elim h1 (λq=>q.elim h2 h3))];have g1:=bne h1;have g2:=bne h2;have g3:=bne h3;go_enter Tryz.func87,Tryz.ntmps87;go_wp2_with fail;go_ret;exact⟨by first|rfl|simp[g1,g2,g3],rfl⟩
theorem two_new'(w:World)(a b:Array Value)(t1 t2:TypeId)(W:World)(h:W=(w.alloc (.cells a t1)).alloc (.cells b t2)):W.heap[w.heap.size]? =some (.cells a t1 (0,0))/\W.heap[w.heap.size+1]? =some (.cells b t2 (0,0))/\W.heap.size=w.heap.size+2/\Kb 0 w W:=by
 subst h;have e1:(w.alloc (.cells a t1)).heap.size=w.heap.size+1:=World.size_alloc _ _;refine⟨?_,?_,by rw[World.size_alloc,e1],kb_alloc2 _ _ _ _⟩
 ·rw[(kb_alloc 0 _ _).block _ zq (by omega)];exact alloc_new _ _ _
 ·rw[<-e1];exact alloc_new _ _ _
theorem im_allows{r:Nat}(w:World)(hr:r<24)(hnp:np<=1048576)(hb:w.cell? ⟨B,0,none⟩=some (.slice (some A) np ca))(hu:d.u<=1048576)(hc:d.c<=1048576)(hni:d.n<=1048576)(hg:0<=d.g/\d.g<=250):
  Calls Tryz.prog 136 #[.pointer (some ⟨B,0,none⟩),.agg #[.string d.x,.int .i64 d.l,.int .i64 d.m,.bool d.r,.int .i64 d.g,.slice pu d.u cu,.slice pc d.c cc,.slice pn d.n cn,.slice pm d.d cm],.int .u8 r] w λe w'=>e=.returned (.agg #[.int .i64 (rg np d (pcl r)).1,.int .i64 (rg np d (pcl r)).2])/\Kb 0 w w':=by
 have hnpI:(np:Int)<=1048576:=by omega
 have huI:(d.u:Int)<=1048576:=by omega
 have hcI:(d.c:Int)<=1048576:=by omega
 have hniI:(d.n:Int)<=1048576:=by omega
 have o0:∀o p,((w.alloc o).alloc p).cell? ⟨B,0,none⟩=some (.slice (some A) np ca):=λo p=>(kb_alloc2 0 w o p).cell hb;clear hnp hu hc hni;rcases(by omega:r=0\/r=1\/r=2\/r=3\/r=4\/r=5\/r=6\/r=7\/r=8\/r=9\/r=10\/r=11\/r=12\/r=13\/r=14\/r=15\/r=16\/r=17\/r=18\/r=19\/r=20\/r=21\/r=22\/r=23)with rfl|rfl|rfl|rfl|rfl|rfl|rfl|rfl|rfl|rfl|rfl|rfl|rfl|rfl|rfl|rfl|rfl|rfl|rfl|rfl|rfl|rfl|rfl|rfl
 ·clear hr;go_enter Tryz.func136,Tryz.ntmps136;go_wp2_with fail;refine(im_just 0 _).mono ?_;rintro e w1 ⟨rfl,k1⟩;obtain⟨b0,b1,bs,k2⟩:=two_new' w _ _ _ _ _ rfl;have q0:=k1.cell (cell_of (j:=0) b1 rfl);have q1:=k1.cell (cell_of (j:=1) b1 rfl);have qf:∀j,w1.frozen? ⟨w.heap.size+1,j,none⟩=false:=λj=>(k1.frozen zq (by omega)).trans (frozen_of b1);have HK:Hid (Kb 0 w w1):=k2.trans k1;clear k1 b0 b1 bs k2;go_wp2_with fail;refine bodyPost_ret (by simp[results,Tryz.results136,go_sem,q0,q1];rfl) rfl ?_;exact⟨rfl,((uh HK).setCell ⟨w.heap.size+1,0,none⟩ (Or.inr (by show w.heap.size<=w.heap.size+1;omega)) _).setCell ⟨w.heap.size+1,1,none⟩ (Or.inr (by show w.heap.size<=w.heap.size+1;omega)) _⟩
 all_goals
  clear hr;go_enter Tryz.func136,Tryz.ntmps136;go_wp2_with fail;refine bodyPost_ret (by simp[results,Tryz.results136,go_sem];rfl) rfl ?_;exact⟨rfl,by repeat (first|exact Kb.refl _ _|apply Kb.alloc)⟩
def Gd(w:World):Prop:=∀o,o<43->∀j,j<4->w.cell? ⟨0,o*4+j,none⟩=some (.int .u8 (pr o j:Int))
theorem Gd.keep{w w':World}(h:Gd w)(k:Kb 0 w w'):Gd w':=λo ho j hj=>k.cell (h o ho j hj)
structure KW (w0:World) where
 w:World
 k:Kb 0 w0 w
theorem wp_region_kb{w0:World}{P:Program}{id:Nat}{Q:Exit->Act->World->Prop}{A:Act}{l:List Oper}(hm:P.follows .mixedOrders=true)(hB:Region.lexB .any l.toArray=true)
  (h:wpQuiet P l.toArray (λw'=>∃p:KW w0,w'=p.w) (λa'=>∀w',(∃p:KW w0,w'=p.w)->Q .normal a' w') l A):(Code.region id l.toArray true).wp P Q A w0:=
 wp_region_quiet (C:=λw'=>∃p:KW w0,w'=p.w) hm hB ⟨⟨_,(Kb.refl 0 w0).drew⟩,rfl⟩ (by simpa using h)
theorem ix_0(x0 x1 x2 x3:Int)(w:World):(Instr.index 176 (.agg #[.int .i64 x0,.int .i64 x1,.int .i64 x2,.int .i64 x3]) (.int .i64 0)).run Tryz.prog w=.ok (.int .i64 x0) w:=by
 first
  |kernel_rfl
  |simp[Instr.index,run_underlying Tryz.underlying176,asIntOf,go_sem]
theorem ix_1(x0 x1 x2 x3:Int)(w:World):(Instr.index 176 (.agg #[.int .i64 x0,.int .i64 x1,.int .i64 x2,.int .i64 x3]) (.int .i64 1)).run Tryz.prog w=.ok (.int .i64 x1) w:=by
 first
  |kernel_rfl
  |simp[Instr.index,run_underlying Tryz.underlying176,asIntOf,go_sem]
theorem ix_2(x0 x1 x2 x3:Int)(w:World):(Instr.index 176 (.agg #[.int .i64 x0,.int .i64 x1,.int .i64 x2,.int .i64 x3]) (.int .i64 2)).run Tryz.prog w=.ok (.int .i64 x2) w:=by
 first
  |kernel_rfl
  |simp[Instr.index,run_underlying Tryz.underlying176,asIntOf,go_sem]
theorem ix_3(x0 x1 x2 x3:Int)(w:World):(Instr.index 176 (.agg #[.int .i64 x0,.int .i64 x1,.int .i64 x2,.int .i64 x3]) (.int .i64 3)).run Tryz.prog w=.ok (.int .i64 x3) w:=by
 first
  |kernel_rfl
  |simp[Instr.index,run_underlying Tryz.underlying176,asIntOf,go_sem]
theorem im_intable(a:Iv)(w:World)(hnp:np<=1048576)(hb:w.cell? ⟨B,0,none⟩=some (.slice (some A) np ca))(hgd:Gd w)(hu:d.u<=1048576)(hc:d.c<=1048576)(hni:d.n<=1048576)(hg:0<=d.g/\d.g<=250):
  Calls Tryz.prog 109 #[.pointer (some ⟨B,0,none⟩),.agg #[.string d.x,.int .i64 d.l,.int .i64 d.m,.bool d.r,.int .i64 d.g,.slice pu d.u cu,.slice pc d.c cc,.slice pn d.n cn,.slice pm d.d cm],.agg #[.int .i64 a.o,.int .i64 a.a,.int .i64 a.b,.int .i64 a.c,.int .i64 a.d]] w λe w'=>e=.returned (.bool (dc (Tok np d a)))/\Kb 0 w w':=by
 by_cases ho1:1<=a.o
 rotate_left
 ·rw[dc_f (λq:Tok np d a=>ho1 q.1)];have g1:a.o<1:=by omega
  clear ho1 hgd;go_enter Tryz.func109,Tryz.ntmps109;go_wp2_with fail;go_ret;exact⟨rfl,kb_alloc2 _ _ _ _⟩
 by_cases ho2:a.o<=42
 rotate_left
 ·rw[dc_f (λq:Tok np d a=>ho2 q.2.1)];have g1:¬a.o<1:=by omega
  have g2:42<a.o:=by omega
  clear ho1 ho2 hgd;go_enter Tryz.func109,Tryz.ntmps109;go_wp2_with fail;go_ret;exact⟨rfl,kb_alloc2 _ _ _ _⟩
 obtain⟨n,hn⟩:∃n:Nat,a.o=(n:Int):=⟨a.o.toNat,by omega⟩
 have g1:¬(n:Int)<1:=by omega
 have g2:¬42<(n:Int):=by omega
 obtain⟨R,hR⟩:∃R,R=dc (Tok np d a):=⟨_,rfl⟩
 rw[<-hR]
 have hTK:Tok np d a↔∀j,j<4->Fit np d (pcl (pr n j)) (fld a j):=by
  unfold Tok;rw[show a.o.toNat=n by omega];exact⟨λq=>q.2.2,λq=>⟨ho1,ho2,q⟩⟩
 have HR:Hid (R=dc (Tok np d a)/\(Tok np d a↔∀j,j<4->Fit np d (pcl (pr n j)) (fld a j))):=(⟨hR,hTK⟩:_/\_)
 have HY:Hid (np<=1048576/\d.u<=1048576/\d.c<=1048576/\d.n<=1048576/\(0<=d.g/\d.g<=250)/\(1<=n/\n<=42)/\a.o=(n:Int)):=(⟨hnp,hu,hc,hni,hg,⟨by omega,by omega⟩,hn⟩:_/\_)
 have HF:=λW=>im_fieldsof a W;unfold insv at HF;obtain⟨w2,hw2⟩:∃w2,w2=(w.alloc (.cells #[.string d.x,.int .i64 d.l,.int .i64 d.m,.bool d.r,.int .i64 d.g,.slice pu d.u cu,.slice pc d.c cc,.slice pn d.n cn,.slice pm d.d cm] 52)).alloc (.cells #[.int .i64 a.o,.int .i64 a.a,.int .i64 a.b,.int .i64 a.c,.int .i64 a.d] 79):=⟨_,rfl⟩
 obtain⟨b0,b1,bs,k2⟩:=two_new' w _ _ _ _ w2 hw2;have HB:Hid (w2.heap[w.heap.size]? =some (.cells #[.string d.x,.int .i64 d.l,.int .i64 d.m,.bool d.r,.int .i64 d.g,.slice pu d.u cu,.slice pc d.c cc,.slice pn d.n cn,.slice pm d.d cm] 52 (0,0))/\w2.heap[w.heap.size+1]? =some (.cells #[.int .i64 a.o,.int .i64 a.a,.int .i64 a.b,.int .i64 a.c,.int .i64 a.d] 79 (0,0))/\Kb 0 w w2/\Gd w2/\w2.cell? ⟨B,0,none⟩=some (.slice (some A) np ca)):=(⟨b0,b1,k2,hgd.keep k2,k2.cell hb⟩:_/\_)
 rw[hn]at hw2 HF;have HW:Hid (w2=_):=hw2;clear hw2 b0 b1 bs k2 hR hTK hgd hb hnp hu hc hni hg ho1 ho2;rw[hn];go_enter Tryz.func109,Tryz.ntmps109;go_wp2_with fail;rw[<-(uh HW)];clear HW;refine(HF w2).mono ?_;rintro e w3 ⟨rfl,k3⟩
 have HS:Hid (Kb 0 w w3/\w3.cell? ⟨w.heap.size,0,none⟩=some (.string d.x)/\w3.cell? ⟨w.heap.size,1,none⟩=some (.int .i64 d.l)/\w3.cell? ⟨w.heap.size,2,none⟩=some (.int .i64 d.m)/\w3.cell? ⟨w.heap.size,3,none⟩=some (.bool d.r)/\w3.cell? ⟨w.heap.size,4,none⟩=some (.int .i64 d.g)/\w3.cell? ⟨w.heap.size,5,none⟩=some (.slice pu d.u cu)/\w3.cell? ⟨w.heap.size,6,none⟩=some (.slice pc d.c cc)/\w3.cell? ⟨w.heap.size,7,none⟩=some (.slice pn d.n cn)/\w3.cell? ⟨w.heap.size,8,none⟩=some (.slice pm d.d cm)/\w3.cell? ⟨w.heap.size+1,0,none⟩=some (.int .i64 n)/\Gd w3/\w3.cell? ⟨B,0,none⟩=some (.slice (some A) np ca)):=by
  obtain⟨b0,b1,k2,hgd,hb⟩:=(uh HB)
  rw[hn]at b1;exact(show _/\_/\_/\_/\_/\_/\_/\_/\_/\_/\_/\_/\_ from⟨k2.trans k3,k3.cell (cell_of b0 rfl),k3.cell (cell_of b0 rfl),k3.cell (cell_of b0 rfl),k3.cell (cell_of b0 rfl),k3.cell (cell_of b0 rfl),k3.cell (cell_of b0 rfl),k3.cell (cell_of b0 rfl),k3.cell (cell_of b0 rfl),k3.cell (cell_of b0 rfl),k3.cell (cell_of b1 rfl),hgd.keep k3,k3.cell hb⟩)
 clear k3 HB HF hn;go_wp2_with fail
 go_loopw [19] (λsl wr=>∃j:Nat,sl=.int .i64 j/\j<=4/\Hid (Kb 0 w3 wr/\∀y,y<j->Fit np d (pcl (pr n y)) (fld a y))) (λsl _=>4-(intOf sl).toNat)
 case atStart=>exact⟨0,rfl,Nat.zero_le _,(⟨Kb.refl _ _,λy h=>by omega⟩:_/\_)⟩
 case round=>
  obtain⟨j,rfl,hj,HX⟩:=hrel;obtain⟨kw,hX⟩:=(uh HX)
  obtain⟨k03,c0,c1,c2,c3,c4,c5,c6,c7,c8,i0,hgd,hb⟩:=(uh HS)
  obtain⟨hnp,hu,hc,hni,hg,⟨n1,n42⟩,hn⟩:=(uh HY)
  obtain⟨hR,hTK⟩:=(uh HR)
  rcases Nat.lt_or_ge j 4 with h|h
  ·have hI:(j:Int)<4:=by omega
   have hpr:=(cl_eq0 n (by omega) j h).2.1;have ht:∀p:KW wr,p.w.cell? ⟨0,n*4+j,none⟩=some (.int .u8 (pr n j:Int)):=λp=>p.k.cell (kw.cell (hgd n (by omega) j h));have e0:∀p:KW wr,p.w.cell? ⟨w.heap.size,0,none⟩=some (.string d.x):=λp=>p.k.cell (kw.cell c0);have e1:∀p:KW wr,p.w.cell? ⟨w.heap.size,1,none⟩=some (.int .i64 d.l):=λp=>p.k.cell (kw.cell c1);have e2:∀p:KW wr,p.w.cell? ⟨w.heap.size,2,none⟩=some (.int .i64 d.m):=λp=>p.k.cell (kw.cell c2);have e3:∀p:KW wr,p.w.cell? ⟨w.heap.size,3,none⟩=some (.bool d.r):=λp=>p.k.cell (kw.cell c3);have e4:∀p:KW wr,p.w.cell? ⟨w.heap.size,4,none⟩=some (.int .i64 d.g):=λp=>p.k.cell (kw.cell c4);have e5:∀p:KW wr,p.w.cell? ⟨w.heap.size,5,none⟩=some (.slice pu d.u cu):=λp=>p.k.cell (kw.cell c5);have e6:∀p:KW wr,p.w.cell? ⟨w.heap.size,6,none⟩=some (.slice pc d.c cc):=λp=>p.k.cell (kw.cell c6);have e7:∀p:KW wr,p.w.cell? ⟨w.heap.size,7,none⟩=some (.slice pn d.n cn):=λp=>p.k.cell (kw.cell c7);have e8:∀p:KW wr,p.w.cell? ⟨w.heap.size,8,none⟩=some (.slice pm d.d cm):=λp=>p.k.cell (kw.cell c8);have ei:∀p:KW wr,p.w.cell? ⟨w.heap.size+1,0,none⟩=some (.int .i64 n):=λp=>p.k.cell (kw.cell i0)
   have C1:∀p:KW wr,Calls Tryz.prog 136 #[.pointer (some ⟨B,0,none⟩),.agg #[.string d.x,.int .i64 d.l,.int .i64 d.m,.bool d.r,.int .i64 d.g,.slice pu d.u cu,.slice pc d.c cc,.slice pn d.n cn,.slice pm d.d cm],.int .u8 (pr n j:Int)] p.w λe w'=>e=.returned (.agg #[.int .i64 (rg np d (pcl (pr n j))).1,.int .i64 (rg np d (pcl (pr n j))).2])/\∃q:KW wr,w'=q.w:=λp=>by
    refine(im_allows p.w hpr hnp (p.k.cell (kw.cell hb)) hu hc hni hg).mono ?_;rintro e w' ⟨rfl,k⟩;exact⟨rfl,⟨w',p.k.trans k⟩,rfl⟩
   have C2:∀p:KW wr,Calls Tryz.prog 137 #[.agg #[.int .i64 (rg np d (pcl (pr n j))).1,.int .i64 (rg np d (pcl (pr n j))).2],.int .i64 (fld a j)] p.w λe w'=>e=.returned (.bool (dc (Fit np d (pcl (pr n j)) (fld a j))))/\∃q:KW wr,w'=q.w:=λp=>by
    refine(im_holds _ _ _ p.w).mono ?_;rintro e w' ⟨rfl,k⟩;exact⟨rfl,⟨w',p.k.trans k⟩,rfl⟩
   have hne:Nonempty (KW wr):=⟨⟨wr,Kb.refl _ _⟩⟩
   have hgood:Fit np d (pcl (pr n j)) (fld a j)->∀p:KW wr,Kb 0 w3 p.w/\∀y,y<j+1->Fit np d (pcl (pr n y)) (fld a y):=λc p=>⟨kw.trans p.k,λy hy=>by
    by_cases e:y=j
    ·subst e;exact c
    ·exact hX y (by omega)⟩
   have hbad:¬Fit np d (pcl (pr n j)) (fld a j)->R=false/\∀p:KW wr,Kb 0 w p.w:=λc=>⟨by rw[hR];exact dc_f (λq=>c (hTK.1 q j h)),λp=>(k03.trans kw).trans p.k⟩
   clear HX hX kw k03 c0 c1 c2 c3 c4 c5 c6 c7 c8 i0 hgd hb hnp hu hc hni hg n1 n42 hn hR hTK hpr;generalize hF0:Fit np d (pcl (pr n j)) (fld a j)=FF at*;generalize (rg np d (pcl (pr n j))).1=lo at*;generalize (rg np d (pcl (pr n j))).2=hi at*;rcases(by omega:j=0\/j=1\/j=2\/j=3)with rfl|rfl|rfl|rfl
   ·replace C2:∀p:KW wr,Calls Tryz.prog 137 #[.agg #[.int .i64 lo,.int .i64 hi],.int .i64 a.a] p.w λe w'=>e=.returned (.bool (dc FF))/\∃q:KW wr,w'=q.w:=C2;replace ht:∀p:KW wr,p.w.cell? ⟨0,n*4,none⟩=some (.int .u8 (pr n 0:Int)):=ht;generalize pr n 0=rj at*;have hix:=ix_0 a.a a.b a.c a.d;by_cases c:FF
    ·rw[dc_t c]at C2;have HG:Hid (∀p:KW wr,Kb 0 w3 p.w/\∀y,y<0+1->Fit np d (pcl (pr n y)) (fld a y)):=hgood c;clear hgood hbad c hF0;go_wp2_with fail;refine wp_region_kb (by kernel_rfl) (by kernel_rfl) ?_
     repeat go_big_quiet_step ((fail))
     go_big_quiet_step ((go_at_call 136;exact C1 _))
     go_big_quiet_step ((fail))
     go_big_quiet_step ((go_at_call 137;exact C2 _))
     go_big_quiet_step ((fail))
     refine wpQuiet_nil ?_;intro w5 hw'
     have HX3:Hid (Kb 0 w3 w5/\∀y,y<0+1->Fit np d (pcl (pr n y)) (fld a y)):=by
      obtain⟨q,hq⟩:=hw';rw[hq];exact(uh HG) q
     clear hw' HG C1 C2 ht e0 e1 e2 e3 e4 e5 e6 e7 e8 ei hne hix;go_wp2_with fail;go_roundw
     case rel=>exact⟨0+1,by go_num,by omega,HX3⟩
     case measure=>simp[intOf]
    ·rw[dc_f c]at C2;obtain⟨hF,hk⟩:=hbad c;subst hF;have HG:Hid (∀p:KW wr,Kb 0 w p.w):=hk;clear hgood hbad c hF0 hk HR;go_wp2_with fail;refine wp_region_kb (by kernel_rfl) (by kernel_rfl) ?_
     repeat go_big_quiet_step ((fail))
     go_big_quiet_step ((go_at_call 136;exact C1 _))
     go_big_quiet_step ((fail))
     go_big_quiet_step ((go_at_call 137;exact C2 _))
     go_big_quiet_step ((fail))
     refine wpQuiet_nil ?_;intro w5 hw'
     have HX3:Hid (Kb 0 w w5):=by
      obtain⟨q,hq⟩:=hw';rw[hq];exact(uh HG) q
     clear hw' HG C1 C2 ht e0 e1 e2 e3 e4 e5 e6 e7 e8 ei hne hix;go_wp2_with fail;go_ret;exact⟨rfl,HX3⟩
   ·replace C2:∀p:KW wr,Calls Tryz.prog 137 #[.agg #[.int .i64 lo,.int .i64 hi],.int .i64 a.b] p.w λe w'=>e=.returned (.bool (dc FF))/\∃q:KW wr,w'=q.w:=C2;generalize pr n 1=rj at*;have hix:=ix_1 a.a a.b a.c a.d;by_cases c:FF
    ·rw[dc_t c]at C2;have HG:Hid (∀p:KW wr,Kb 0 w3 p.w/\∀y,y<1+1->Fit np d (pcl (pr n y)) (fld a y)):=hgood c;clear hgood hbad c hF0;go_wp2_with fail;refine wp_region_kb (by kernel_rfl) (by kernel_rfl) ?_
     repeat go_big_quiet_step ((fail))
     go_big_quiet_step ((go_at_call 136;exact C1 _))
     go_big_quiet_step ((fail))
     go_big_quiet_step ((go_at_call 137;exact C2 _))
     go_big_quiet_step ((fail))
     refine wpQuiet_nil ?_;intro w5 hw'
     have HX3:Hid (Kb 0 w3 w5/\∀y,y<1+1->Fit np d (pcl (pr n y)) (fld a y)):=by
      obtain⟨q,hq⟩:=hw';rw[hq];exact(uh HG) q
     clear hw' HG C1 C2 ht e0 e1 e2 e3 e4 e5 e6 e7 e8 ei hne hix;go_wp2_with fail;go_roundw
     case rel=>exact⟨1+1,by go_num,by omega,HX3⟩
     case measure=>simp[intOf]
    ·rw[dc_f c]at C2;obtain⟨hF,hk⟩:=hbad c;subst hF;have HG:Hid (∀p:KW wr,Kb 0 w p.w):=hk;clear hgood hbad c hF0 hk HR;go_wp2_with fail;refine wp_region_kb (by kernel_rfl) (by kernel_rfl) ?_
     repeat go_big_quiet_step ((fail))
     go_big_quiet_step ((go_at_call 136;exact C1 _))
     go_big_quiet_step ((fail))
     go_big_quiet_step ((go_at_call 137;exact C2 _))
     go_big_quiet_step ((fail))
     refine wpQuiet_nil ?_;intro w5 hw'
     have HX3:Hid (Kb 0 w w5):=by
      obtain⟨q,hq⟩:=hw';rw[hq];exact(uh HG) q
     clear hw' HG C1 C2 ht e0 e1 e2 e3 e4 e5 e6 e7 e8 ei hne hix;go_wp2_with fail;go_ret;exact⟨rfl,HX3⟩
   ·replace C2:∀p:KW wr,Calls Tryz.prog 137 #[.agg #[.int .i64 lo,.int .i64 hi],.int .i64 a.c] p.w λe w'=>e=.returned (.bool (dc FF))/\∃q:KW wr,w'=q.w:=C2;generalize pr n 2=rj at*;have hix:=ix_2 a.a a.b a.c a.d;by_cases c:FF
    ·rw[dc_t c]at C2;have HG:Hid (∀p:KW wr,Kb 0 w3 p.w/\∀y,y<2+1->Fit np d (pcl (pr n y)) (fld a y)):=hgood c;clear hgood hbad c hF0;go_wp2_with fail;refine wp_region_kb (by kernel_rfl) (by kernel_rfl) ?_
     repeat go_big_quiet_step ((fail))
     go_big_quiet_step ((go_at_call 136;exact C1 _))
     go_big_quiet_step ((fail))
     go_big_quiet_step ((go_at_call 137;exact C2 _))
     go_big_quiet_step ((fail))
     refine wpQuiet_nil ?_;intro w5 hw'
     have HX3:Hid (Kb 0 w3 w5/\∀y,y<2+1->Fit np d (pcl (pr n y)) (fld a y)):=by
      obtain⟨q,hq⟩:=hw';rw[hq];exact(uh HG) q
     clear hw' HG C1 C2 ht e0 e1 e2 e3 e4 e5 e6 e7 e8 ei hne hix;go_wp2_with fail;go_roundw
     case rel=>exact⟨2+1,by go_num,by omega,HX3⟩
     case measure=>simp[intOf]
    ·rw[dc_f c]at C2;obtain⟨hF,hk⟩:=hbad c;subst hF;have HG:Hid (∀p:KW wr,Kb 0 w p.w):=hk;clear hgood hbad c hF0 hk HR;go_wp2_with fail;refine wp_region_kb (by kernel_rfl) (by kernel_rfl) ?_
     repeat go_big_quiet_step ((fail))
     go_big_quiet_step ((go_at_call 136;exact C1 _))
     go_big_quiet_step ((fail))
     go_big_quiet_step ((go_at_call 137;exact C2 _))
     go_big_quiet_step ((fail))
     refine wpQuiet_nil ?_;intro w5 hw'
     have HX3:Hid (Kb 0 w w5):=by
      obtain⟨q,hq⟩:=hw';rw[hq];exact(uh HG) q
     clear hw' HG C1 C2 ht e0 e1 e2 e3 e4 e5 e6 e7 e8 ei hne hix;go_wp2_with fail;go_ret;exact⟨rfl,HX3⟩
   ·replace C2:∀p:KW wr,Calls Tryz.prog 137 #[.agg #[.int .i64 lo,.int .i64 hi],.int .i64 a.d] p.w λe w'=>e=.returned (.bool (dc FF))/\∃q:KW wr,w'=q.w:=C2;generalize pr n 3=rj at*;have hix:=ix_3 a.a a.b a.c a.d;by_cases c:FF
    ·rw[dc_t c]at C2;have HG:Hid (∀p:KW wr,Kb 0 w3 p.w/\∀y,y<3+1->Fit np d (pcl (pr n y)) (fld a y)):=hgood c;clear hgood hbad c hF0;go_wp2_with fail;refine wp_region_kb (by kernel_rfl) (by kernel_rfl) ?_
     repeat go_big_quiet_step ((fail))
     go_big_quiet_step ((go_at_call 136;exact C1 _))
     go_big_quiet_step ((fail))
     go_big_quiet_step ((go_at_call 137;exact C2 _))
     go_big_quiet_step ((fail))
     refine wpQuiet_nil ?_;intro w5 hw'
     have HX3:Hid (Kb 0 w3 w5/\∀y,y<3+1->Fit np d (pcl (pr n y)) (fld a y)):=by
      obtain⟨q,hq⟩:=hw';rw[hq];exact(uh HG) q
     clear hw' HG C1 C2 ht e0 e1 e2 e3 e4 e5 e6 e7 e8 ei hne hix;go_wp2_with fail;go_roundw
     case rel=>exact⟨3+1,by go_num,by omega,HX3⟩
     case measure=>simp[intOf]
    ·rw[dc_f c]at C2;obtain⟨hF,hk⟩:=hbad c;subst hF;have HG:Hid (∀p:KW wr,Kb 0 w p.w):=hk;clear hgood hbad c hF0 hk HR;go_wp2_with fail;refine wp_region_kb (by kernel_rfl) (by kernel_rfl) ?_
     repeat go_big_quiet_step ((fail))
     go_big_quiet_step ((go_at_call 136;exact C1 _))
     go_big_quiet_step ((fail))
     go_big_quiet_step ((go_at_call 137;exact C2 _))
     go_big_quiet_step ((fail))
     refine wpQuiet_nil ?_;intro w5 hw'
     have HX3:Hid (Kb 0 w w5):=by
      obtain⟨q,hq⟩:=hw';rw[hq];exact(uh HG) q
     clear hw' HG C1 C2 ht e0 e1 e2 e3 e4 e5 e6 e7 e8 ei hne hix;go_wp2_with fail;go_ret;exact⟨rfl,HX3⟩
  ·obtain rfl:j=4:=by omega
   have hT:R=true:=by rw[hR];exact dc_t (hTK.2 (λy hy=>hX y hy))
   subst hT;have HK:Hid (Kb 0 w wr):=k03.trans kw;clear HX hX kw k03 c0 c1 c2 c3 c4 c5 c6 c7 c8 i0 hgd hb hnp hu hc hni hg n1 n42 hn hR hTK HR HS HY;go_wp2_with fail;go_ret;exact⟨rfl,HK⟩
