import Derived.Test.YtohbcpfjjimdnaaGreatDoorMCbb
set_option maxHeartbeats 32000000
namespace Go.Proofs.YtohbcpfjjimdnaaGreatDoor.Fo
open Go.ChangeShapes Go.WideShapes Go.ChangeAt Go.RowKit
set_option linter.unusedVariables false
set_option maxRecDepth 100000
variable {x lo hi:Int}{A:Addr}{np ca p cu cc cn cm n g i nf f m:Nat}{d:Pd}{pu pc pn pm:Option Addr}{P:Nat->Nat->Prop}{L:Nat->Nat}
theorem sp_roles0:∀(n:Nat),1<=n->n<=14->∀(w:World),Calls Tryz.prog 62 #[.int .i64 n] w λe w'=>e=.returned (.slice (some ⟨w.heap.size,0,none⟩) 4 4)/\w'=w.alloc (.cells #[.int .i64 (mr n 0:Int),.int .i64 (mr n 1:Int),.int .i64 (mr n 2:Int),.int .i64 (mr n 3:Int)] 3):=by
 intro n h1 h2 w;rcases(by omega:n=1\/n=2\/n=3\/n=4\/n=5\/n=6\/n=7\/n=8\/n=9\/n=10\/n=11\/n=12\/n=13\/n=14)with rfl|rfl|rfl|rfl|rfl|rfl|rfl|rfl|rfl|rfl|rfl|rfl|rfl|rfl
 all_goals
  clear h1 h2;go_enter Tryz.func62,Tryz.ntmps62;go_wp2_with fail;go_ret;exact⟨rfl,rfl⟩
theorem sp_roles1:∀(n:Nat),15<=n->n<=28->∀(w:World),Calls Tryz.prog 62 #[.int .i64 n] w λe w'=>e=.returned (.slice (some ⟨w.heap.size,0,none⟩) 4 4)/\w'=w.alloc (.cells #[.int .i64 (mr n 0:Int),.int .i64 (mr n 1:Int),.int .i64 (mr n 2:Int),.int .i64 (mr n 3:Int)] 3):=by
 intro n h1 h2 w;rcases(by omega:n=15\/n=16\/n=17\/n=18\/n=19\/n=20\/n=21\/n=22\/n=23\/n=24\/n=25\/n=26\/n=27\/n=28)with rfl|rfl|rfl|rfl|rfl|rfl|rfl|rfl|rfl|rfl|rfl|rfl|rfl|rfl
 all_goals
  clear h1 h2;go_enter Tryz.func62,Tryz.ntmps62;go_wp2_with fail;go_ret;exact⟨rfl,rfl⟩
theorem sp_roles2:∀(n:Nat),29<=n->n<=42->∀(w:World),Calls Tryz.prog 62 #[.int .i64 n] w λe w'=>e=.returned (.slice (some ⟨w.heap.size,0,none⟩) 4 4)/\w'=w.alloc (.cells #[.int .i64 (mr n 0:Int),.int .i64 (mr n 1:Int),.int .i64 (mr n 2:Int),.int .i64 (mr n 3:Int)] 3):=by
 intro n h1 h2 w;rcases(by omega:n=29\/n=30\/n=31\/n=32\/n=33\/n=34\/n=35\/n=36\/n=37\/n=38\/n=39\/n=40\/n=41\/n=42)with rfl|rfl|rfl|rfl|rfl|rfl|rfl|rfl|rfl|rfl|rfl|rfl|rfl|rfl
 all_goals
  clear h1 h2;go_enter Tryz.func62,Tryz.ntmps62;go_wp2_with fail;go_ret;exact⟨rfl,rfl⟩
theorem sp_in_t(h:lo<=x/\x<=hi)(w:World):Calls Tryz.prog 102 #[.int .i64 x,.int .i64 lo,.int .i64 hi] w λe w'=>e=.returned (.bool true)/\w'=w:=by
 obtain⟨h1,h2⟩:=h;go_enter Tryz.func102,Tryz.ntmps102;go_wp2_with fail;go_ret;exact⟨rfl,rfl⟩
theorem sp_in_f(h:¬(lo<=x/\x<=hi))(w:World):Calls Tryz.prog 102 #[.int .i64 x,.int .i64 lo,.int .i64 hi] w λe w'=>e=.returned (.bool false)/\w'=w:=by
 by_cases h1:lo<=x
 ·have h2:¬x<=hi:=λg=>h ⟨h1,g⟩;go_enter Tryz.func102,Tryz.ntmps102;go_wp2_with fail;go_ret;exact⟨rfl,rfl⟩
 ·go_enter Tryz.func102,Tryz.ntmps102;go_wp2_with fail;go_ret;exact⟨rfl,rfl⟩
theorem sp_fault(c f n:Int)(w:World):Calls Tryz.prog 32 #[.int .i64 c,.int .i64 f,.int .i64 n] w λe w'=>e=.returned (.agg #[.int .i64 c,.int .i64 f,.int .i64 n])/\Kb 0 w w':=by
 go_enter Tryz.func32,Tryz.ntmps32;go_wp2_with fail;refine bodyPost_ret (by simp[results,Tryz.results32,go_sem];rfl) rfl ?_;exact⟨rfl,by repeat (first|exact Kb.refl _ _|apply Kb.alloc)⟩
theorem sp_head(w:World)(hp:p<np)(hnp:np<=1048576)(hcel:CelP w (A.add (p*9)) d (.slice pu d.u cu) (.slice pc d.c cc) (.slice pn d.n cn) (.slice pm d.d cm))(hu:d.u<=1048576)(hc:d.c<=1048576)(hg:-9223372036854775808<=d.g):
  Calls Tryz.prog 98 #[.agg #[.slice (some A) np ca],.int .i64 p] w λe w'=>e=.returned (.bool (dc (Hd p d)))/\Kb 0 w w':=by
 obtain⟨d0,d1,d2,d3,d4,d5,d6,d7,d8⟩:=hcel.keep zq (kb_alloc 0 w (.cells #[.slice (some A) np ca] 30));unfold Hd;obtain⟨x,l,m,r,g,u,U,c,C,n,N,dd,D⟩:=d;dsimp only at*;have hpI:(p:Int)<(np:Int):=by omega
 have hnpI:(np:Int)<=1048576:=by omega
 have huI:(u:Int)<=1048576:=by omega
 have hcI:(c:Int)<=1048576:=by omega
 clear hp hnp hcel hu hc;have hgw:IntKind.i64.wrap (-9223372036854775808-1)=9223372036854775807:=by decide
 cases r with
 |false=>
  rw[if_neg (by decide)];by_cases h0:x.size<=40
  rotate_left
  ·have g0:¬(x.size:Int)<=40:=by omega
   rw[dc_f (λq=>h0 q.1)];go_enter Tryz.func98,Tryz.ntmps98;go_wp2_with ((go_at_call 102;first|refine(sp_in_t (by omega) _).mono ?_|refine(sp_in_f (by omega) _).mono ?_);rintro e w1 ⟨rfl,rfl⟩);go_ret;exact⟨rfl,kb_alloc2 _ _ _ _⟩
  have g0:(x.size:Int)<=40:=by omega
  by_cases h1:0<=l/\l<=100000
  rotate_left
  ·rw[dc_f (λq=>h1 q.2.1)];go_enter Tryz.func98,Tryz.ntmps98;go_wp2_with ((go_at_call 102;first|refine(sp_in_t (by omega) _).mono ?_|refine(sp_in_f (by omega) _).mono ?_);rintro e w1 ⟨rfl,rfl⟩);go_ret;exact⟨rfl,kb_alloc2 _ _ _ _⟩
  by_cases h2:0<=g/\g<=250
  rotate_left
  ·rw[dc_f (λq=>h2 q.2.2.1)];go_enter Tryz.func98,Tryz.ntmps98;go_wp2_with ((go_at_call 102;first|refine(sp_in_t (by omega) _).mono ?_|refine(sp_in_f (by omega) _).mono ?_);rintro e w1 ⟨rfl,rfl⟩);go_ret;exact⟨rfl,kb_alloc2 _ _ _ _⟩
  by_cases h3:0<=m/\m<=g
  rotate_left
  ·rw[dc_f (λq=>h3 q.2.2.2.1)];go_enter Tryz.func98,Tryz.ntmps98;go_wp2_with ((go_at_call 102;first|refine(sp_in_t (by omega) _).mono ?_|refine(sp_in_f (by omega) _).mono ?_);rintro e w1 ⟨rfl,rfl⟩);go_ret;exact⟨rfl,kb_alloc2 _ _ _ _⟩
  by_cases h4:u<=250
  rotate_left
  ·have g4:¬(u:Int)<=250:=by omega
   rw[dc_f (λq=>h4 q.2.2.2.2.1)];go_enter Tryz.func98,Tryz.ntmps98;go_wp2_with ((go_at_call 102;first|refine(sp_in_t (by omega) _).mono ?_|refine(sp_in_f (by omega) _).mono ?_);rintro e w1 ⟨rfl,rfl⟩);go_ret;exact⟨rfl,kb_alloc2 _ _ _ _⟩
  have g4:(u:Int)<=250:=by omega
  by_cases h5:c<=500
  rotate_left
  ·have g5:¬(c:Int)<=500:=by omega
   rw[dc_f (λq=>h5 q.2.2.2.2.2.1)];go_enter Tryz.func98,Tryz.ntmps98;go_wp2_with ((go_at_call 102;first|refine(sp_in_t (by omega) _).mono ?_|refine(sp_in_f (by omega) _).mono ?_);rintro e w1 ⟨rfl,rfl⟩);go_ret;exact⟨rfl,kb_alloc2 _ _ _ _⟩
  have g5:(c:Int)<=500:=by omega
  by_cases h6:0<p
  ·have g6:(0:Int)<(p:Int):=by omega
   rw[dc_t ⟨h0,h1,h2,h3,h4,h5,Or.inl h6⟩];go_enter Tryz.func98,Tryz.ntmps98;go_wp2_with ((go_at_call 102;first|refine(sp_in_t (by omega) _).mono ?_|refine(sp_in_f (by omega) _).mono ?_);rintro e w1 ⟨rfl,rfl⟩);go_ret;exact⟨rfl,kb_alloc2 _ _ _ _⟩
  have g6:¬(0:Int)<(p:Int):=by omega
  by_cases h7:m=0
  rotate_left
  ·have g7:(m==0)=false:=bne h7;rw[dc_f (λq=>q.2.2.2.2.2.2.elim h6 (λq=>h7 q.1))];go_enter Tryz.func98,Tryz.ntmps98;go_wp2_with ((go_at_call 102;first|refine(sp_in_t (by omega) _).mono ?_|refine(sp_in_f (by omega) _).mono ?_);rintro e w1 ⟨rfl,rfl⟩);go_ret;exact⟨rfl,kb_alloc2 _ _ _ _⟩
  subst h7;by_cases h8:u=0
  rotate_left
  ·have g8:((u:Int)==0)=false:=bne (by omega);rw[dc_f (λq=>q.2.2.2.2.2.2.elim h6 (λq=>h8 q.2))];go_enter Tryz.func98,Tryz.ntmps98;go_wp2_with ((go_at_call 102;first|refine(sp_in_t (by omega) _).mono ?_|refine(sp_in_f (by omega) _).mono ?_);rintro e w1 ⟨rfl,rfl⟩);go_ret;exact⟨rfl,kb_alloc2 _ _ _ _⟩
  have g8:((u:Int)==0)=true:=beq1 (by omega);rw[dc_t ⟨h0,h1,h2,h3,h4,h5,Or.inr ⟨rfl,h8⟩⟩];go_enter Tryz.func98,Tryz.ntmps98;go_wp2_with ((go_at_call 102;first|refine(sp_in_t (by omega) _).mono ?_|refine(sp_in_f (by omega) _).mono ?_);rintro e w1 ⟨rfl,rfl⟩);go_ret;exact⟨rfl,kb_alloc2 _ _ _ _⟩
 |true=>
  rw[if_pos rfl];by_cases hgm:g=-9223372036854775808
  ·subst hgm;have h2:¬(0<=(-9223372036854775808:Int)/\(-9223372036854775808:Int)<=250):=by omega
   rw[dc_f (λq=>h2 q.2.2.1)];by_cases h0:x.size<=40
   ·have g0:(x.size:Int)<=40:=by omega
    by_cases h1:0<=l/\l<=100000
    ·go_enter Tryz.func98,Tryz.ntmps98;go_wp2_with ((go_at_call 102;first|refine(sp_in_t (by omega) _).mono ?_|refine(sp_in_f (by omega) _).mono ?_);rintro e w1 ⟨rfl,rfl⟩);go_ret;exact⟨rfl,kb_alloc2 _ _ _ _⟩
    ·go_enter Tryz.func98,Tryz.ntmps98;go_wp2_with ((go_at_call 102;first|refine(sp_in_t (by omega) _).mono ?_|refine(sp_in_f (by omega) _).mono ?_);rintro e w1 ⟨rfl,rfl⟩);go_ret;exact⟨rfl,kb_alloc2 _ _ _ _⟩
   ·have g0:¬(x.size:Int)<=40:=by omega
    go_enter Tryz.func98,Tryz.ntmps98;go_wp2_with ((go_at_call 102;first|refine(sp_in_t (by omega) _).mono ?_|refine(sp_in_f (by omega) _).mono ?_);rintro e w1 ⟨rfl,rfl⟩);go_ret;exact⟨rfl,kb_alloc2 _ _ _ _⟩
  have hg1:-9223372036854775807<=g:=by omega
  by_cases h0:x.size<=40
  rotate_left
  ·have g0:¬(x.size:Int)<=40:=by omega
   rw[dc_f (λq=>h0 q.1)];go_enter Tryz.func98,Tryz.ntmps98;go_wp2_with ((go_at_call 102;first|refine(sp_in_t (by omega) _).mono ?_|refine(sp_in_f (by omega) _).mono ?_);rintro e w1 ⟨rfl,rfl⟩);go_ret;exact⟨rfl,kb_alloc2 _ _ _ _⟩
  have g0:(x.size:Int)<=40:=by omega
  by_cases h1:0<=l/\l<=100000
  rotate_left
  ·rw[dc_f (λq=>h1 q.2.1)];go_enter Tryz.func98,Tryz.ntmps98;go_wp2_with ((go_at_call 102;first|refine(sp_in_t (by omega) _).mono ?_|refine(sp_in_f (by omega) _).mono ?_);rintro e w1 ⟨rfl,rfl⟩);go_ret;exact⟨rfl,kb_alloc2 _ _ _ _⟩
  by_cases h2:0<=g/\g<=250
  rotate_left
  ·rw[dc_f (λq=>h2 q.2.2.1)];go_enter Tryz.func98,Tryz.ntmps98;go_wp2_with ((go_at_call 102;first|refine(sp_in_t (by omega) _).mono ?_|refine(sp_in_f (by omega) _).mono ?_);rintro e w1 ⟨rfl,rfl⟩);go_ret;exact⟨rfl,kb_alloc2 _ _ _ _⟩
  by_cases h3:0<=m/\m<=g-1
  rotate_left
  ·rw[dc_f (λq=>h3 q.2.2.2.1)];go_enter Tryz.func98,Tryz.ntmps98;go_wp2_with ((go_at_call 102;first|refine(sp_in_t (by omega) _).mono ?_|refine(sp_in_f (by omega) _).mono ?_);rintro e w1 ⟨rfl,rfl⟩);go_ret;exact⟨rfl,kb_alloc2 _ _ _ _⟩
  by_cases h4:u<=250
  rotate_left
  ·have g4:¬(u:Int)<=250:=by omega
   rw[dc_f (λq=>h4 q.2.2.2.2.1)];go_enter Tryz.func98,Tryz.ntmps98;go_wp2_with ((go_at_call 102;first|refine(sp_in_t (by omega) _).mono ?_|refine(sp_in_f (by omega) _).mono ?_);rintro e w1 ⟨rfl,rfl⟩);go_ret;exact⟨rfl,kb_alloc2 _ _ _ _⟩
  have g4:(u:Int)<=250:=by omega
  by_cases h5:c<=500
  rotate_left
  ·have g5:¬(c:Int)<=500:=by omega
   rw[dc_f (λq=>h5 q.2.2.2.2.2.1)];go_enter Tryz.func98,Tryz.ntmps98;go_wp2_with ((go_at_call 102;first|refine(sp_in_t (by omega) _).mono ?_|refine(sp_in_f (by omega) _).mono ?_);rintro e w1 ⟨rfl,rfl⟩);go_ret;exact⟨rfl,kb_alloc2 _ _ _ _⟩
  have g5:(c:Int)<=500:=by omega
  by_cases h6:0<p
  ·have g6:(0:Int)<(p:Int):=by omega
   rw[dc_t ⟨h0,h1,h2,h3,h4,h5,Or.inl h6⟩];go_enter Tryz.func98,Tryz.ntmps98;go_wp2_with ((go_at_call 102;first|refine(sp_in_t (by omega) _).mono ?_|refine(sp_in_f (by omega) _).mono ?_);rintro e w1 ⟨rfl,rfl⟩);go_ret;exact⟨rfl,kb_alloc2 _ _ _ _⟩
  have g6:¬(0:Int)<(p:Int):=by omega
  by_cases h7:m=0
  rotate_left
  ·have g7:(m==0)=false:=bne h7;rw[dc_f (λq=>q.2.2.2.2.2.2.elim h6 (λq=>h7 q.1))];go_enter Tryz.func98,Tryz.ntmps98;go_wp2_with ((go_at_call 102;first|refine(sp_in_t (by omega) _).mono ?_|refine(sp_in_f (by omega) _).mono ?_);rintro e w1 ⟨rfl,rfl⟩);go_ret;exact⟨rfl,kb_alloc2 _ _ _ _⟩
  subst h7;by_cases h8:u=0
  rotate_left
  ·have g8:((u:Int)==0)=false:=bne (by omega);rw[dc_f (λq=>q.2.2.2.2.2.2.elim h6 (λq=>h8 q.2))];go_enter Tryz.func98,Tryz.ntmps98;go_wp2_with ((go_at_call 102;first|refine(sp_in_t (by omega) _).mono ?_|refine(sp_in_f (by omega) _).mono ?_);rintro e w1 ⟨rfl,rfl⟩);go_ret;exact⟨rfl,kb_alloc2 _ _ _ _⟩
  have g8:((u:Int)==0)=true:=beq1 (by omega);rw[dc_t ⟨h0,h1,h2,h3,h4,h5,Or.inr ⟨rfl,h8⟩⟩];go_enter Tryz.func98,Tryz.ntmps98;go_wp2_with ((go_at_call 102;first|refine(sp_in_t (by omega) _).mono ?_|refine(sp_in_f (by omega) _).mono ?_);rintro e w1 ⟨rfl,rfl⟩);go_ret;exact⟨rfl,kb_alloc2 _ _ _ _⟩
theorem sp_roles(n:Nat)(h1:1<=n)(h2:n<=42)(w:World):Calls Tryz.prog 62 #[.int .i64 n] w λe w'=>e=.returned (.slice (some ⟨w.heap.size,0,none⟩) 4 4)/\w'=w.alloc (.cells #[.int .i64 (mr n 0:Int),.int .i64 (mr n 1:Int),.int .i64 (mr n 2:Int),.int .i64 (mr n 3:Int)] 3):=by
 by_cases a:n<=14
 ·exact sp_roles0 n h1 a w
 by_cases b:n<=28
 ·exact sp_roles1 n (by omega) b w
 exact sp_roles2 n (by omega) h2 w
theorem sp_noroles(o:Int)(h:¬(1<=o/\o<=42))(w:World):Calls Tryz.prog 62 #[.int .i64 o] w λe w'=>e=.returned (.slice none 0 0)/\w'=w:=by
 have e1:=bne (show o≠1 by omega);have e2:=bne (show o≠2 by omega);have e3:=bne (show o≠3 by omega);have e4:=bne (show o≠4 by omega);have e5:=bne (show o≠5 by omega);have e6:=bne (show o≠6 by omega);have e7:=bne (show o≠7 by omega);have e8:=bne (show o≠8 by omega);have e9:=bne (show o≠9 by omega);have e10:=bne (show o≠10 by omega);have e11:=bne (show o≠11 by omega);have e12:=bne (show o≠12 by omega);have e13:=bne (show o≠13 by omega);have e14:=bne (show o≠14 by omega);have e15:=bne (show o≠15 by omega);have e16:=bne (show o≠16 by omega);have e17:=bne (show o≠17 by omega);have e18:=bne (show o≠18 by omega);have e19:=bne (show o≠19 by omega);have e20:=bne (show o≠20 by omega);have e21:=bne (show o≠21 by omega);have e22:=bne (show o≠22 by omega);have e23:=bne (show o≠23 by omega);have e24:=bne (show o≠24 by omega);have e25:=bne (show o≠25 by omega);have e26:=bne (show o≠26 by omega);have e27:=bne (show o≠27 by omega);have e28:=bne (show o≠28 by omega);have e29:=bne (show o≠29 by omega);have e30:=bne (show o≠30 by omega);have e31:=bne (show o≠31 by omega);have e32:=bne (show o≠32 by omega);have e33:=bne (show o≠33 by omega);have e34:=bne (show o≠34 by omega);have e35:=bne (show o≠35 by omega);have e36:=bne (show o≠36 by omega);have e37:=bne (show o≠37 by omega);have e38:=bne (show o≠38 by omega);have e39:=bne (show o≠39 by omega);have e40:=bne (show o≠40 by omega);have e41:=bne (show o≠41 by omega);have e42:=bne (show o≠42 by omega);clear h;go_enter Tryz.func62,Tryz.ntmps62;go_wp2_with fail;go_ret;exact⟨rfl,rfl⟩
theorem sp_fields(a:Iv)(w:World):Calls Tryz.prog 63 #[insv a] w λe w'=>e=.returned (.slice (some ⟨w.heap.size+1,0,none⟩) 4 4)/\w'=(w.alloc (.cells #[.int .i64 a.o,.int .i64 a.a,.int .i64 a.b,.int .i64 a.c,.int .i64 a.d] 79)).alloc (.cells #[.int .i64 a.a,.int .i64 a.b,.int .i64 a.c,.int .i64 a.d] 3):=by
 unfold insv;go_enter Tryz.func63,Tryz.ntmps63;go_wp2_with fail;go_ret;exact⟨rfl,rfl⟩
theorem sp_fits(w:World)(x:Int)(hn:n<22)(hp:p<np)(hnp:np<=1048576)(hcel:CelP w (A.add (p*9)) d (.slice pu d.u cu) (.slice pc d.c cc) (.slice pn d.n cn) (.slice pm d.d cm))(hu:d.u<=1048576)(hc:d.c<=1048576)(hni:d.n<=1048576)(hg:0<=d.g/\d.g<=250):
  Calls Tryz.prog 131 #[.agg #[.slice (some A) np ca],.int .i64 p,.int .i64 n,.int .i64 x] w λe w'=>e=.returned (.bool (dc (Fit np d (mcl n) x)))/\Kb 0 w w':=by
 obtain⟨d0,d1,d2,d3,d4,d5,d6,d7,d8⟩:=hcel.keep zq (kb_alloc 0 w (.cells #[.slice (some A) np ca] 30));have hpI:(p:Int)<(np:Int):=by omega
 have hnpI:(np:Int)<=1048576:=by omega
 have huI:(d.u:Int)<=1048576:=by omega
 have hcI:(d.c:Int)<=1048576:=by omega
 have hniI:(d.n:Int)<=1048576:=by omega
 clear hp hnp hcel hu hc hni;rcases(by omega:n=0\/n=1\/n=2\/n=3\/n=4\/n=5\/n=6\/n=7\/n=8\/n=9\/n=10\/n=11\/n=12\/n=13\/n=14\/n=15\/n=16\/n=17\/n=18\/n=19\/n=20\/n=21)with rfl|rfl|rfl|rfl|rfl|rfl|rfl|rfl|rfl|rfl|rfl|rfl|rfl|rfl|rfl|rfl|rfl|rfl|rfl|rfl|rfl|rfl
 ·by_cases h:x=0
  ·have g:(x==0)=true:=beq1 h;rw[dc_t (show Fit np d (mcl 0) x from(show(0:Int)<=x/\x<=0 by omega))];clear hn;go_enter Tryz.func131,Tryz.ntmps131;go_wp2_with fail;go_ret;exact⟨by first|rfl|simp[g],kb_alloc2 _ _ _ _⟩
  ·have g:(x==0)=false:=bne h;rw[dc_f (λq:Fit np d (mcl 0) x=>h (by have q:(0:Int)<=x/\x<=0:=q;omega))];clear hn;go_enter Tryz.func131,Tryz.ntmps131;go_wp2_with fail;go_ret;exact⟨by first|rfl|simp[g],kb_alloc2 _ _ _ _⟩
 ·by_cases h:0<=x/\x<=d.g-1
  ·rw[dc_t (show Fit np d (mcl 1) x from h)];clear hn;go_enter Tryz.func131,Tryz.ntmps131;go_wp2_with ((go_at_call 102;first|refine(sp_in_t (by omega) _).mono ?_|refine(sp_in_f (by omega) _).mono ?_);rintro e w1 ⟨rfl,rfl⟩);go_ret;exact⟨rfl,kb_alloc2 _ _ _ _⟩
  ·rw[dc_f (show ¬Fit np d (mcl 1) x from h)];clear hn;go_enter Tryz.func131,Tryz.ntmps131;go_wp2_with ((go_at_call 102;first|refine(sp_in_t (by omega) _).mono ?_|refine(sp_in_f (by omega) _).mono ?_);rintro e w1 ⟨rfl,rfl⟩);go_ret;exact⟨rfl,kb_alloc2 _ _ _ _⟩
 ·by_cases h:-d.g<=x/\x<=d.g-1
  ·rw[dc_t (show Fit np d (mcl 2) x from h)];clear hn;go_enter Tryz.func131,Tryz.ntmps131;go_wp2_with ((go_at_call 102;first|refine(sp_in_t (by omega) _).mono ?_|refine(sp_in_f (by omega) _).mono ?_);rintro e w1 ⟨rfl,rfl⟩);go_ret;exact⟨rfl,kb_alloc2 _ _ _ _⟩
  ·rw[dc_f (show ¬Fit np d (mcl 2) x from h)];clear hn;go_enter Tryz.func131,Tryz.ntmps131;go_wp2_with ((go_at_call 102;first|refine(sp_in_t (by omega) _).mono ?_|refine(sp_in_f (by omega) _).mono ?_);rintro e w1 ⟨rfl,rfl⟩);go_ret;exact⟨rfl,kb_alloc2 _ _ _ _⟩
 ·by_cases h:-d.g<=x/\x<=d.g-1
  ·rw[dc_t (show Fit np d (mcl 3) x from h)];clear hn;go_enter Tryz.func131,Tryz.ntmps131;go_wp2_with ((go_at_call 102;first|refine(sp_in_t (by omega) _).mono ?_|refine(sp_in_f (by omega) _).mono ?_);rintro e w1 ⟨rfl,rfl⟩);go_ret;exact⟨rfl,kb_alloc2 _ _ _ _⟩
  ·rw[dc_f (show ¬Fit np d (mcl 3) x from h)];clear hn;go_enter Tryz.func131,Tryz.ntmps131;go_wp2_with ((go_at_call 102;first|refine(sp_in_t (by omega) _).mono ?_|refine(sp_in_f (by omega) _).mono ?_);rintro e w1 ⟨rfl,rfl⟩);go_ret;exact⟨rfl,kb_alloc2 _ _ _ _⟩
 ·by_cases h:0<=x/\x<=d.g-1
  ·rw[dc_t (show Fit np d (mcl 4) x from h)];clear hn;go_enter Tryz.func131,Tryz.ntmps131;go_wp2_with ((go_at_call 102;first|refine(sp_in_t (by omega) _).mono ?_|refine(sp_in_f (by omega) _).mono ?_);rintro e w1 ⟨rfl,rfl⟩);go_ret;exact⟨rfl,kb_alloc2 _ _ _ _⟩
  ·rw[dc_f (show ¬Fit np d (mcl 4) x from h)];clear hn;go_enter Tryz.func131,Tryz.ntmps131;go_wp2_with ((go_at_call 102;first|refine(sp_in_t (by omega) _).mono ?_|refine(sp_in_f (by omega) _).mono ?_);rintro e w1 ⟨rfl,rfl⟩);go_ret;exact⟨rfl,kb_alloc2 _ _ _ _⟩
 ·by_cases h:0<=x/\x<=d.g-1
  ·rw[dc_t (show Fit np d (mcl 5) x from h)];clear hn;go_enter Tryz.func131,Tryz.ntmps131;go_wp2_with ((go_at_call 102;first|refine(sp_in_t (by omega) _).mono ?_|refine(sp_in_f (by omega) _).mono ?_);rintro e w1 ⟨rfl,rfl⟩);go_ret;exact⟨rfl,kb_alloc2 _ _ _ _⟩
  ·rw[dc_f (show ¬Fit np d (mcl 5) x from h)];clear hn;go_enter Tryz.func131,Tryz.ntmps131;go_wp2_with ((go_at_call 102;first|refine(sp_in_t (by omega) _).mono ?_|refine(sp_in_f (by omega) _).mono ?_);rintro e w1 ⟨rfl,rfl⟩);go_ret;exact⟨rfl,kb_alloc2 _ _ _ _⟩
 ·by_cases h:0<=x/\x<=d.g-1
  ·rw[dc_t (show Fit np d (mcl 6) x from h)];clear hn;go_enter Tryz.func131,Tryz.ntmps131;go_wp2_with ((go_at_call 102;first|refine(sp_in_t (by omega) _).mono ?_|refine(sp_in_f (by omega) _).mono ?_);rintro e w1 ⟨rfl,rfl⟩);go_ret;exact⟨rfl,kb_alloc2 _ _ _ _⟩
  ·rw[dc_f (show ¬Fit np d (mcl 6) x from h)];clear hn;go_enter Tryz.func131,Tryz.ntmps131;go_wp2_with ((go_at_call 102;first|refine(sp_in_t (by omega) _).mono ?_|refine(sp_in_f (by omega) _).mono ?_);rintro e w1 ⟨rfl,rfl⟩);go_ret;exact⟨rfl,kb_alloc2 _ _ _ _⟩
 ·by_cases h:0<=x/\x<=(d.c:Int)-1
  ·rw[dc_t (show Fit np d (mcl 7) x from h)];clear hn;go_enter Tryz.func131,Tryz.ntmps131;go_wp2_with ((go_at_call 102;first|refine(sp_in_t (by omega) _).mono ?_|refine(sp_in_f (by omega) _).mono ?_);rintro e w1 ⟨rfl,rfl⟩);go_ret;exact⟨rfl,kb_alloc2 _ _ _ _⟩
  ·rw[dc_f (show ¬Fit np d (mcl 7) x from h)];clear hn;go_enter Tryz.func131,Tryz.ntmps131;go_wp2_with ((go_at_call 102;first|refine(sp_in_t (by omega) _).mono ?_|refine(sp_in_f (by omega) _).mono ?_);rintro e w1 ⟨rfl,rfl⟩);go_ret;exact⟨rfl,kb_alloc2 _ _ _ _⟩
 ·by_cases h:0<=x/\x<=(d.u:Int)-1
  ·rw[dc_t (show Fit np d (mcl 8) x from h)];clear hn;go_enter Tryz.func131,Tryz.ntmps131;go_wp2_with ((go_at_call 102;first|refine(sp_in_t (by omega) _).mono ?_|refine(sp_in_f (by omega) _).mono ?_);rintro e w1 ⟨rfl,rfl⟩);go_ret;exact⟨rfl,kb_alloc2 _ _ _ _⟩
  ·rw[dc_f (show ¬Fit np d (mcl 8) x from h)];clear hn;go_enter Tryz.func131,Tryz.ntmps131;go_wp2_with ((go_at_call 102;first|refine(sp_in_t (by omega) _).mono ?_|refine(sp_in_f (by omega) _).mono ?_);rintro e w1 ⟨rfl,rfl⟩);go_ret;exact⟨rfl,kb_alloc2 _ _ _ _⟩
 ·by_cases h:0<=x/\x<=(np:Int)-1
  ·rw[dc_t (show Fit np d (mcl 9) x from h)];clear hn;go_enter Tryz.func131,Tryz.ntmps131;go_wp2_with ((go_at_call 102;first|refine(sp_in_t (by omega) _).mono ?_|refine(sp_in_f (by omega) _).mono ?_);rintro e w1 ⟨rfl,rfl⟩);go_ret;exact⟨rfl,kb_alloc2 _ _ _ _⟩
  ·rw[dc_f (show ¬Fit np d (mcl 9) x from h)];clear hn;go_enter Tryz.func131,Tryz.ntmps131;go_wp2_with ((go_at_call 102;first|refine(sp_in_t (by omega) _).mono ?_|refine(sp_in_f (by omega) _).mono ?_);rintro e w1 ⟨rfl,rfl⟩);go_ret;exact⟨rfl,kb_alloc2 _ _ _ _⟩
 ·by_cases h:0<=x/\x<=(d.n:Int)-1
  ·rw[dc_t (show Fit np d (mcl 10) x from h)];clear hn;go_enter Tryz.func131,Tryz.ntmps131;go_wp2_with ((go_at_call 102;first|refine(sp_in_t (by omega) _).mono ?_|refine(sp_in_f (by omega) _).mono ?_);rintro e w1 ⟨rfl,rfl⟩);go_ret;exact⟨rfl,kb_alloc2 _ _ _ _⟩
  ·rw[dc_f (show ¬Fit np d (mcl 10) x from h)];clear hn;go_enter Tryz.func131,Tryz.ntmps131;go_wp2_with ((go_at_call 102;first|refine(sp_in_t (by omega) _).mono ?_|refine(sp_in_f (by omega) _).mono ?_);rintro e w1 ⟨rfl,rfl⟩);go_ret;exact⟨rfl,kb_alloc2 _ _ _ _⟩
 ·by_cases h:1<=x/\x<=100000
  ·rw[dc_t (show Fit np d (mcl 11) x from h)];clear hn;go_enter Tryz.func131,Tryz.ntmps131;go_wp2_with ((go_at_call 102;first|refine(sp_in_t (by omega) _).mono ?_|refine(sp_in_f (by omega) _).mono ?_);rintro e w1 ⟨rfl,rfl⟩);go_ret;exact⟨rfl,kb_alloc2 _ _ _ _⟩
  ·rw[dc_f (show ¬Fit np d (mcl 11) x from h)];clear hn;go_enter Tryz.func131,Tryz.ntmps131;go_wp2_with ((go_at_call 102;first|refine(sp_in_t (by omega) _).mono ?_|refine(sp_in_f (by omega) _).mono ?_);rintro e w1 ⟨rfl,rfl⟩);go_ret;exact⟨rfl,kb_alloc2 _ _ _ _⟩
 ·by_cases h:0<=x/\x<=100000
  ·rw[dc_t (show Fit np d (mcl 12) x from h)];clear hn;go_enter Tryz.func131,Tryz.ntmps131;go_wp2_with ((go_at_call 102;first|refine(sp_in_t (by omega) _).mono ?_|refine(sp_in_f (by omega) _).mono ?_);rintro e w1 ⟨rfl,rfl⟩);go_ret;exact⟨rfl,kb_alloc2 _ _ _ _⟩
  ·rw[dc_f (show ¬Fit np d (mcl 12) x from h)];clear hn;go_enter Tryz.func131,Tryz.ntmps131;go_wp2_with ((go_at_call 102;first|refine(sp_in_t (by omega) _).mono ?_|refine(sp_in_f (by omega) _).mono ?_);rintro e w1 ⟨rfl,rfl⟩);go_ret;exact⟨rfl,kb_alloc2 _ _ _ _⟩
 ·by_cases h:0<=x/\x<=d.g
  ·rw[dc_t (show Fit np d (mcl 13) x from h)];clear hn;go_enter Tryz.func131,Tryz.ntmps131;go_wp2_with ((go_at_call 102;first|refine(sp_in_t (by omega) _).mono ?_|refine(sp_in_f (by omega) _).mono ?_);rintro e w1 ⟨rfl,rfl⟩);go_ret;exact⟨rfl,kb_alloc2 _ _ _ _⟩
  ·rw[dc_f (show ¬Fit np d (mcl 13) x from h)];clear hn;go_enter Tryz.func131,Tryz.ntmps131;go_wp2_with ((go_at_call 102;first|refine(sp_in_t (by omega) _).mono ?_|refine(sp_in_f (by omega) _).mono ?_);rintro e w1 ⟨rfl,rfl⟩);go_ret;exact⟨rfl,kb_alloc2 _ _ _ _⟩
 ·by_cases h:0<=x/\x<=d.g-2
  ·rw[dc_t (show Fit np d (mcl 14) x from h)];clear hn;go_enter Tryz.func131,Tryz.ntmps131;go_wp2_with ((go_at_call 102;first|refine(sp_in_t (by omega) _).mono ?_|refine(sp_in_f (by omega) _).mono ?_);rintro e w1 ⟨rfl,rfl⟩);go_ret;exact⟨rfl,kb_alloc2 _ _ _ _⟩
  ·rw[dc_f (show ¬Fit np d (mcl 14) x from h)];clear hn;go_enter Tryz.func131,Tryz.ntmps131;go_wp2_with ((go_at_call 102;first|refine(sp_in_t (by omega) _).mono ?_|refine(sp_in_f (by omega) _).mono ?_);rintro e w1 ⟨rfl,rfl⟩);go_ret;exact⟨rfl,kb_alloc2 _ _ _ _⟩
 ·by_cases h:19<=x/\x<=22
  ·rw[dc_t (show Fit np d (mcl 15) x from h)];clear hn;go_enter Tryz.func131,Tryz.ntmps131;go_wp2_with ((go_at_call 102;first|refine(sp_in_t (by omega) _).mono ?_|refine(sp_in_f (by omega) _).mono ?_);rintro e w1 ⟨rfl,rfl⟩);go_ret;exact⟨rfl,kb_alloc2 _ _ _ _⟩
  ·rw[dc_f (show ¬Fit np d (mcl 15) x from h)];clear hn;go_enter Tryz.func131,Tryz.ntmps131;go_wp2_with ((go_at_call 102;first|refine(sp_in_t (by omega) _).mono ?_|refine(sp_in_f (by omega) _).mono ?_);rintro e w1 ⟨rfl,rfl⟩);go_ret;exact⟨rfl,kb_alloc2 _ _ _ _⟩
 ·by_cases h:1<=x/\x<=18
  ·rw[dc_t (show Fit np d (mcl 16) x from h)];clear hn;go_enter Tryz.func131,Tryz.ntmps131;go_wp2_with ((go_at_call 102;first|refine(sp_in_t (by omega) _).mono ?_|refine(sp_in_f (by omega) _).mono ?_);rintro e w1 ⟨rfl,rfl⟩);go_ret;exact⟨rfl,kb_alloc2 _ _ _ _⟩
  ·rw[dc_f (show ¬Fit np d (mcl 16) x from h)];clear hn;go_enter Tryz.func131,Tryz.ntmps131;go_wp2_with ((go_at_call 102;first|refine(sp_in_t (by omega) _).mono ?_|refine(sp_in_f (by omega) _).mono ?_);rintro e w1 ⟨rfl,rfl⟩);go_ret;exact⟨rfl,kb_alloc2 _ _ _ _⟩
 ·by_cases h:0<=x/\x<=250
  ·rw[dc_t (show Fit np d (mcl 17) x from h)];clear hn;go_enter Tryz.func131,Tryz.ntmps131;go_wp2_with ((go_at_call 102;first|refine(sp_in_t (by omega) _).mono ?_|refine(sp_in_f (by omega) _).mono ?_);rintro e w1 ⟨rfl,rfl⟩);go_ret;exact⟨rfl,kb_alloc2 _ _ _ _⟩
  ·rw[dc_f (show ¬Fit np d (mcl 17) x from h)];clear hn;go_enter Tryz.func131,Tryz.ntmps131;go_wp2_with ((go_at_call 102;first|refine(sp_in_t (by omega) _).mono ?_|refine(sp_in_f (by omega) _).mono ?_);rintro e w1 ⟨rfl,rfl⟩);go_ret;exact⟨rfl,kb_alloc2 _ _ _ _⟩
 ·by_cases h:0<=x/\x<=d.g-3
  ·rw[dc_t (show Fit np d (mcl 18) x from h)];clear hn;go_enter Tryz.func131,Tryz.ntmps131;go_wp2_with ((go_at_call 102;first|refine(sp_in_t (by omega) _).mono ?_|refine(sp_in_f (by omega) _).mono ?_);rintro e w1 ⟨rfl,rfl⟩);go_ret;exact⟨rfl,kb_alloc2 _ _ _ _⟩
  ·rw[dc_f (show ¬Fit np d (mcl 18) x from h)];clear hn;go_enter Tryz.func131,Tryz.ntmps131;go_wp2_with ((go_at_call 102;first|refine(sp_in_t (by omega) _).mono ?_|refine(sp_in_f (by omega) _).mono ?_);rintro e w1 ⟨rfl,rfl⟩);go_ret;exact⟨rfl,kb_alloc2 _ _ _ _⟩
 ·by_cases h:0<=x/\x<=d.g-2
  ·rw[dc_t (show Fit np d (mcl 19) x from h)];clear hn;go_enter Tryz.func131,Tryz.ntmps131;go_wp2_with ((go_at_call 102;first|refine(sp_in_t (by omega) _).mono ?_|refine(sp_in_f (by omega) _).mono ?_);rintro e w1 ⟨rfl,rfl⟩);go_ret;exact⟨rfl,kb_alloc2 _ _ _ _⟩
  ·rw[dc_f (show ¬Fit np d (mcl 19) x from h)];clear hn;go_enter Tryz.func131,Tryz.ntmps131;go_wp2_with ((go_at_call 102;first|refine(sp_in_t (by omega) _).mono ?_|refine(sp_in_f (by omega) _).mono ?_);rintro e w1 ⟨rfl,rfl⟩);go_ret;exact⟨rfl,kb_alloc2 _ _ _ _⟩
 ·by_cases h:0<=x/\x<=d.g-2
  ·rw[dc_t (show Fit np d (mcl 20) x from h)];clear hn;go_enter Tryz.func131,Tryz.ntmps131;go_wp2_with ((go_at_call 102;first|refine(sp_in_t (by omega) _).mono ?_|refine(sp_in_f (by omega) _).mono ?_);rintro e w1 ⟨rfl,rfl⟩);go_ret;exact⟨rfl,kb_alloc2 _ _ _ _⟩
  ·rw[dc_f (show ¬Fit np d (mcl 20) x from h)];clear hn;go_enter Tryz.func131,Tryz.ntmps131;go_wp2_with ((go_at_call 102;first|refine(sp_in_t (by omega) _).mono ?_|refine(sp_in_f (by omega) _).mono ?_);rintro e w1 ⟨rfl,rfl⟩);go_ret;exact⟨rfl,kb_alloc2 _ _ _ _⟩
 ·by_cases h:0<=x/\x<=d.g-1
  ·rw[dc_t (show Fit np d (mcl 21) x from h)];clear hn;go_enter Tryz.func131,Tryz.ntmps131;go_wp2_with ((go_at_call 102;first|refine(sp_in_t (by omega) _).mono ?_|refine(sp_in_f (by omega) _).mono ?_);rintro e w1 ⟨rfl,rfl⟩);go_ret;exact⟨rfl,kb_alloc2 _ _ _ _⟩
  ·rw[dc_f (show ¬Fit np d (mcl 21) x from h)];clear hn;go_enter Tryz.func131,Tryz.ntmps131;go_wp2_with ((go_at_call 102;first|refine(sp_in_t (by omega) _).mono ?_|refine(sp_in_f (by omega) _).mono ?_);rintro e w1 ⟨rfl,rfl⟩);go_ret;exact⟨rfl,kb_alloc2 _ _ _ _⟩
theorem two_new(w:World)(a b:Array Value)(t1 t2:TypeId)(W:World)(h:W=(w.alloc (.cells a t1)).alloc (.cells b t2)):W.heap[w.heap.size]? =some (.cells a t1 (0,0))/\W.heap[w.heap.size+1]? =some (.cells b t2 (0,0))/\W.heap.size=w.heap.size+2/\Kb 0 w W:=by
 subst h;have e1:(w.alloc (.cells a t1)).heap.size=w.heap.size+1:=World.size_alloc _ _;refine⟨?_,?_,by rw[World.size_alloc,e1],kb_alloc2 _ _ _ _⟩
 ·rw[(kb_alloc 0 _ _).block _ zq (by omega)];exact alloc_new _ _ _
 ·rw[<-e1];exact alloc_new _ _ _
theorem four_cells{w:World}{a b c d:Value}{t:TypeId}(h:w.heap[g]? =some (.cells #[a,b,c,d] t (0,0)))(E:Nat->Value)(h0:E 0=a)(h1:E 1=b)(h2:E 2=c)(h3:E 3=d):∀j,j<4->w.cell? ((⟨g,0,none⟩:Addr).add j)=some (E j):=by
 intro j hj;rw[addr0];rcases(by omega:j=0\/j=1\/j=2\/j=3)with rfl|rfl|rfl|rfl
 ·rw[h0];exact cell_of h rfl
 ·rw[h1];exact cell_of h rfl
 ·rw[h2];exact cell_of h rfl
 ·rw[h3];exact cell_of h rfl
theorem sp_roles'(n:Nat)(h1:1<=n)(h2:n<=42)(w:World):Calls Tryz.prog 62 #[.int .i64 n] w λe w'=>∃F:Addr,e=.returned (.slice (some F) 4 4)/\(∀j,j<4->w'.cell? (F.add j)=some (.int .i64 (mr n j:Int)))/\Kb 0 w w':=by
 refine(sp_roles n h1 h2 w).mono ?_;rintro e w' ⟨rfl,rfl⟩;exact⟨⟨w.heap.size,0,none⟩,rfl,four_cells (alloc_new w _ _) (λj=>.int .i64 (mr n j:Int)) rfl rfl rfl rfl,kb_alloc _ _ _⟩
theorem sp_fields'(a:Iv)(w:World):Calls Tryz.prog 63 #[insv a] w λe w'=>∃F:Addr,e=.returned (.slice (some F) 4 4)/\(∀j,j<4->w'.cell? (F.add j)=some (.int .i64 (fld a j)))/\Kb 0 w w':=by
 refine(sp_fields a w).mono ?_;rintro e w' ⟨rfl,rfl⟩;obtain⟨-,h2,-,k⟩:=two_new w _ _ _ _ _ rfl;exact⟨⟨w.heap.size+1,0,none⟩,rfl,four_cells h2 (λj=>.int .i64 (fld a j)) rfl rfl rfl rfl,k⟩
theorem sp_insok(w:World)(hp:p<np)(hnp:np<=1048576)(hcel:CelP w (A.add (p*9)) d (.slice pu d.u cu) (.slice pc d.c cc) (.slice pn d.n cn) (.slice pm d.d cm))(hrow:RowI 0 w (.slice pn d.n cn) d.n d.N)(hi:i<d.n)(hu:d.u<=1048576)(hc:d.c<=1048576)(hni:d.n<=1048576)(hg:0<=d.g/\d.g<=250):
  Calls Tryz.prog 101 #[.agg #[.slice (some A) np ca],.int .i64 p,.int .i64 i] w λe w'=>e=.returned (.bool (dc (Iok np d i)))/\Kb 0 w w':=by
 have hcelK:∀W,Kb 0 w W->CelP W (A.add (p*9)) d (.slice pu d.u cu) (.slice pc d.c cc) (.slice pn d.n cn) (.slice pm d.d cm):=λW k=>hcel.keep zq k;obtain⟨d0,d1,d2,d3,d4,d5,d6,d7,d8⟩:=hcelK _ (kb_alloc 0 w (.cells #[.slice (some A) np ca] 30));obtain⟨pn',cn',e1,hrow2⟩:=hrow;obtain⟨rfl,-,rfl⟩:pn=pn'/\d.n=d.n/\cn=cn':=by simpa using e1
 obtain⟨b,rfl,hcb,-,hrb⟩:=hrow2 (by omega);obtain⟨q0,q1,q2,q3,q4⟩:=(hrb i hi).keep zq (kb_alloc 0 w (.cells #[.slice (some A) np ca] 30));have hpI:(p:Int)<(np:Int):=by omega
 have hnpI:(np:Int)<=1048576:=by omega
 have hiI:(i:Int)<(d.n:Int):=by omega
 have hniI:(d.n:Int)<=1048576:=by omega
 clear hrow2 hrb e1 d0 d1 d2 d3 d4 d5 d6 d8;by_cases ho:1<=(d.N i).o/\(d.N i).o<=42
 rotate_left
 ·rw[dc_f (λq:Iok np d i=>ho ⟨q.1.1,q.1.2.1⟩)];have HN:=λW=>sp_noroles (d.N i).o ho W;clear ho hcelK hcel hu hc;go_enter Tryz.func101,Tryz.ntmps101;go_wp2_with (go_at_call 62;refine(HN _).mono ?_;rintro e w1 ⟨rfl,rfl⟩);go_ret;exact⟨rfl,kb_alloc2 _ _ _ _⟩
 obtain⟨n,hn⟩:∃n:Nat,(d.N i).o=(n:Int):=⟨(d.N i).o.toNat,by omega⟩
 obtain⟨R,hR⟩:∃R,R=dc (Iok np d i):=⟨_,rfl⟩
 rw[<-hR]
 have HFT:∀(P:Prop),(∀j,j<4->Fit np d (mcl (mr n j)) (fld (d.N i) j))->(Iok np d i↔(i+1=d.n->Ends (d.N i).o)):=λ_ h=>⟨λq=>q.2,λq=>⟨⟨ho.1,ho.2,λj hj=>by
  have e:=cl_eq0 n (by omega) j hj;rw[show(d.N i).o.toNat=n by omega,e.1]
  exact h j hj⟩,q⟩⟩
 have HFF:∀j,j<4->¬Fit np d (mcl (mr n j)) (fld (d.N i) j)->¬Iok np d i:=λj hj h q=>h (by
  have e:=cl_eq0 n (by omega) j hj;rw[<-e.1];have:=q.1.2.2 j hj
  rwa [show(d.N i).o.toNat=n by omega]at this)
 have HR:Hid (R=dc (Iok np d i)/\(∀(P:Prop),(∀j,j<4->Fit np d (mcl (mr n j)) (fld (d.N i) j))->(Iok np d i↔(i+1=d.n->Ends (d.N i).o)))/\∀j,j<4->¬Fit np d (mcl (mr n j)) (fld (d.N i) j)->¬Iok np d i):=(⟨hR,HFT,HFF⟩:_/\_)
 have HY:Hid ((∀W,Kb 0 w W->CelP W (A.add (p*9)) d (.slice pu d.u cu) (.slice pc d.c cc) (.slice (some b) d.n cn) (.slice pm d.d cm))/\(p<np/\np<=1048576/\d.u<=1048576/\d.c<=1048576/\d.n<=1048576/\(0<=d.g/\d.g<=250))/\(1<=n/\n<=42)):=(⟨hcelK,⟨hp,hnp,hu,hc,hni,hg⟩,(by omega:1<=n/\n<=42)⟩:_/\_)
 have HRO:=λW=>sp_roles' n (by omega) (by omega) W;rw[<-hn]at HRO;clear hR HFT HFF hcelK hcel hp hnp hu hc hni hg ho hi hn;generalize d.N i=a at*;have HFD:=λW=>sp_fields' a W;unfold insv at HFD;obtain⟨w2,hw2⟩:∃w2,w2=(w.alloc (.cells #[.slice (some A) np ca] 30)).alloc (.cells #[.int .i64 a.o,.int .i64 a.a,.int .i64 a.b,.int .i64 a.c,.int .i64 a.d] 79):=⟨_,rfl⟩
 have HW:Hid (w2=(w.alloc (.cells #[.slice (some A) np ca] 30)).alloc (.cells #[.int .i64 a.o,.int .i64 a.a,.int .i64 a.b,.int .i64 a.c,.int .i64 a.d] 79)):=hw2;obtain⟨b0,b1,bs,k2⟩:=two_new w _ _ _ _ w2 hw2;have HB:Hid (w2.heap[w.heap.size]? =some (.cells #[.slice (some A) np ca] 30 (0,0))/\w2.heap[w.heap.size+1]? =some (.cells #[.int .i64 a.o,.int .i64 a.a,.int .i64 a.b,.int .i64 a.c,.int .i64 a.d] 79 (0,0))/\w2.heap.size=w.heap.size+2/\Kb 0 w w2):=(⟨b0,b1,bs,k2⟩:_/\_)
 clear hw2 b0 b1 bs k2;go_enter Tryz.func101,Tryz.ntmps101;go_wp2_with fail;rw[<-(uh HW)];clear HW q0 q1 q2 q3 q4 d7;refine(HRO w2).mono ?_;rintro e w3 ⟨F,rfl,hF,k3⟩;clear HRO;obtain⟨b0,b1,bs,k2⟩:=(uh HB)
 have c0:w3.cell? ⟨w.heap.size,0,none⟩=some (.slice (some A) np ca):=k3.cell (cell_of b0 rfl);have i0:w3.cell? ⟨w.heap.size+1,0,none⟩=some (.int .i64 a.o):=k3.cell (cell_of b1 rfl);have i1:w3.cell? ⟨w.heap.size+1,1,none⟩=some (.int .i64 a.a):=k3.cell (cell_of b1 rfl);have i2:w3.cell? ⟨w.heap.size+1,2,none⟩=some (.int .i64 a.b):=k3.cell (cell_of b1 rfl);have i3:w3.cell? ⟨w.heap.size+1,3,none⟩=some (.int .i64 a.c):=k3.cell (cell_of b1 rfl);have i4:w3.cell? ⟨w.heap.size+1,4,none⟩=some (.int .i64 a.d):=k3.cell (cell_of b1 rfl);have HK3:Hid (Kb 0 w w3/\∀j,j<4->w3.cell? (F.add j)=some (.int .i64 (mr n j:Int))):=(⟨k2.trans k3,hF⟩:_/\_)
 clear HB b0 b1 bs k2 k3 hF;go_wp2_with fail;refine(HFD w3).mono ?_;rintro e w4 ⟨G,rfl,hG,k4⟩
 have HS:Hid (Kb 0 w w4/\w4.cell? ⟨w.heap.size,0,none⟩=some (.slice (some A) np ca)/\w4.cell? ⟨w.heap.size+1,0,none⟩=some (.int .i64 a.o)/\(∀j,j<4->w4.cell? (F.add j)=some (.int .i64 (mr n j:Int)))/\∀j,j<4->w4.cell? (G.add j)=some (.int .i64 (fld a j))):=by
  obtain⟨k3,hF⟩:=(uh HK3)
  exact(show _/\_/\_/\_/\_ from⟨k3.trans k4,k4.cell c0,k4.cell i0,λj hj=>k4.cell (hF j hj),hG⟩)
 clear HK3 c0 i0 i1 i2 i3 i4 hG k4 HFD;go_wp2_with fail
 go_loopw [30] (λs30 wr=>∃j:Nat,s30=.int .i64 j/\j<=4/\Hid (Kb 0 w4 wr/\∀y,y<j->Fit np d (mcl (mr n y)) (fld a y))) (λs30 _=>4-(intOf s30).toNat)
 case atStart=>exact⟨0,rfl,Nat.zero_le _,(⟨Kb.refl _ _,λy h=>by omega⟩:_/\_)⟩
 case round=>
  obtain⟨j,rfl,hj,HX⟩:=hrel;obtain⟨kw,hX⟩:=(uh HX)
  obtain⟨k4,c0,i0,hF,hG⟩:=(uh HS)
  obtain⟨hcel,⟨hp,hnp,hu,hc,hni,hg⟩,h1,h42⟩:=(uh HY)
  obtain⟨hR,HFT,HFF⟩:=(uh HR)
  have c0r:=kw.cell c0;rcases Nat.lt_or_ge j 4 with h|h
  ·have hI:(j:Int)<4:=by omega
   have a0:=kw.cell (hF j h);have a1:=kw.cell (hG j h)
   have heq:∀W',W'.heap=wr.heap->W'.os=wr.os->W'.output=wr.output->Calls Tryz.prog 131 #[.agg #[.slice (some A) np ca],.int .i64 p,.int .i64 (mr n j:Int),.int .i64 (fld a j)] W' λe w'=>e=.returned (.bool (dc (Fit np d (mcl (mr n j)) (fld a j))))/\Kb 0 wr w':=λW' e0 e1 e2=>by
    have kk:Kb 0 wr W':=⟨e1,e2,by rw[e0];exact Nat.le_refl _,λk _ _=>by rw[e0]⟩
    refine(sp_fits W' (fld a j) (cl_eq0 n (by omega) j h).2.2 hp hnp (hcel W' ((k4.trans kw).trans kk)) hu hc hni hg).mono ?_;rintro e w' ⟨rfl,k⟩;exact⟨rfl,kk.trans k⟩
   have HKEEP:Hid (∀(W':World),Kb 0 wr W'->W'.cell? ⟨w.heap.size,0,none⟩=some (.slice (some A) np ca)/\W'.cell? (F.add j)=some (.int .i64 (mr n j:Int))):=by
    show ∀(W':World),_;intro W' k;exact⟨k.cell c0r,k.cell a0⟩
   by_cases hft:Fit np d (mcl (mr n j)) (fld a j)
   ·rw[dc_t hft]at heq
    have HX2:Hid (∀W,Kb 0 wr W->Kb 0 w4 W/\∀y,y<j+1->Fit np d (mcl (mr n y)) (fld a y)):=(λW k=>⟨kw.trans k,λy h2=>by
     by_cases e:y=j
     ·subst e;exact hft
     ·exact hX y (by omega)⟩:∀W,_)
    have HEQ:Hid (∀W',W'.heap=wr.heap->W'.os=wr.os->W'.output=wr.output->Calls Tryz.prog 131 #[.agg #[.slice (some A) np ca],.int .i64 p,.int .i64 (mr n j:Int),.int .i64 (fld a j)] W' λe w'=>e=.returned (.bool true)/\Kb 0 wr w'):=heq;clear HX hX kw hft heq hR HFT HFF hcel hp hnp hu hc hni hg h1 h42 hF hG k4 c0 i0;generalize fld a j=xj at*;generalize mr n j=mj at*;go_wp2_with fail
    go_region_held_law (λW'=>W'.cell? ⟨w.heap.size,0,none⟩=some (.slice (some A) np ca)/\W'.cell? (F.add j)=some (.int .i64 mj)) (first|exact⟨c0r,a0⟩|exact(uh HKEEP) _ k5)
     ((go_at_call 131;refine((uh HEQ) _ (by exact rfl) (by exact rfl) (by exact rfl)).mono ?_;rintro e w5 ⟨rfl,k5⟩))
    all_goals
     have HX3:Hid (Kb 0 w4 w5/\∀y,y<j+1->Fit np d (mcl (mr n y)) (fld a y)):=(uh HX2) w5 k5;clear HX2 HKEEP HEQ k5 a0 a1 c0r;go_wp2_with fail;go_roundw
     case rel=>exact⟨j+1,by go_num,by omega,HX3⟩
     case measure=>simp[intOf];omega
   ·rw[dc_f hft]at heq;have HX2:Hid (∀W,Kb 0 wr W->Kb 0 w W):=(λW k=>(k4.trans kw).trans k:∀W,_)
    have HEQ:Hid (∀W',W'.heap=wr.heap->W'.os=wr.os->W'.output=wr.output->Calls Tryz.prog 131 #[.agg #[.slice (some A) np ca],.int .i64 p,.int .i64 (mr n j:Int),.int .i64 (fld a j)] W' λe w'=>e=.returned (.bool false)/\Kb 0 wr w'):=heq;have hF0:R=false:=by rw[hR];exact dc_f (HFF j h hft)
    subst hF0;clear HX hX kw hft heq hR HFT HFF hcel hp hnp hu hc hni hg h1 h42 hF hG k4 c0 i0 HR;generalize fld a j=xj at*;generalize mr n j=mj at*;go_wp2_with fail
    go_region_held_law (λW'=>W'.cell? ⟨w.heap.size,0,none⟩=some (.slice (some A) np ca)/\W'.cell? (F.add j)=some (.int .i64 mj)) (first|exact⟨c0r,a0⟩|exact(uh HKEEP) _ k5)
     ((go_at_call 131;refine((uh HEQ) _ (by exact rfl) (by exact rfl) (by exact rfl)).mono ?_;rintro e w5 ⟨rfl,k5⟩))
    all_goals
     have HX3:Hid (Kb 0 w w5):=(uh HX2) w5 k5;clear HX2 HKEEP HEQ k5 a0 a1 c0r;go_wp2_with fail;go_ret;exact⟨rfl,HX3⟩
  ·obtain rfl:j=4:=by omega
   obtain⟨d0,d1,d2,d3,d4,d5,d6,d7,d8⟩:=hcel wr (k4.trans kw);have i0r:=kw.cell i0;have hIff:=HFT True hX;have HK:Hid (Kb 0 w wr):=k4.trans kw;clear HX hX kw HFT HFF hcel hp hnp hu hc hni hg h1 h42 hF hG k4 c0 i0 HR d0 d1 d2 d3 d4 d5 d6 d8 HS HY;by_cases hl:i+1=d.n
   ·have gl:((i:Int)==(d.n:Int)-1)=true:=beq1 (by omega);by_cases o1:a.o=19
    ·have hT:R=true:=by rw[hR];exact dc_t (hIff.2 (λ_=>.inl o1))
     subst hT;have g1:=beq1 o1;clear hIff hR o1 hl;go_wp2_with fail;go_ret;exact⟨by first|rfl|simp[g1],HK⟩
    by_cases o2:a.o=29
    ·have hT:R=true:=by rw[hR];exact dc_t (hIff.2 (λ_=>.inr (.inl o2)))
     subst hT;have g1:=bne o1;have g2:=beq1 o2;clear hIff hR o1 o2 hl;go_wp2_with fail;go_ret;exact⟨by first|rfl|simp[g1,g2],HK⟩
    by_cases o3:a.o=30
    ·have hT:R=true:=by rw[hR];exact dc_t (hIff.2 (λ_=>.inr (.inr o3)))
     subst hT;have g1:=bne o1;have g2:=bne o2;have g3:=beq1 o3;clear hIff hR o1 o2 o3 hl;go_wp2_with fail;go_ret;exact⟨by first|rfl|simp[g1,g2,g3],HK⟩
    ·have hT:R=false:=by rw[hR];exact dc_f (λq=>((hIff.1 q) hl).elim o1 (λq=>q.elim o2 o3))
     subst hT;have g1:=bne o1;have g2:=bne o2;have g3:=bne o3;clear hIff hR o1 o2 o3 hl;go_wp2_with fail;go_ret;exact⟨by first|rfl|simp[g1,g2,g3],HK⟩
   ·have gl:((i:Int)==(d.n:Int)-1)=false:=bne (by omega);have hT:R=true:=by rw[hR];exact dc_t (hIff.2 (λq=>absurd q hl))
    subst hT;clear hIff hR hl;go_wp2_with fail;go_ret;exact⟨by first|rfl|simp[gl],HK⟩
theorem sz_emp{x:ByteArray}:x=⟨#[]⟩↔x.size=0:=by
 constructor
 ·rintro rfl;rfl
 ·intro h;apply ByteArray.ext;exact Array.eq_empty_of_size_eq_zero h
theorem sp_nam{b:Addr}(w:World)(hi:i<d.d)(hd:d.d<=1048576)(hn:d.n<=1048576)(hcel:CelM w (b.add (i*4)) (d.D i))(hg:0<=d.g/\d.g<=250):
  Calls Tryz.prog 100 #[.agg #[.string d.x,.int .i64 d.l,.int .i64 d.m,.bool d.r,.int .i64 d.g,.slice pu d.u cu,.slice pc d.c cc,.slice pn d.n cn,.slice (some b) d.d cm],.int .i64 i] w λe w'=>e=.returned (.bool (dc (Nok d i)))/\Kb 0 w w':=by
 obtain⟨d0,d1,d2,d3⟩:=hcel.keep zq (kb_alloc 0 w (.cells #[.string d.x,.int .i64 d.l,.int .i64 d.m,.bool d.r,.int .i64 d.g,.slice pu d.u cu,.slice pc d.c cc,.slice pn d.n cn,.slice (some b) d.d cm] 52));unfold Nok;generalize d.D i=a at*;obtain⟨x,g,f,t⟩:=a;obtain⟨dx,l,m,r,G,u,U,c,C,n,N,dd,D⟩:=d;dsimp only at*;have hiI:(i:Int)<(dd:Int):=by omega
 have hdI:(dd:Int)<=1048576:=by omega
 have hnI:(n:Int)<=1048576:=by omega
 clear hi hd hn hcel;by_cases h0:i<500
 rotate_left
 ·have g0:¬(i:Int)<500:=by omega
  rw[dc_f (λq=>h0 (q.1))];go_enter Tryz.func100,Tryz.ntmps100;go_wp2_with ((go_at_call 102;first|refine(sp_in_t (by omega) _).mono ?_|refine(sp_in_f (by omega) _).mono ?_);rintro e w1 ⟨rfl,rfl⟩);go_ret;exact⟨by first|rfl|simp[h5],kb_alloc2 _ _ _ _⟩
 have g0:(i:Int)<500:=by omega
 by_cases h1:1<=x.size/\x.size<=40
 rotate_left
 ·have g1:¬((1:Int)<=(x.size:Int)/\(x.size:Int)<=40):=by omega
  rw[dc_f (λq=>h1 (q.2.1))];go_enter Tryz.func100,Tryz.ntmps100;go_wp2_with ((go_at_call 102;first|refine(sp_in_t (by omega) _).mono ?_|refine(sp_in_f (by omega) _).mono ?_);rintro e w1 ⟨rfl,rfl⟩);go_ret;exact⟨by first|rfl|simp[h5],kb_alloc2 _ _ _ _⟩
 have g1:(1:Int)<=(x.size:Int)/\(x.size:Int)<=40:=by omega
 by_cases h2:0<=g/\g<=G-1
 rotate_left
 ·rw[dc_f (λq=>h2 (q.2.2.1))];go_enter Tryz.func100,Tryz.ntmps100;go_wp2_with ((go_at_call 102;first|refine(sp_in_t (by omega) _).mono ?_|refine(sp_in_f (by omega) _).mono ?_);rintro e w1 ⟨rfl,rfl⟩);go_ret;exact⟨by first|rfl|simp[h5],kb_alloc2 _ _ _ _⟩
 by_cases h3:0<=f
 rotate_left
 ·rw[dc_f (λq=>h3 (q.2.2.2.1))];go_enter Tryz.func100,Tryz.ntmps100;go_wp2_with ((go_at_call 102;first|refine(sp_in_t (by omega) _).mono ?_|refine(sp_in_f (by omega) _).mono ?_);rintro e w1 ⟨rfl,rfl⟩);go_ret;exact⟨by first|rfl|simp[h5],kb_alloc2 _ _ _ _⟩
 by_cases h4:f<=t
 rotate_left
 ·rw[dc_f (λq=>h4 (q.2.2.2.2.1))];go_enter Tryz.func100,Tryz.ntmps100;go_wp2_with ((go_at_call 102;first|refine(sp_in_t (by omega) _).mono ?_|refine(sp_in_f (by omega) _).mono ?_);rintro e w1 ⟨rfl,rfl⟩);go_ret;exact⟨by first|rfl|simp[h5],kb_alloc2 _ _ _ _⟩
 by_cases h5:t<=(n:Int)
 rotate_left
 ·rw[dc_f (λq=>h5 (q.2.2.2.2.2))];go_enter Tryz.func100,Tryz.ntmps100;go_wp2_with ((go_at_call 102;first|refine(sp_in_t (by omega) _).mono ?_|refine(sp_in_f (by omega) _).mono ?_);rintro e w1 ⟨rfl,rfl⟩);go_ret;exact⟨by first|rfl|simp[h5],kb_alloc2 _ _ _ _⟩
 rw[dc_t ⟨h0,h1,h2,h3,h4,h5⟩];go_enter Tryz.func100,Tryz.ntmps100;go_wp2_with ((go_at_call 102;first|refine(sp_in_t (by omega) _).mono ?_|refine(sp_in_f (by omega) _).mono ?_);rintro e w1 ⟨rfl,rfl⟩);go_ret;exact⟨by first|rfl|simp[h5],kb_alloc2 _ _ _ _⟩
def Lx(P:Nat->Nat->Prop)(L:Nat->Nat)(nf f n:Nat):Prop:=f<nf/\n<L f/\¬P f n/\(∀i,i<n->P f i)/\∀g,g<f->∀i,i<L g->P g i
def La(P:Nat->Nat->Prop)(L:Nat->Nat)(nf:Nat):Prop:=∀f,f<nf->∀i,i<L f->P f i
theorem Lx.uniq(h:Lx P L nf f n)(k:Lx P L nf g m):f=g/\n=m:=by
 obtain⟨h1,h2,h3,h4,h5⟩:=h;obtain⟨k1,k2,k3,k4,k5⟩:=k
 have hf:f=g:=by
  rcases Nat.lt_trichotomy f g with q|q|q
  ·exact absurd (k5 f q n h2) h3
  ·exact q
  ·exact absurd (h5 g q m k2) k3
 subst hf;refine⟨rfl,?_⟩;rcases Nat.lt_trichotomy n m with q|q|q
 ·exact absurd (k4 n q) h3
 ·exact q
 ·exact absurd (h4 m q) k3
structure Bd (np:Nat) (F:Nat->Pd):Prop where
 hnp:np<=1048576
 hsm:sm (λi=>(F i).n) np<=1048576
 hu:∀p,p<np->(F p).u<=1048576
 hc:∀p,p<np->(F p).c<=1048576
 hn:∀p,p<np->(F p).n<=1048576
 hd:∀p,p<np->(F p).d<=1048576
 hg:∀p,p<np->-9223372036854775808<=(F p).g
 hC:∀p,p<np->∀i,i<(F p).c->(((F p).C i).x.size:Int)<=1048576/\((F p).C i).g<18446744073709551616
def Szu(np:Nat)(F:Nat->Pd):Prop:=0<np/\np<=200/\sm (λi=>(F i).n) np<=6000
def MB(F:Nat->Pd)(p i:Nat)(k:Int):Prop:=∃q j,(q<p\/(q=p/\j<i))/\j<(F q).n/\((F q).N j).o=11/\((F q).N j).b=k
def P5(np:Nat)(F:Nat->Pd)(p i:Nat):Prop:=(F p).n≠0/\Iok np (F p) i
def P6(F:Nat->Pd)(p i:Nat):Prop:=((F p).N i).o=11->(p:Int)<((F p).N i).b/\¬MB F p i ((F p).N i).b/\Uok (F p) (F ((F p).N i).b.toNat)
def P7(np:Nat)(F:Nat->Pd)(p:Nat):Prop:=p=0\/MB F np 0 (p:Int)
def L5(F:Nat->Pd)(p:Nat):Nat:=if(F p).n=0 then 1 else(F p).n
def PQ(F:Nat->Pd)(np:Nat)(c p i:Nat):Prop:=
 match c with
 |2=>Hd p (F p)
 |3=>Cok ((F p).C i)
 |4=>Nok (F p) i
 |5=>P5 np F p i
 |6=>P6 F p i
 |_=>P7 np F p
def LQ(F:Nat->Pd)(c p:Nat):Nat:=
 match c with
 |2=>1
 |3=>(F p).c
 |4=>(F p).d
 |5=>L5 F p
 |6=>(F p).n
 |_=>1
def Ans(m np:Nat)(F:Nat->Pd)(c f n:Nat):Prop:=
 (c=1/\f=0/\n=0/\¬Szu np F)\/(Szu np F/\2<=c/\c<=m/\Lx (PQ F np c) (LQ F c) np f n/\∀c',2<=c'->c'<c->La (PQ F np c') (LQ F c') np)\/(Szu np F/\c=0/\f=0/\n=0/\∀c',2<=c'->c'<=m->La (PQ F np c') (LQ F c') np)
theorem lx_la(h:Lx P L nf f n)(k:La P L nf):False:=h.2.2.1 (k f h.1 n h.2.1)
theorem Ans.uniq{F:Nat->Pd}{c c' f' n':Nat}(h:Ans m np F c f n)(k:Ans m np F c' f' n'):c=c'/\f=f'/\n=n':=by
  rcases h with⟨h1,h2,h3,h4⟩|⟨h1,h2,h3,h4,h5⟩|⟨h1,h2,h3,h4,h5⟩<;>rcases k with⟨k1,k2,k3,k4⟩|⟨k1,k2,k3,k4,k5⟩|⟨k1,k2,k3,k4,k5⟩
  · exact⟨by omega,by omega,by omega⟩
  · exact absurd k1 h4
  · exact absurd k1 h4
  · exact absurd h1 k4
  · have e : c = c' := by
      rcases Nat.lt_trichotomy c c' with q|q|q
      · exact(lx_la h4 (k5 c h2 q)).elim
      · exact q
      · exact(lx_la k4 (h5 c' k2 q)).elim
    subst e;exact⟨rfl,h4.uniq k4⟩
  · exact(lx_la h4 (k5 c h2 h3)).elim
  · exact absurd h1 k4
  · exact(lx_la k4 (h5 c' k2 k3)).elim
  · exact⟨by omega,by omega,by omega⟩
