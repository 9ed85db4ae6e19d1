import Derived.Test.YtkhdehngobkkfaaGreatDoorABak
set_option maxRecDepth 100000
set_option maxHeartbeats 8000000
namespace Go.Proofs.YtkhdehngobkkfaaGreatDoor.Fo
open Go.ChangeShapes Go.WideShapes Go.ChangeAt Go.RowKit
set_option linter.unusedVariables false
variable {p q n b:Nat}{k m:Int}{x:ByteArray}{a:Fv}{vn vk v:Value}{A:Nat->ByteArray}{K:Nat->Int}{F:Nat->Gv}{W W' w:World}{R:Bool}{P:Prop}
noncomputable def dc(p:Prop):Bool:=@decide p (Classical.propDecidable p)
theorem dc_t{p:Prop}(h:p):dc p=true:=@decide_eq_true p (Classical.propDecidable p) h
theorem dc_f{p:Prop}(h:¬p):dc p=false:=@decide_eq_false p (Classical.propDecidable p) h
theorem dc_iff{p q:Prop}(h:p↔q):dc p=dc q:=by rw[show p=q from propext h]
theorem sp_stat(k:Int)(w:World):Calls Tryz.prog 36 #[.int .i64 k] w λe w'=>e=.returned (.bool (dc (1<=k/\k<=16)))/\w'=w:=by
 rcases Int.lt_or_le k 1 with h|h
 ·rw[dc_f (by omega)];have h':¬1<=k:=by omega
  go_enter Tryz.func36,Tryz.ntmps36;go_wp2_with fail;go_ret;exact⟨rfl,rfl⟩
 ·rcases Int.lt_or_le 16 k with g|g
  ·rw[dc_f (by omega)];have g':¬k<=16:=by omega
   go_enter Tryz.func36,Tryz.ntmps36;go_wp2_with fail;go_ret;exact⟨rfl,rfl⟩
  ·rw[dc_t ⟨h,g⟩];go_enter Tryz.func36,Tryz.ntmps36;go_wp2_with fail;go_ret;exact⟨rfl,rfl⟩
theorem sp_expr(k:Int)(w:World):Calls Tryz.prog 95 #[.int .i64 k] w λe w'=>e=.returned (.bool (dc (20<=k/\k<=37)))/\w'=w:=by
 rcases Int.lt_or_le k 20 with h|h
 ·rw[dc_f (by omega)];have h':¬20<=k:=by omega
  go_enter Tryz.func95,Tryz.ntmps95;go_wp2_with fail;go_ret;exact⟨rfl,rfl⟩
 ·rcases Int.lt_or_le 37 k with g|g
  ·rw[dc_f (by omega)];have g':¬k<=37:=by omega
   go_enter Tryz.func95,Tryz.ntmps95;go_wp2_with fail;go_ret;exact⟨rfl,rfl⟩
  ·rw[dc_t ⟨h,g⟩];go_enter Tryz.func95,Tryz.ntmps95;go_wp2_with fail;go_ret;exact⟨rfl,rfl⟩
theorem bne(h:k≠m):(k==m)=false:=beq_eq_false_iff_ne.2 h
theorem beq1(h:k=m):(k==m)=true:=beq_iff_eq.2 h
theorem sp_target(k:Int)(w:World):Calls Tryz.prog 71 #[.int .i64 k] w λe w'=>e=.returned (.bool (dc (k=26\/k=32\/k=33)))/\w'=w:=by
 by_cases h1:k=26
 ·rw[dc_t (.inl h1)];have g1:=beq1 h1;clear h1;go_enter Tryz.func71,Tryz.ntmps71;go_wp2_with fail;go_ret;exact⟨rfl,rfl⟩
 ·have g1:=bne h1;by_cases h2:k=32
  ·rw[dc_t (.inr (.inl h2))];have g2:=beq1 h2;clear h1 h2;go_enter Tryz.func71,Tryz.ntmps71;go_wp2_with fail;go_ret;exact⟨rfl,rfl⟩
  ·have g2:=bne h2;by_cases h3:k=33
   ·rw[dc_t (.inr (.inr h3))];have g3:=beq1 h3;clear h1 h2 h3;go_enter Tryz.func71,Tryz.ntmps71;go_wp2_with fail;go_ret;exact⟨rfl,rfl⟩
   ·have g3:=bne h3;rw[dc_f (by omega)];clear h1 h2 h3;go_enter Tryz.func71,Tryz.ntmps71;go_wp2_with fail;go_ret;exact⟨rfl,rfl⟩
theorem str0(h:x=⟨#[]⟩):x.toList=[]:=by rw[Lib.toList_data,h]
theorem str1(h:¬x=⟨#[]⟩):¬x.toList=[]:=by
 rw[Lib.toList_data];intro e;exact h (by apply ByteArray.ext;exact Array.toList_inj.1 (by simpa using e))
theorem nat0(h:p=0):((p:Int)==0)=true:=by subst h;rfl
theorem nat1(h:¬p=0):((p:Int)==0)=false:=bne (by omega)
theorem sp_bare(a:Fv)(pn:Option Addr)(p cn:Nat)(vk:Value)(hvk:∃pk q ck,vk=.slice pk q ck)(op num text names:Bool)(w:World)(hp:(p:Int)<=1048576):
  Calls Tryz.prog 68 #[fmv a (.slice pn p cn) vk,.bool op,.bool num,.bool text,.bool names] w λe w'=>e=.returned (.bool (dc ((op=true\/a.o=0)/\(num=true\/a.m=0)/\(text=true\/a.x=⟨#[]⟩)/\(names=true\/p=0))))/\Below w.heap.size w w':=by
 obtain⟨pk,q,ck,rfl⟩:=hvk;unfold fmv;obtain⟨k,f,t,l,o,m,x⟩:=a;dsimp only;cases op<;>cases num<;>cases text<;>cases names
 ·by_cases h0:o=0
  ·have g0:=beq1 h0;by_cases h1:m=0
   ·have g1:=beq1 h1;by_cases h2:x=⟨#[]⟩
    ·have g2:=str0 h2;by_cases h3:p=0
     ·have g3:=nat0 h3;rw[dc_t (by simp[*])];clear h0 h1 h2 h3;go_enter Tryz.func68,Tryz.ntmps68;go_wp2_with fail;go_ret;exact⟨by first|rfl|(simp only[g3];rfl),bel1 _ _⟩
     ·have g3:=nat1 h3;rw[dc_f (by simp[*])];clear h0 h1 h2 h3;go_enter Tryz.func68,Tryz.ntmps68;go_wp2_with fail;go_ret;exact⟨by first|rfl|(simp only[g3];rfl),bel1 _ _⟩
    ·have g2:=str1 h2;rw[dc_f (by simp[*])];clear h0 h1 h2;go_enter Tryz.func68,Tryz.ntmps68;go_wp2_with fail;go_ret;exact⟨by first|rfl|(simp only[g3];rfl),bel1 _ _⟩
   ·have g1:=bne h1;rw[dc_f (by simp[*])];clear h0 h1;go_enter Tryz.func68,Tryz.ntmps68;go_wp2_with fail;go_ret;exact⟨by first|rfl|(simp only[g3];rfl),bel1 _ _⟩
  ·have g0:=bne h0;rw[dc_f (by simp[*])];clear h0;go_enter Tryz.func68,Tryz.ntmps68;go_wp2_with fail;go_ret;exact⟨by first|rfl|(simp only[g3];rfl),bel1 _ _⟩
 ·by_cases h0:o=0
  ·have g0:=beq1 h0;by_cases h1:m=0
   ·have g1:=beq1 h1;by_cases h2:x=⟨#[]⟩
    ·have g2:=str0 h2;rw[dc_t (by simp[*])];clear h0 h1 h2;go_enter Tryz.func68,Tryz.ntmps68;go_wp2_with fail;go_ret;exact⟨by first|rfl|(simp only[g3];rfl),bel1 _ _⟩
    ·have g2:=str1 h2;rw[dc_f (by simp[*])];clear h0 h1 h2;go_enter Tryz.func68,Tryz.ntmps68;go_wp2_with fail;go_ret;exact⟨by first|rfl|(simp only[g3];rfl),bel1 _ _⟩
   ·have g1:=bne h1;rw[dc_f (by simp[*])];clear h0 h1;go_enter Tryz.func68,Tryz.ntmps68;go_wp2_with fail;go_ret;exact⟨by first|rfl|(simp only[g3];rfl),bel1 _ _⟩
  ·have g0:=bne h0;rw[dc_f (by simp[*])];clear h0;go_enter Tryz.func68,Tryz.ntmps68;go_wp2_with fail;go_ret;exact⟨by first|rfl|(simp only[g3];rfl),bel1 _ _⟩
 ·by_cases h0:o=0
  ·have g0:=beq1 h0;by_cases h1:m=0
   ·have g1:=beq1 h1;by_cases h3:p=0
    ·have g3:=nat0 h3;rw[dc_t (by simp[*])];clear h0 h1 h3;go_enter Tryz.func68,Tryz.ntmps68;go_wp2_with fail;go_ret;exact⟨by first|rfl|(simp only[g3];rfl),bel1 _ _⟩
    ·have g3:=nat1 h3;rw[dc_f (by simp[*])];clear h0 h1 h3;go_enter Tryz.func68,Tryz.ntmps68;go_wp2_with fail;go_ret;exact⟨by first|rfl|(simp only[g3];rfl),bel1 _ _⟩
   ·have g1:=bne h1;rw[dc_f (by simp[*])];clear h0 h1;go_enter Tryz.func68,Tryz.ntmps68;go_wp2_with fail;go_ret;exact⟨by first|rfl|(simp only[g3];rfl),bel1 _ _⟩
  ·have g0:=bne h0;rw[dc_f (by simp[*])];clear h0;go_enter Tryz.func68,Tryz.ntmps68;go_wp2_with fail;go_ret;exact⟨by first|rfl|(simp only[g3];rfl),bel1 _ _⟩
 ·by_cases h0:o=0
  ·have g0:=beq1 h0;by_cases h1:m=0
   ·have g1:=beq1 h1;rw[dc_t (by simp[*])];clear h0 h1;go_enter Tryz.func68,Tryz.ntmps68;go_wp2_with fail;go_ret;exact⟨by first|rfl|(simp only[g3];rfl),bel1 _ _⟩
   ·have g1:=bne h1;rw[dc_f (by simp[*])];clear h0 h1;go_enter Tryz.func68,Tryz.ntmps68;go_wp2_with fail;go_ret;exact⟨by first|rfl|(simp only[g3];rfl),bel1 _ _⟩
  ·have g0:=bne h0;rw[dc_f (by simp[*])];clear h0;go_enter Tryz.func68,Tryz.ntmps68;go_wp2_with fail;go_ret;exact⟨by first|rfl|(simp only[g3];rfl),bel1 _ _⟩
 ·by_cases h0:o=0
  ·have g0:=beq1 h0;by_cases h2:x=⟨#[]⟩
   ·have g2:=str0 h2;by_cases h3:p=0
    ·have g3:=nat0 h3;rw[dc_t (by simp[*])];clear h0 h2 h3;go_enter Tryz.func68,Tryz.ntmps68;go_wp2_with fail;go_ret;exact⟨by first|rfl|(simp only[g3];rfl),bel1 _ _⟩
    ·have g3:=nat1 h3;rw[dc_f (by simp[*])];clear h0 h2 h3;go_enter Tryz.func68,Tryz.ntmps68;go_wp2_with fail;go_ret;exact⟨by first|rfl|(simp only[g3];rfl),bel1 _ _⟩
   ·have g2:=str1 h2;rw[dc_f (by simp[*])];clear h0 h2;go_enter Tryz.func68,Tryz.ntmps68;go_wp2_with fail;go_ret;exact⟨by first|rfl|(simp only[g3];rfl),bel1 _ _⟩
  ·have g0:=bne h0;rw[dc_f (by simp[*])];clear h0;go_enter Tryz.func68,Tryz.ntmps68;go_wp2_with fail;go_ret;exact⟨by first|rfl|(simp only[g3];rfl),bel1 _ _⟩
 ·by_cases h0:o=0
  ·have g0:=beq1 h0;by_cases h2:x=⟨#[]⟩
   ·have g2:=str0 h2;rw[dc_t (by simp[*])];clear h0 h2;go_enter Tryz.func68,Tryz.ntmps68;go_wp2_with fail;go_ret;exact⟨by first|rfl|(simp only[g3];rfl),bel1 _ _⟩
   ·have g2:=str1 h2;rw[dc_f (by simp[*])];clear h0 h2;go_enter Tryz.func68,Tryz.ntmps68;go_wp2_with fail;go_ret;exact⟨by first|rfl|(simp only[g3];rfl),bel1 _ _⟩
  ·have g0:=bne h0;rw[dc_f (by simp[*])];clear h0;go_enter Tryz.func68,Tryz.ntmps68;go_wp2_with fail;go_ret;exact⟨by first|rfl|(simp only[g3];rfl),bel1 _ _⟩
 ·by_cases h0:o=0
  ·have g0:=beq1 h0;by_cases h3:p=0
   ·have g3:=nat0 h3;rw[dc_t (by simp[*])];clear h0 h3;go_enter Tryz.func68,Tryz.ntmps68;go_wp2_with fail;go_ret;exact⟨by first|rfl|(simp only[g3];rfl),bel1 _ _⟩
   ·have g3:=nat1 h3;rw[dc_f (by simp[*])];clear h0 h3;go_enter Tryz.func68,Tryz.ntmps68;go_wp2_with fail;go_ret;exact⟨by first|rfl|(simp only[g3];rfl),bel1 _ _⟩
  ·have g0:=bne h0;rw[dc_f (by simp[*])];clear h0;go_enter Tryz.func68,Tryz.ntmps68;go_wp2_with fail;go_ret;exact⟨by first|rfl|(simp only[g3];rfl),bel1 _ _⟩
 ·by_cases h0:o=0
  ·have g0:=beq1 h0;rw[dc_t (by simp[*])];clear h0;go_enter Tryz.func68,Tryz.ntmps68;go_wp2_with fail;go_ret;exact⟨by first|rfl|(simp only[g3];rfl),bel1 _ _⟩
  ·have g0:=bne h0;rw[dc_f (by simp[*])];clear h0;go_enter Tryz.func68,Tryz.ntmps68;go_wp2_with fail;go_ret;exact⟨by first|rfl|(simp only[g3];rfl),bel1 _ _⟩
 ·by_cases h1:m=0
  ·have g1:=beq1 h1;by_cases h2:x=⟨#[]⟩
   ·have g2:=str0 h2;by_cases h3:p=0
    ·have g3:=nat0 h3;rw[dc_t (by simp[*])];clear h1 h2 h3;go_enter Tryz.func68,Tryz.ntmps68;go_wp2_with fail;go_ret;exact⟨by first|rfl|(simp only[g3];rfl),bel1 _ _⟩
    ·have g3:=nat1 h3;rw[dc_f (by simp[*])];clear h1 h2 h3;go_enter Tryz.func68,Tryz.ntmps68;go_wp2_with fail;go_ret;exact⟨by first|rfl|(simp only[g3];rfl),bel1 _ _⟩
   ·have g2:=str1 h2;rw[dc_f (by simp[*])];clear h1 h2;go_enter Tryz.func68,Tryz.ntmps68;go_wp2_with fail;go_ret;exact⟨by first|rfl|(simp only[g3];rfl),bel1 _ _⟩
  ·have g1:=bne h1;rw[dc_f (by simp[*])];clear h1;go_enter Tryz.func68,Tryz.ntmps68;go_wp2_with fail;go_ret;exact⟨by first|rfl|(simp only[g3];rfl),bel1 _ _⟩
 ·by_cases h1:m=0
  ·have g1:=beq1 h1;by_cases h2:x=⟨#[]⟩
   ·have g2:=str0 h2;rw[dc_t (by simp[*])];clear h1 h2;go_enter Tryz.func68,Tryz.ntmps68;go_wp2_with fail;go_ret;exact⟨by first|rfl|(simp only[g3];rfl),bel1 _ _⟩
   ·have g2:=str1 h2;rw[dc_f (by simp[*])];clear h1 h2;go_enter Tryz.func68,Tryz.ntmps68;go_wp2_with fail;go_ret;exact⟨by first|rfl|(simp only[g3];rfl),bel1 _ _⟩
  ·have g1:=bne h1;rw[dc_f (by simp[*])];clear h1;go_enter Tryz.func68,Tryz.ntmps68;go_wp2_with fail;go_ret;exact⟨by first|rfl|(simp only[g3];rfl),bel1 _ _⟩
 ·by_cases h1:m=0
  ·have g1:=beq1 h1;by_cases h3:p=0
   ·have g3:=nat0 h3;rw[dc_t (by simp[*])];clear h1 h3;go_enter Tryz.func68,Tryz.ntmps68;go_wp2_with fail;go_ret;exact⟨by first|rfl|(simp only[g3];rfl),bel1 _ _⟩
   ·have g3:=nat1 h3;rw[dc_f (by simp[*])];clear h1 h3;go_enter Tryz.func68,Tryz.ntmps68;go_wp2_with fail;go_ret;exact⟨by first|rfl|(simp only[g3];rfl),bel1 _ _⟩
  ·have g1:=bne h1;rw[dc_f (by simp[*])];clear h1;go_enter Tryz.func68,Tryz.ntmps68;go_wp2_with fail;go_ret;exact⟨by first|rfl|(simp only[g3];rfl),bel1 _ _⟩
 ·by_cases h1:m=0
  ·have g1:=beq1 h1;rw[dc_t (by simp[*])];clear h1;go_enter Tryz.func68,Tryz.ntmps68;go_wp2_with fail;go_ret;exact⟨by first|rfl|(simp only[g3];rfl),bel1 _ _⟩
  ·have g1:=bne h1;rw[dc_f (by simp[*])];clear h1;go_enter Tryz.func68,Tryz.ntmps68;go_wp2_with fail;go_ret;exact⟨by first|rfl|(simp only[g3];rfl),bel1 _ _⟩
 ·by_cases h2:x=⟨#[]⟩
  ·have g2:=str0 h2;by_cases h3:p=0
   ·have g3:=nat0 h3;rw[dc_t (by simp[*])];clear h2 h3;go_enter Tryz.func68,Tryz.ntmps68;go_wp2_with fail;go_ret;exact⟨by first|rfl|(simp only[g3];rfl),bel1 _ _⟩
   ·have g3:=nat1 h3;rw[dc_f (by simp[*])];clear h2 h3;go_enter Tryz.func68,Tryz.ntmps68;go_wp2_with fail;go_ret;exact⟨by first|rfl|(simp only[g3];rfl),bel1 _ _⟩
  ·have g2:=str1 h2;rw[dc_f (by simp[*])];clear h2;go_enter Tryz.func68,Tryz.ntmps68;go_wp2_with fail;go_ret;exact⟨by first|rfl|(simp only[g3];rfl),bel1 _ _⟩
 ·by_cases h2:x=⟨#[]⟩
  ·have g2:=str0 h2;rw[dc_t (by simp[*])];clear h2;go_enter Tryz.func68,Tryz.ntmps68;go_wp2_with fail;go_ret;exact⟨by first|rfl|(simp only[g3];rfl),bel1 _ _⟩
  ·have g2:=str1 h2;rw[dc_f (by simp[*])];clear h2;go_enter Tryz.func68,Tryz.ntmps68;go_wp2_with fail;go_ret;exact⟨by first|rfl|(simp only[g3];rfl),bel1 _ _⟩
 ·by_cases h3:p=0
  ·have g3:=nat0 h3;rw[dc_t (by simp[*])];clear h3;go_enter Tryz.func68,Tryz.ntmps68;go_wp2_with fail;go_ret;exact⟨by first|rfl|(simp only[g3];rfl),bel1 _ _⟩
  ·have g3:=nat1 h3;rw[dc_f (by simp[*])];clear h3;go_enter Tryz.func68,Tryz.ntmps68;go_wp2_with fail;go_ret;exact⟨by first|rfl|(simp only[g3];rfl),bel1 _ _⟩
 ·rw[dc_t (by simp[*])]
  go_enter Tryz.func68,Tryz.ntmps68;go_wp2_with fail;go_ret;exact⟨by first|rfl|(simp only[g3];rfl),bel1 _ _⟩
def NmS(nm:ByteArray->Prop):Prop:=∀x w,Calls Tryz.prog 73 #[.string x] w λe w'=>e=.returned (.bool (dc (nm x)))/\Below w.heap.size w w'
theorem sp_named{nm:ByteArray->Prop}(HN:NmS nm)(w:World)(hr:RowV w vn p (λi=>.string (A i)))(hvk:∃pk q ck,vk=.slice pk q ck)(x y:Int)(hp:p<=1048576)(hx:0<=x)(hy:y<=1000):
  Calls Tryz.prog 69 #[fmv a vn vk,.int .i64 x,.int .i64 y] w λe w'=>e=.returned (.bool (dc (x<=(p:Int)/\(p:Int)<=y/\∀j,j<p->nm (A j))))/\Below w.heap.size w w':=by
 obtain⟨pk,q,ck,rfl⟩:=hvk;obtain⟨pa,ca,rfl,ha2⟩:=hr;unfold fmv;obtain⟨k,f,t,l,o,m,tx⟩:=a;dsimp only;have hpI:(p:Int)<=1048576:=by omega
 rcases Int.lt_or_le (p:Int) x with h1|h1
 ·rw[dc_f (λg=>by omega)];clear ha2;go_enter Tryz.func69,Tryz.ntmps69;go_wp2_with fail;go_ret;exact⟨rfl,bel1 _ _⟩
 ·have h1':¬(p:Int)<x:=by omega
  rcases Int.lt_or_le y (p:Int)with h2|h2
  ·rw[dc_f (λg=>by omega)];clear ha2;go_enter Tryz.func69,Tryz.ntmps69;go_wp2_with fail;go_ret;exact⟨rfl,bel1 _ _⟩
  ·have h2':¬y<(p:Int):=by omega
   have HD:Hid (dc (x<=(p:Int)/\(p:Int)<=y/\∀j,j<p->nm (A j))=dc (∀j,j<p->nm (A j))):=dc_iff ⟨λg=>g.2.2,λg=>⟨h1,h2,g⟩⟩;rw[show dc (x<=(p:Int)/\(p:Int)<=y/\∀j,j<p->nm (A j))=dc (∀j,j<p->nm (A j))from HD];have HA:Hid ((0<p->∃a:Addr,pa=some a/\p<=ca/\∀i,i<p->w.cell? (a.add i)=some (.string (A i)))/\NmS nm):=(⟨ha2,HN⟩:_/\_)
   obtain⟨R,hR⟩:∃R,R=dc (∀j,j<p->nm (A j)):=⟨_,rfl⟩
   have HR:Hid (R=dc (∀j,j<p->nm (A j))):=hR;rw[<-hR];clear hR HD ha2 HN;go_enter Tryz.func69,Tryz.ntmps69;go_wp2_with fail
   go_loopw [24] (λs24 wr=>∃i:Nat,s24=.int .i64 i/\i<=p/\Hid (Below w.heap.size w wr/\∀j,j<i->nm (A j))) (λs24 _=>p-(intOf s24).toNat)
   case atStart=>exact⟨0,rfl,Nat.zero_le _,(⟨bel1 _ _,λj hj=>by omega⟩:_/\_)⟩
   case round=>
    obtain⟨i,rfl,hin,HI⟩:=hrel;have hI:=(uh HI)
    have hA:=(uh HA)
    rcases Nat.lt_or_ge i p with hi|hi
    ·have hiI:(i:Int)<(p:Int):=by omega
     obtain⟨b,rfl,hca,hra⟩:=hA.1 (by omega);have q0:=hra i hi;have qa:wr.cell? (b.add i)=some (.string (A i)):=(hI.1.cell (lt_of_cell' q0)).trans q0;have hcl:=hA.2 (A i);by_cases hg:nm (A i)
     ·rw[dc_t hg]at hcl
      have HX:Hid (∀j,j<i+1->nm (A j)):=(λj hj=>by
       by_cases e:j=i
       ·rw[e];exact hg
       ·exact hI.2 j (by omega):∀j,_)
      have HB:Hid (Below w.heap.size w wr):=hI.1;have HCL:Hid (∀w,Calls Tryz.prog 73 #[.string (A i)] w λe w'=>e=.returned (.bool true)/\Below w.heap.size w w'):=hcl;clear hI HI hA HA hra q0 hin hg hcl;generalize A i=X at*;go_wp2_with fail;refine((uh HCL) _).mono ?_;rintro e w6 ⟨rfl,hb6⟩;have HB6:Hid (Below w.heap.size w w6/\∀j,j<i+1->nm (A j)):=(⟨(uh HB).trans (hb6.mono (uh HB).size),HX⟩:_/\_)
      clear HCL hb6 HX HB qa;go_wp2_with fail;go_roundw
      case rel=>exact⟨i+1,by go_num,by omega,HB6⟩
      case measure=>simp[intOf];omega
     ·rw[dc_f hg]at hcl;have HX:Hid (R=false):=(uh HR).trans (dc_f (λg=>hg (g i hi)));have HB:Hid (Below w.heap.size w wr):=hI.1;have HCL:Hid (∀w,Calls Tryz.prog 73 #[.string (A i)] w λe w'=>e=.returned (.bool false)/\Below w.heap.size w w'):=hcl;clear hI HI hA HA hra q0 hin hg hcl;generalize A i=X at*;go_wp2_with fail;refine((uh HCL) _).mono ?_;rintro e w6 ⟨rfl,hb6⟩;have HB6:Hid (Below w.heap.size w w6):=(uh HB).trans (hb6.mono (uh HB).size);clear HCL hb6 HB qa;go_wp2_with fail;go_ret;exact⟨by rw[show R=false from HX];rfl,HB6⟩
    ·obtain rfl:i=p:=by omega
     have HX:Hid (R=true/\Below w.heap.size w wr):=(⟨(uh HR).trans (dc_t hI.2),hI.1⟩:_/\_)
     clear hI HI hA HA;go_wp2_with fail;go_ret;exact⟨by rw[show R=true from HX.1];rfl,HX.2⟩
def kdk(F:Nat->Gv)(K:Nat->Int)(j:Nat):Int:=(F (K j).toNat).a.k
theorem sp_kid(w:World)(hf:RowF w v n F)(hr:RowV w vk q (λi=>.int .i64 (K i)))(hvn:∃pn p cn,vn=.slice pn p cn)(x:Int)(i:Nat)(hx:x=(i:Int))(hi:i<q)(hq:q<=1048576)(hn:n<=1048576)(h0:0<=K i)(h1:K i<(n:Int)):
  Calls Tryz.prog 67 #[.agg #[v],fmv a vn vk,.int .i64 x] w λe w'=>e=.returned (.int .i64 (kdk F K i))/\Below w.heap.size w w':=by
 subst hx;obtain⟨pn,p,cn,rfl⟩:=hvn;obtain⟨pk,ck,rfl,hk2⟩:=hr;obtain⟨pf,cf,rfl,hf2⟩:=hf;obtain⟨b,rfl,hcb,hrb⟩:=hk2 (by omega);obtain⟨c,rfl,hcc,hrc⟩:=hf2 (by omega);have q0:=hrb i hi;obtain⟨un,uk,hc,_,_⟩:=hrc (K i).toNat (by omega);have e0:=hc.c0;have HE:Hid (kdk F K i=(F (K i).toNat).a.k):=rfl;rw[show kdk F K i=(F (K i).toNat).a.k from HE];have hB:∀a b:Obj,Below w.heap.size w ((w.alloc a).alloc b):=λa b=>bel2 _ _ _;have q0':∀x y:Obj,((w.alloc x).alloc y).cell? (b.add i)=some (.int .i64 (K i)):=λx y=>((hB x y).cell (lt_of_cell' q0)).trans q0;have e0':∀x y:Obj,((w.alloc x).alloc y).cell? (c.add ((K i).toNat*9))=some (.int .i64 (F (K i).toNat).a.k):=λx y=>((hB x y).cell (lt_of_cell' e0)).trans e0;clear hc hrc hrb hk2 hf2 q0 e0 HE hB;have hiI:(i:Int)<(q:Int):=by omega
 have hqI:(q:Int)<=1048576:=by omega
 have hnI:(n:Int)<=1048576:=by omega
 generalize (F (K i).toNat).a.k=z at*;generalize K i=y at*;unfold fmv;obtain⟨k,f,t,l,o,m,tx⟩:=a;dsimp only;go_enter Tryz.func67,Tryz.ntmps67;go_wp2_with fail
 go_quiet (skip)
 go_wp2_with fail;go_ret;exact⟨rfl,bdn (bel2 _ _ _) _⟩
theorem sp_exprs(w:World)(hf:RowF w v n F)(hr:RowV w vk q (λi=>.int .i64 (K i)))(hvn:∃pn p cn,vn=.slice pn p cn)(x y:Int)(i0 k0:Nat)(hx:x=(i0:Int))(hy:y=(k0:Int))(hk:k0<=q)(hi0:i0<=1048576)(hq:q<=1048576)(hn:n<=1048576)(hK:∀j,j<q->0<=K j/\K j<(n:Int)):
  Calls Tryz.prog 70 #[.agg #[v],fmv a vn vk,.int .i64 x,.int .i64 y] w λe w'=>e=.returned (.bool (dc (∀j,i0<=j->j<k0->20<=kdk F K j/\kdk F K j<=37)))/\Below w.heap.size w w':=by
 subst hx;subst hy;obtain⟨pn,p,cn,rfl⟩:=hvn;obtain⟨pk,ck,rfl,hk2⟩:=hr;obtain⟨pf,cf,rfl,hf2⟩:=hf
 have HC:Hid (∀j,j<q->0<=K j/\K j<(n:Int)/\∃b c:Addr,pk=some b/\pf=some c/\q<=ck/\n<=cf/\(∀(x y:Obj) (d:Nat),(((w.alloc x).alloc y).drewN d).cell? (b.add j)=some (.int .i64 (K j)))/\∀(x y:Obj) (d:Nat),(((w.alloc x).alloc y).drewN d).cell? (c.add ((K j).toNat*9))=some (.int .i64 (kdk F K j))):=(λj hj=>by
  obtain⟨h0,h1⟩:=hK j hj;obtain⟨b,rfl,hcb,hrb⟩:=hk2 (by omega);obtain⟨c,rfl,hcc,hrc⟩:=hf2 (by omega);have q0:=hrb j hj;obtain⟨un,uk,hc,_,_⟩:=hrc (K j).toNat (by omega);have e0:=hc.c0
  exact⟨h0,h1,b,c,rfl,rfl,hcb,hcc,λx y d=>((bdn (bel2 w x y) d).cell (lt_of_cell' q0)).trans q0,λx y d=>((bdn (bel2 w x y) d).cell (lt_of_cell' e0)).trans e0⟩:∀j,_)
 obtain⟨R,hR⟩:∃R,R=dc (∀j,i0<=j->j<k0->20<=kdk F K j/\kdk F K j<=37):=⟨_,rfl⟩
 have HR:Hid (R=dc (∀j,i0<=j->j<k0->20<=kdk F K j/\kdk F K j<=37)):=hR;rw[<-hR];have hqI:(q:Int)<=1048576:=by omega
 have hnI:(n:Int)<=1048576:=by omega
 have hkI:(k0:Int)<=(q:Int):=by omega
 have hi0I:(i0:Int)<=1048576:=by omega
 clear hR hK hk2 hf2;unfold fmv;obtain⟨k,f,t,l,o,m,tx⟩:=a;dsimp only;go_enter Tryz.func70,Tryz.ntmps70;go_wp2_with fail;obtain⟨W2,hW2⟩:∃W2,W2=(w.alloc (.cells #[.slice pf n cf] 29)).alloc (.cells #[.int .i64 k,.int .i64 f,.int .i64 t,.int .i64 l,.int .i64 o,.int .i64 m,.string tx,.slice pn p cn,.slice pk q ck] 44):=⟨_,rfl⟩
 rw[<-hW2]
 have c0:W2.cell? ⟨w.heap.size,0,none⟩=some (.slice pf n cf):=by
  rw[hW2];rw[World.cell?_alloc_past _ _ _ (by simp),World.cell?_alloc_at _ _ _ _ rfl];rfl
 have c8:W2.cell? ⟨w.heap.size+1,8,none⟩=some (.slice pk q ck):=by
  rw[hW2];rw[World.cell?_alloc_at _ _ _ _ (by simp)];rfl
 have HB:Hid (∀d,Below w.heap.size w (W2.drewN d)):=(λd=>by rw[hW2];exact bdn (bel2 _ _ _) _:∀d,_)
 have HC2:Hid (∀j,j<q->0<=K j/\K j<(n:Int)/\∃b c:Addr,pk=some b/\pf=some c/\q<=ck/\n<=cf/\W2.cell? (b.add j)=some (.int .i64 (K j))/\W2.cell? (c.add ((K j).toNat*9))=some (.int .i64 (kdk F K j))):=(λj hj=>by
  obtain⟨h0,h1,b,c,e1,e2,h2,h3,h4,h5⟩:=(uh HC) j hj
  exact⟨h0,h1,b,c,e1,e2,h2,h3,by rw[hW2];exact h4 _ _ 0,by rw[hW2];exact h5 _ _ 0⟩:∀j,_)
 clear hW2 HC
 go_loopw [9] (λs9 wr=>∃i:Nat,s9=.int .i64 i/\i<=max i0 k0/\Hid (wr.heap=W2.heap/\Below w.heap.size w wr)/\Hid (i0<=i/\∀j,i0<=j->j<i->20<=kdk F K j/\kdk F K j<=37)) (λs9 _=>k0-(intOf s9).toNat)
 case atStart=>exact⟨i0,rfl,by omega,(⟨rfl,(uh HB) 0⟩:_/\_),(⟨Nat.le_refl _,λj h1 h2=>by omega⟩:_/\_)⟩
 case round=>
  obtain⟨i,rfl,hin,HW,HI⟩:=hrel;have hW:=(uh HW)
  have hcw:∀p:Addr,wr.cell? p=W2.cell? p:=λp=>World.cell?_of_block (by rw[hW.1]);have hI:=(uh HI)
  rcases Nat.lt_or_ge i k0 with hi|hi
  ·have hiI:(i:Int)<(k0:Int):=by omega
   have hiq:(i:Int)<(q:Int):=by omega
   obtain⟨h0,h1,b,c,rfl,rfl,h2,h3,h4,h5⟩:=(uh HC2) i (by omega);rw[<-hcw]at h4 h5 c0 c8;have HW2:Hid (∀d,(wr.drewN d).heap=W2.heap/\Below w.heap.size w (wr.drewN d)):=(λd=>⟨hW.1,bdn hW.2 d⟩:∀d,_)
   clear hcw hW;by_cases hg:20<=kdk F K i/\kdk F K i<=37
   ·have he:∀w,Calls Tryz.prog 95 #[.int .i64 (kdk F K i)] w λe w'=>e=.returned (.bool true)/\w'=w:=λw=>by have:=sp_expr (kdk F K i) w;rw[dc_t hg]at this;exact this
    have HX:Hid (i0<=i+1/\∀j,i0<=j->j<i+1->20<=kdk F K j/\kdk F K j<=37):=(⟨by omega,λj h1 h2=>by
     by_cases e:j=i
     ·rw[e];exact hg
     ·exact hI.2 j h1 (by omega)⟩:_/\_)
    clear hI HI HC2 hg;generalize kdk F K i=z at*;generalize K i=y at*;go_wp2_with fail
    go_quiet ((go_at_call 95;exact Calls.quiet_of_same (he _)))
    go_wp2_with fail;go_roundw
    case rel=>exact⟨i+1,by go_num,by omega,(uh HW2) _,HX⟩
    case measure=>simp[intOf];omega
   ·have he:∀w,Calls Tryz.prog 95 #[.int .i64 (kdk F K i)] w λe w'=>e=.returned (.bool false)/\w'=w:=λw=>by have:=sp_expr (kdk F K i) w;rw[dc_f hg]at this;exact this
    have HX:Hid (R=false):=(uh HR).trans (dc_f (λg=>hg (g i hI.1 hi)));clear hI HI HC2 hg;generalize kdk F K i=z at*;generalize K i=y at*;go_wp2_with fail
    go_quiet ((go_at_call 95;exact Calls.quiet_of_same (he _)))
    go_wp2_with fail;go_ret;exact⟨by rw[show R=false from HX];rfl,((uh HW2) _).2⟩
  ·have hiI:¬(i:Int)<(k0:Int):=by omega
   have HX:Hid (R=true):=(uh HR).trans (dc_t (λj h1 h2=>hI.2 j h1 (by omega)));clear hI HI HC2 hcw hW;go_wp2_with fail;go_ret;exact⟨by rw[show R=true from HX];rfl,HW.2⟩
theorem below_to{a:World}(h:Below a.heap.size a W)(k:Below W.heap.size W W'):Below a.heap.size a W':=h.trans (k.mono h.size)
def Nt(p:Prop):Prop:=¬p
structure Bx (W:World) (b:Nat) (a:Fv) (vn vk:Value):Prop where
 c0:W.cell? ⟨b,0,none⟩=some (.int .i64 a.k)
 c1:W.cell? ⟨b,1,none⟩=some (.int .i64 a.f)
 c2:W.cell? ⟨b,2,none⟩=some (.int .i64 a.t)
 c3:W.cell? ⟨b,3,none⟩=some (.int .i64 a.l)
 c4:W.cell? ⟨b,4,none⟩=some (.int .i64 a.o)
 c5:W.cell? ⟨b,5,none⟩=some (.int .i64 a.m)
 c6:W.cell? ⟨b,6,none⟩=some (.string a.x)
 c7:W.cell? ⟨b,7,none⟩=some vn
 c8:W.cell? ⟨b,8,none⟩=some vk
theorem Bx.below(h:Bx W b a vn vk)(hb:Below W.heap.size W W'):Bx W' b a vn vk:=by
 have hl:=lt_of_cell h.c0;have e:∀j,W'.cell? ⟨b,j,none⟩=W.cell? ⟨b,j,none⟩:=λj=>hb.cell (p:=⟨b,j,none⟩) hl;exact⟨(e _).trans h.c0,(e _).trans h.c1,(e _).trans h.c2,(e _).trans h.c3,(e _).trans h.c4,(e _).trans h.c5,(e _).trans h.c6,(e _).trans h.c7,(e _).trans h.c8⟩
theorem Bx.new(W:World)(a:Fv)(vn vk:Value)(t:TypeId):Bx (W.alloc (.cells #[.int .i64 a.k,.int .i64 a.f,.int .i64 a.t,.int .i64 a.l,.int .i64 a.o,.int .i64 a.m,.string a.x,vn,vk] t)) W.heap.size a vn vk:=by
 have e:∀j,(W.alloc (.cells #[.int .i64 a.k,.int .i64 a.f,.int .i64 a.t,.int .i64 a.l,.int .i64 a.o,.int .i64 a.m,.string a.x,vn,vk] t)).cell? ⟨W.heap.size,j,none⟩=(#[.int .i64 a.k,.int .i64 a.f,.int .i64 a.t,.int .i64 a.l,.int .i64 a.o,.int .i64 a.m,.string a.x,vn,vk]:Array Value)[j]?:=λj=>World.cell?_alloc_at _ _ _ _ rfl;exact⟨e 0,e 1,e 2,e 3,e 4,e 5,e 6,e 7,e 8⟩
def br(a:Fv)(p:Nat)(op num text names:Bool):Prop:=(op=true\/a.o=0)/\(num=true\/a.m=0)/\(text=true\/a.x=⟨#[]⟩)/\(names=true\/p=0)
def nd(nm:ByteArray->Prop)(p:Nat)(A:Nat->ByteArray)(x y:Int):Prop:=x<=(p:Int)/\(p:Int)<=y/\∀j,j<p->nm (A j)
def ex(F:Nat->Gv)(K:Nat->Int)(i k:Nat):Prop:=∀j,i<=j->j<k->20<=kdk F K j/\kdk F K j<=37
structure Sy (nm:ByteArray->Prop) (W2:World) (b:Nat) (v:Value) (n:Nat) (F:Nat->Gv) (a:Fv) (vn vk:Value) (p:Nat) (A:Nat->ByteArray) (q:Nat) (K:Nat->Int):Prop where
 hn:NmS nm
 ct:W2.cell? ⟨b,0,none⟩=some v
 bx:Bx W2 (b+1) a vn vk
 rf:RowF W2 v n F
 rn:RowV W2 vn p (λi=>.string (A i))
 rk:RowV W2 vk q (λi=>.int .i64 (K i))
 hp:p<=1048576
 hq:q<=1048576
 hnn:n<=1048576
 hk:∀j,j<q->0<=K j/\K j<(n:Int)
section
variable {nm:ByteArray->Prop} {W2:World} {b:Nat} {v:Value} {n:Nat} {F:Nat->Gv} {a:Fv} {vn vk:Value} {p:Nat} {A:Nat->ByteArray} {q:Nat} {K:Nat->Int}
theorem Sy.bare(s:Sy nm W2 b v n F a vn vk p A q K)(op num text names:Bool)(W:World)(hb:Below W2.heap.size W2 W):Calls Tryz.prog 68 #[fmv a vn vk,.bool op,.bool num,.bool text,.bool names] W λe w'=>e=.returned (.bool (dc (br a p op num text names)))/\Below W2.heap.size W2 w':=by
 obtain⟨pn,cn,rfl,_⟩:=s.rn;obtain⟨pk,ck,rfl,_⟩:=s.rk;have hp:=s.hp;exact(sp_bare a pn p cn _ ⟨pk,q,ck,rfl⟩ op num text names W (by omega)).mono λe w' h=>⟨h.1,below_to hb h.2⟩
theorem Sy.named(s:Sy nm W2 b v n F a vn vk p A q K)(x y:Int)(hx:0<=x)(hy:y<=1000)(W:World)(hb:Below W2.heap.size W2 W):Calls Tryz.prog 69 #[fmv a vn vk,.int .i64 x,.int .i64 y] W λe w'=>e=.returned (.bool (dc (nd nm p A x y)))/\Below W2.heap.size W2 w':=by
 obtain⟨pk,ck,hv,_⟩:=s.rk;exact(sp_named s.hn W (s.rn.below hb) ⟨pk,q,ck,hv⟩ x y s.hp hx hy).mono λe w' h=>⟨h.1,below_to hb h.2⟩
theorem Sy.kid(s:Sy nm W2 b v n F a vn vk p A q K)(x:Int)(i:Nat)(hx:x=(i:Int))(hi:i<q)(W:World)(hb:Below W2.heap.size W2 W):Calls Tryz.prog 67 #[.agg #[v],fmv a vn vk,.int .i64 x] W λe w'=>e=.returned (.int .i64 (kdk F K i))/\Below W2.heap.size W2 w':=by
 obtain⟨pn,cn,hv,_⟩:=s.rn;exact(sp_kid W (s.rf.below hb) (s.rk.below hb) ⟨pn,p,cn,hv⟩ x i hx hi s.hq s.hnn (s.hk i hi).1 (s.hk i hi).2).mono λe w' h=>⟨h.1,below_to hb h.2⟩
theorem Sy.exprs(s:Sy nm W2 b v n F a vn vk p A q K)(x y:Int)(i k:Nat)(hx:x=(i:Int))(hy:y=(k:Int))(hk:k<=q)(hi:i<=1048576)(W:World)(hb:Below W2.heap.size W2 W):Calls Tryz.prog 70 #[.agg #[v],fmv a vn vk,.int .i64 x,.int .i64 y] W λe w'=>e=.returned (.bool (dc (ex F K i k)))/\Below W2.heap.size W2 w':=by
 obtain⟨pn,cn,hv,_⟩:=s.rn;exact(sp_exprs W (s.rf.below hb) (s.rk.below hb) ⟨pn,p,cn,hv⟩ x y i k hx hy hk hi s.hq s.hnn s.hk).mono λe w' h=>⟨h.1,below_to hb h.2⟩
end
structure Sx (nm:ByteArray->Prop) (w:World) (v:Value) (n:Nat) (F:Nat->Gv) (vn vk:Value) (p:Nat) (A:Nat->ByteArray) (q:Nat) (K:Nat->Int):Prop where
 hn:NmS nm
 rf:RowF w v n F
 rn:RowV w vn p (λi=>.string (A i))
 rk:RowV w vk q (λi=>.int .i64 (K i))
 hp:p<=1048576
 hq:q<=1048576
 hnn:n<=1048576
 hk:∀j,j<q->0<=K j/\K j<(n:Int)
theorem Sx.below{nm:ByteArray->Prop}(s:Sx nm w v n F vn vk p A q K)(hb:Below w.heap.size w W):Sx nm W v n F vn vk p A q K:=
 ⟨s.hn,s.rf.below hb,s.rn.below hb,s.rk.below hb,s.hp,s.hq,s.hnn,s.hk⟩
theorem Sx.sy{nm:ByteArray->Prop}(s:Sx nm w v n F vn vk p A q K)(a:Fv)(t1 t2:TypeId):
  Sy nm ((w.alloc (.cells #[v] t1)).alloc (.cells #[.int .i64 a.k,.int .i64 a.f,.int .i64 a.t,.int .i64 a.l,.int .i64 a.o,.int .i64 a.m,.string a.x,vn,vk] t2)) w.heap.size v n F a vn vk p A q K:=by
 have hb:=bel2 w (.cells #[v] t1) (.cells #[.int .i64 a.k,.int .i64 a.f,.int .i64 a.t,.int .i64 a.l,.int .i64 a.o,.int .i64 a.m,.string a.x,vn,vk] t2);refine⟨s.hn,?_,?_,s.rf.below hb,s.rn.below hb,s.rk.below hb,s.hp,s.hq,s.hnn,s.hk⟩
 ·rw[World.cell?_alloc_past _ _ _ (by simp),World.cell?_alloc_at _ _ _ _ rfl];rfl
 ·have:=Bx.new (w.alloc (.cells #[v] t1)) a vn vk t2
  simpa using this
theorem uh{p:Prop}(h:Hid p):p:=h
theorem hid{p:Prop}(h:p):Hid p:=h
theorem rdf(H:Hid (R=dc P))(h:¬P):Ending.returned (.bool false)=.returned (.bool R):=by rw[show R=_ from H,dc_f h]
theorem rdt(H:Hid (R=dc P))(h:P):Ending.returned (.bool true)=.returned (.bool R):=by rw[show R=_ from H,dc_t h]
theorem opR{g:FuncId}{ax:Array Value}{S:World->Prop}(h:∀R,Hid (R=dc P)->Calls Tryz.prog g ax w λe w'=>e=.returned (.bool R)/\S w'):
  Calls Tryz.prog g ax w λe w'=>e=.returned (.bool (dc P))/\S w':=h _ (show Hid _ from rfl)
theorem Sx.opn{nm:ByteArray->Prop}(s:Sx nm w v n F vn vk p A q K)(k f t l o m:Int)(x:ByteArray)(t1 t2:TypeId):
  ∃W2,W2=(w.alloc (.cells #[v] t1)).alloc (.cells #[.int .i64 k,.int .i64 f,.int .i64 t,.int .i64 l,.int .i64 o,.int .i64 m,.string x,vn,vk] t2)/\Hid (∀W,Below W2.heap.size W2 W->Below w.heap.size w W)/\Hid (Sy nm W2 w.heap.size v n F ⟨k,f,t,l,o,m,x⟩ vn vk p A q K)/\(q:Int)<=1048576/\Hid (q<=1048576)/\(∃pn cn,vn=.slice pn p cn)/\(∃pk ck,vk=.slice pk q ck)/\∃pf cf,v=.slice pf n cf:=by
 have hs:=s.sy ⟨k,f,t,l,o,m,x⟩ t1 t2;obtain⟨pn,cn,hn,_⟩:=s.rn;obtain⟨pk,ck,hk,_⟩:=s.rk;obtain⟨pf,cf,hf,_⟩:=s.rf;have:=s.hq;exact⟨_,rfl,show Hid _ from λW hb=>(bel2 w _ _).trans (hb.mono (bel2 w _ _).size),hs,by omega,this,⟨pn,cn,hn⟩,⟨pk,ck,hk⟩,pf,cf,hf⟩
theorem Sy.bz{nm:ByteArray->Prop}{W2:World}{f t l o:Int}(s:Sy nm W2 b v n F ⟨k,f,t,l,o,m,x⟩ vn vk p A q K)(h:Below W2.heap.size W2 W):
  W.cell? ⟨b+1,0,none⟩=some (.int .i64 k)/\W.cell? ⟨b+1,1,none⟩=some (.int .i64 f)/\W.cell? ⟨b+1,2,none⟩=some (.int .i64 t)/\W.cell? ⟨b+1,3,none⟩=some (.int .i64 l)/\W.cell? ⟨b+1,4,none⟩=some (.int .i64 o)/\W.cell? ⟨b+1,5,none⟩=some (.int .i64 m)/\W.cell? ⟨b+1,6,none⟩=some (.string x)/\W.cell? ⟨b+1,7,none⟩=some vn/\W.cell? ⟨b+1,8,none⟩=some vk/\W.cell? ⟨b,0,none⟩=some v:=by
 obtain⟨c0,c1,c2,c3,c4,c5,c6,c7,c8⟩:=s.bx.below h;exact⟨c0,c1,c2,c3,c4,c5,c6,c7,c8,(h.cell (p:=⟨b,0,none⟩) (lt_of_cell s.ct)).trans s.ct⟩
theorem st_2{nm:ByteArray->Prop}(s:Sx nm w v n F vn vk p A q K)(a:Fv)(hk:a.k=2):
  Calls Tryz.prog 37 #[.agg #[v],fmv a vn vk] w λe w'=>e=.returned (.bool (dc (br a p false false false true/\nd nm p A 1 200/\ex F K 0 q)))/\Below w.heap.size w w':=by
 obtain⟨k,f,t,l,o,m,x⟩:=a;dsimp only at hk;subst hk;obtain⟨W2,hW2,HBL,HSY,hqI,HSQ,⟨pn,cn,rfl⟩,⟨pk,ck,rfl⟩,pf,cf,rfl⟩:=s.opn 2 f t l o m x 29 44;refine opR λR HR=>?_;clear s;go_enter Tryz.func37,Tryz.ntmps37;unfold fmv;go_wp2_with fail;rw[<-hW2];clear hW2;have B0:Below W2.heap.size W2 W2:=Below.refl _ _;obtain⟨c0,c1,c2,c3,c4,c5,c6,c7,c8,ct⟩:=(uh HSY).bz B0;go_wp2_with fail;refine((uh HSY).bare false false false true _ B0).mono ?_;rintro e w1 ⟨rfl,B1⟩;clear c0 c1 c2 c3 c4 c5 c6 c7 c8 ct;obtain⟨c0,c1,c2,c3,c4,c5,c6,c7,c8,ct⟩:=(uh HSY).bz B1;by_cases h0:br ⟨2,f,t,l,o,m,x⟩ p false false false true
 ·rw[dc_t h0];have HH0:=hid h0;clear h0;go_wp2_with fail;refine((uh HSY).named 1 200 (by omega) (by omega) _ B1).mono ?_;rintro e w2 ⟨rfl,B2⟩;clear c0 c1 c2 c3 c4 c5 c6 c7 c8 ct;obtain⟨c0,c1,c2,c3,c4,c5,c6,c7,c8,ct⟩:=(uh HSY).bz B2;by_cases h1:nd nm p A 1 200
  ·rw[dc_t h1];have HH1:=hid h1;clear h1;go_wp2_with fail;refine((uh HSY).exprs _ _ 0 q rfl (by first|rfl|omega) (by omega) (by omega) _ B2).mono ?_;rintro e w3 ⟨rfl,B3⟩;clear c0 c1 c2 c3 c4 c5 c6 c7 c8 ct;obtain⟨c0,c1,c2,c3,c4,c5,c6,c7,c8,ct⟩:=(uh HSY).bz B3;by_cases h2:ex F K 0 q
   ·rw[dc_t h2];have HH2:=hid h2;clear h2;go_wp2_with fail;go_ret;exact⟨rdt HR ⟨HH0,HH1,HH2⟩,(uh HBL) _ B3⟩
   ·rw[dc_f h2];have HN9:=hid h2;clear h2;go_wp2_with fail;go_ret;exact⟨rdf HR (λg=>HN9 g.2.2),(uh HBL) _ B3⟩
  ·rw[dc_f h1];have HN9:=hid h1;clear h1;go_wp2_with fail;go_ret;exact⟨rdf HR (λg=>HN9 g.2.1),(uh HBL) _ B2⟩
 ·rw[dc_f h0];have HN9:=hid h0;clear h0;go_wp2_with fail;go_ret;exact⟨rdf HR (λg=>HN9 g.1),(uh HBL) _ B1⟩
