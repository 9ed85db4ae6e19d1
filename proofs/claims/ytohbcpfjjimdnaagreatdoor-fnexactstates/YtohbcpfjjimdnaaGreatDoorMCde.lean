import Derived.Test.YtohbcpfjjimdnaaGreatDoorMCfa
set_option maxHeartbeats 32000000
namespace Go.Proofs.YtohbcpfjjimdnaaGreatDoor.Fo
open Go.ChangeShapes Go.WideShapes Go.ChangeAt Go.RowKit
set_option linter.unusedVariables false
set_option maxRecDepth 100000
variable {x:ByteArray}{A:Addr}{np ca p B cu cc cn cm:Nat}{d:Pd}{pu pc pn pm:Option Addr}
theorem str0(h:x=⟨#[]⟩):x.toList=[]:=by rw[Lib.toList_data,h]
theorem str1(h:¬x=⟨#[]⟩):¬x.toList=[]:=by
 rw[Lib.toList_data];intro e;exact h (by apply ByteArray.ext;exact Array.toList_inj.1 (by simpa using e))
theorem im_wnamed(w:World)(hp:p<np)(hnp:np<=1048576)(hb:w.cell? ⟨B,0,none⟩=some (.slice (some A) np ca))(hcel:CelP w (A.add (p*9)) d (.slice pu d.u cu) (.slice pc d.c cc) (.slice pn d.n cn) (.slice pm d.d cm))
  (hrow:RowM 0 w (.slice pm d.d cm) d.d d.D) (hd:d.d<=1048576) (hn:d.n<=1048576) (hg:0<=d.g/\d.g<=250):
  Calls Tryz.prog 73 #[.pointer (some ⟨B,0,none⟩),.int .i64 p] w λe w'=>∃r:Int,e=.returned (.int .i64 r)/\Fb (Nok d) d.d r/\Kb 0 w w':=by
 obtain⟨d0,d1,d2,d3,d4,d5,d6,d7,d8⟩:=hcel;have hpI:(p:Int)<(np:Int):=by omega
 have hnpI:(np:Int)<=1048576:=by omega
 have hdI:(d.d:Int)<=1048576:=by omega
 have hnI:(d.n:Int)<=1048576:=by omega
 obtain⟨w1,hw1⟩:∃w1,w1=w.alloc (.cells #[.string d.x,.int .i64 d.l,.int .i64 d.m,.bool d.r,.int .i64 d.g,.slice pu d.u cu,.slice pc d.c cc,.slice pn d.n cn,.slice pm d.d cm] 52):=⟨_,rfl⟩
 have k1:Kb 0 w w1:=by rw[hw1];exact kb_alloc _ _ _
 have HB:Hid (w1.cell? ⟨w.heap.size,4,none⟩=some (.int .i64 d.g)/\w1.cell? ⟨w.heap.size,7,none⟩=some (.slice pn d.n cn)/\w.heap.size<w1.heap.size/\Kb 0 w w1/\RowM 0 w1 (.slice pm d.d cm) d.d d.D):=by
  refine(show _/\_/\_/\_/\_ from⟨?_,?_,?_,k1,hrow.keep k1⟩)
  ·rw[hw1];exact cell_of (alloc_new w _ _) rfl
  ·rw[hw1];exact cell_of (alloc_new w _ _) rfl
  ·rw[hw1];simp
 have HW:Hid (w1=w.alloc (.cells #[.string d.x,.int .i64 d.l,.int .i64 d.m,.bool d.r,.int .i64 d.g,.slice pu d.u cu,.slice pc d.c cc,.slice pn d.n cn,.slice pm d.d cm] 52)):=hw1;clear hp hnp hd hn hrow k1 hw1;go_enter Tryz.func73,Tryz.ntmps73;go_wp2_with fail;rw[<-(uh HW)];clear d0 d1 d2 d3 d4 d5 d6 d7 d8 hb HW
 go_loopw [19] (λs19 wr=>∃i:Nat,s19=.int .i64 i/\i<=d.d/\Hid (Kb 0 w1 wr/\∀y,y<i->Nok d y)) (λs19 _=>d.d-(intOf s19).toNat)
 case atStart=>exact⟨0,rfl,Nat.zero_le _,(⟨Kb.refl _ _,λy h=>by omega⟩:_/\_)⟩
 case round=>
  obtain⟨i,rfl,hi,HX⟩:=hrel;obtain⟨kw,hX⟩:=(uh HX)
  obtain⟨b4,b7,bs,k1,hrow⟩:=(uh HB)
  rcases Nat.lt_or_ge i d.d with h|h
  ·have hI:(i:Int)<(d.d:Int):=by omega
   obtain⟨pm',cm',e1,hrow2⟩:=hrow;obtain⟨rfl,-,rfl⟩:pm=pm'/\d.d=d.d/\cm=cm':=by simpa using e1
   obtain⟨b,rfl,hcb,-,hrb⟩:=hrow2 (by omega);obtain⟨q0,q1,q2,q3⟩:=(hrb i h).keep zq kw;have o4:∀o,(wr.alloc o).cell? ⟨w.heap.size,4,none⟩=some (.int .i64 d.g):=λo=>(kw.alloc o).cell b4;have o7:∀o,(wr.alloc o).cell? ⟨w.heap.size,7,none⟩=some (.slice pn d.n cn):=λo=>(kw.alloc o).cell b7
   have HXT:Hid (Nok d i->∀o,Kb 0 w1 (wr.alloc o)/\∀y,y<i+1->Nok d y):=(λc o=>⟨kw.alloc o,λy h2=>by
    by_cases e:y=i
    ·subst e;exact c
    ·exact hX y (by omega)⟩:Nok d i->∀o,_)
   have HXF:Hid (¬Nok d i->∀o,Fb (Nok d) d.d (i:Int)/\Kb 0 w (wr.alloc o)):=(λc o=>⟨Or.inr ⟨i,rfl,h,c,hX⟩,(k1.trans kw).alloc o⟩:¬Nok d i->∀o,_)
   clear HX hX kw hrow2 hrb e1 HB b4 b7 bs k1;have hN:Nok d i↔i<500/\(1<=(d.D i).x.size/\(d.D i).x.size<=40)/\(0<=(d.D i).g/\(d.D i).g<=d.g-1)/\0<=(d.D i).f/\(d.D i).f<=(d.D i).t/\(d.D i).t<=(d.n:Int):=Iff.rfl;generalize hQ:Nok d i=Q at*;generalize d.D i=a at*;obtain⟨x,g,f,t⟩:=a;dsimp only at*;by_cases h0:i<500
   rotate_left
   ·have g0:¬(i:Int)<500:=by omega
    have HXE:=(uh HXF) (λq=>h0 (hN.1 q).1)
    clear HXF HXT hN hQ;go_wp2_with fail;go_ret;exact⟨_,rfl,(HXE (.cells #[] 0)).1,(HXE _).2⟩
   have g0:(i:Int)<500:=by omega
   by_cases h1:x≠⟨#[]⟩
   rotate_left
   ·have h1:=Classical.not_not.1 h1;have g1:x.toList.isEmpty=true:=by rw[str0 h1];rfl
    have h1z:=sz_emp.1 h1;clear h1;have HXE:=(uh HXF) (λq=>(by have:=(hN.1 q).2.1.1;omega))
    clear HXF HXT hN hQ;go_wp2_with fail;go_ret;exact⟨_,rfl,(HXE (.cells #[] 0)).1,(HXE _).2⟩
   have g1:x.toList.isEmpty=false:=by have:=str1 h1;cases hh:x.toList with|nil=>exact absurd hh this|cons _ _=>rfl
   have h1z:x.size≠0:=λe=>h1 (sz_emp.2 e);clear h1;by_cases h2:x.size<=40
   rotate_left
   ·have g2:¬(x.size:Int)<=40:=by omega
    have HXE:=(uh HXF) (λq=>h2 (hN.1 q).2.1.2)
    clear HXF HXT hN hQ;go_wp2_with fail;go_ret;exact⟨_,rfl,(HXE (.cells #[] 0)).1,(HXE _).2⟩
   have g2:(x.size:Int)<=40:=by omega
   by_cases h3:0<=g
   rotate_left
   ·have HXE:=(uh HXF) (λq=>h3 (hN.1 q).2.2.1.1)
    clear HXF HXT hN hQ;go_wp2_with fail;go_ret;exact⟨_,rfl,(HXE (.cells #[] 0)).1,(HXE _).2⟩
   by_cases h4:g<d.g
   rotate_left
   ·have HXE:=(uh HXF) (λq=>(by have:=(hN.1 q).2.2.1.2;omega))
    clear HXF HXT hN hQ;go_wp2_with fail;go_ret;exact⟨_,rfl,(HXE (.cells #[] 0)).1,(HXE _).2⟩
   by_cases h5:0<=f
   rotate_left
   ·have HXE:=(uh HXF) (λq=>h5 (hN.1 q).2.2.2.1)
    clear HXF HXT hN hQ;go_wp2_with fail;go_ret;exact⟨_,rfl,(HXE (.cells #[] 0)).1,(HXE _).2⟩
   by_cases h6:f<=t
   rotate_left
   ·have HXE:=(uh HXF) (λq=>h6 (hN.1 q).2.2.2.2.1)
    clear HXF HXT hN hQ;go_wp2_with fail;go_ret;exact⟨_,rfl,(HXE (.cells #[] 0)).1,(HXE _).2⟩
   by_cases h7:t<=(d.n:Int)
   rotate_left
   ·have g7:decide (t<=(d.n:Int))=false:=decide_eq_false h7;have HXE:=(uh HXF) (λq=>h7 (hN.1 q).2.2.2.2.2)
    clear HXF HXT hN hQ;go_wp2_with fail;go_ret;exact⟨_,rfl,(HXE (.cells #[] 0)).1,(HXE _).2⟩
   have g7:decide (t<=(d.n:Int))=true:=decide_eq_true h7;have HXE:=(uh HXT) (hN.2 ⟨h0,⟨by omega,h2⟩,⟨h3,by omega⟩,h5,h6,h7⟩)
   clear HXF HXT hN hQ;go_wp2_with fail;go_roundw
   case rel=>exact⟨i+1,by go_num,by omega,HXE _⟩
   case measure=>simp[intOf];omega
  ·have hI:¬(i:Int)<(d.d:Int):=by omega
   have HX3:Hid (Fb (Nok d) d.d (-1)/\Kb 0 w wr):=(⟨Or.inl ⟨rfl,λy hy=>hX y (by omega)⟩,k1.trans kw⟩:_/\_)
   clear HX hX kw HB b4 b7 bs k1 hrow;go_wp2_with fail;go_ret;exact⟨_,rfl,HX3.1,HX3.2⟩
theorem im_whead(w:World)(hp:p<np)(hnp:np<=1048576)(hb:w.cell? ⟨B,0,none⟩=some (.slice (some A) np ca))(hcel:CelP w (A.add (p*9)) d (.slice pu d.u cu) (.slice pc d.c cc) (.slice pn d.n cn) (.slice pm d.d cm))(hu:d.u<=1048576)(hc:d.c<=1048576)(hg:-9223372036854775808<=d.g):
  Calls Tryz.prog 71 #[.pointer (some ⟨B,0,none⟩),.int .i64 p] w λe w'=>∃r:Int,e=.returned (.int .i64 r)/\Fb (λ_=>Hd p d) 1 r/\Kb 0 w w':=by
 obtain⟨d0,d1,d2,d3,d4,d5,d6,d7,d8⟩:=hcel;have HT:Hd p d->Fb (λ_=>Hd p d) 1 (-1):=λh=>.inl ⟨rfl,λ_ _=>h⟩;have HF:¬Hd p d->Fb (λ_=>Hd p d) 1 0:=λh=>.inr ⟨0,rfl,by omega,h,λi hi=>by omega⟩;have hN:Hd p d↔d.x.size<=40/\(0<=d.l/\d.l<=100000)/\(0<=d.g/\d.g<=250)/\(0<=d.m/\d.m<=(if d.r=true then d.g-1 else d.g))/\d.u<=250/\d.c<=500/\(0<p\/(d.m=0/\d.u=0)):=Iff.rfl;generalize Hd p d=Q at*;obtain⟨x,l,m,r,g,u,U,c,C,n,N,dd,D⟩:=d;dsimp only at*;have hpI:(p:Int)<(np:Int):=by omega
 have hnpI:(np:Int)<=1048576:=by omega
 have huI:(u:Int)<=1048576:=by omega
 have hcI:(c:Int)<=1048576:=by omega
 clear hp hnp hu hc;have hgw:IntKind.i64.wrap (-9223372036854775808-1)=9223372036854775807:=by decide
 cases r with
 |false=>
  rw[if_neg (by decide)]at hN;by_cases h0:x.size<=40
  rotate_left
  ·have g0:¬(x.size:Int)<=40:=by omega
   have HX:=HF (λq=>h0 (hN.1 q).1);clear HT HF hN;go_enter Tryz.func71,Tryz.ntmps71;go_wp2_with fail;go_ret;exact⟨_,rfl,HX,kb_alloc _ _ _⟩
  have g0:(x.size:Int)<=40:=by omega
  by_cases h1:0<=l
  rotate_left
  ·have HX:=HF (λq=>h1 (hN.1 q).2.1.1);clear HT HF hN;go_enter Tryz.func71,Tryz.ntmps71;go_wp2_with fail;go_ret;exact⟨_,rfl,HX,kb_alloc _ _ _⟩
  by_cases h2:l<=100000
  rotate_left
  ·have HX:=HF (λq=>h2 (hN.1 q).2.1.2);clear HT HF hN;go_enter Tryz.func71,Tryz.ntmps71;go_wp2_with fail;go_ret;exact⟨_,rfl,HX,kb_alloc _ _ _⟩
  by_cases h3:0<=g
  rotate_left
  ·have HX:=HF (λq=>h3 (hN.1 q).2.2.1.1);clear HT HF hN;go_enter Tryz.func71,Tryz.ntmps71;go_wp2_with fail;go_ret;exact⟨_,rfl,HX,kb_alloc _ _ _⟩
  by_cases h4:g<=250
  rotate_left
  ·have HX:=HF (λq=>h4 (hN.1 q).2.2.1.2);clear HT HF hN;go_enter Tryz.func71,Tryz.ntmps71;go_wp2_with fail;go_ret;exact⟨_,rfl,HX,kb_alloc _ _ _⟩
  by_cases h5:0<=m
  rotate_left
  ·have HX:=HF (λq=>h5 (hN.1 q).2.2.2.1.1);clear HT HF hN;go_enter Tryz.func71,Tryz.ntmps71;go_wp2_with fail;go_ret;exact⟨_,rfl,HX,kb_alloc _ _ _⟩
  by_cases h6:m<=g
  rotate_left
  ·have HX:=HF (λq=>h6 (hN.1 q).2.2.2.1.2);clear HT HF hN;go_enter Tryz.func71,Tryz.ntmps71;go_wp2_with fail;go_ret;exact⟨_,rfl,HX,kb_alloc _ _ _⟩
  by_cases h7:u<=250
  rotate_left
  ·have g7:¬(u:Int)<=250:=by omega
   have HX:=HF (λq=>h7 (hN.1 q).2.2.2.2.1);clear HT HF hN;go_enter Tryz.func71,Tryz.ntmps71;go_wp2_with fail;go_ret;exact⟨_,rfl,HX,kb_alloc _ _ _⟩
  have g7:(u:Int)<=250:=by omega
  by_cases h8:c<=500
  rotate_left
  ·have g8:¬(c:Int)<=500:=by omega
   have HX:=HF (λq=>h8 (hN.1 q).2.2.2.2.2.1);clear HT HF hN;go_enter Tryz.func71,Tryz.ntmps71;go_wp2_with fail;go_ret;exact⟨_,rfl,HX,kb_alloc _ _ _⟩
  have g8:(c:Int)<=500:=by omega
  by_cases h9:0<p
  ·have g9:(0:Int)<(p:Int):=by omega
   have HX:=HT (hN.2 ⟨h0,⟨h1,h2⟩,⟨h3,h4⟩,⟨h5,h6⟩,h7,h8,Or.inl h9⟩);clear HT HF hN;go_enter Tryz.func71,Tryz.ntmps71;go_wp2_with fail;go_ret;exact⟨_,rfl,HX,kb_alloc _ _ _⟩
  have g9:¬(0:Int)<(p:Int):=by omega
  by_cases ha:m=0
  rotate_left
  ·have ga:(m==0)=false:=bne ha;have HX:=HF (λq=>(hN.1 q).2.2.2.2.2.2.elim h9 (λq=>ha q.1));clear HT HF hN;go_enter Tryz.func71,Tryz.ntmps71;go_wp2_with fail;go_ret;exact⟨_,rfl,HX,kb_alloc _ _ _⟩
  subst ha;by_cases hb2:u=0
  rotate_left
  ·have gb:((u:Int)==0)=false:=bne (by omega);have HX:=HF (λq=>(hN.1 q).2.2.2.2.2.2.elim h9 (λq=>hb2 q.2));clear HT HF hN;go_enter Tryz.func71,Tryz.ntmps71;go_wp2_with fail;go_ret;exact⟨_,rfl,HX,kb_alloc _ _ _⟩
  have gb:((u:Int)==0)=true:=beq1 (by omega);have HX:=HT (hN.2 ⟨h0,⟨h1,h2⟩,⟨h3,h4⟩,⟨h5,h6⟩,h7,h8,Or.inr ⟨rfl,hb2⟩⟩);clear HT HF hN;go_enter Tryz.func71,Tryz.ntmps71;go_wp2_with fail;go_ret;exact⟨_,rfl,HX,kb_alloc _ _ _⟩
 |true=>
  rw[if_pos rfl]at hN;by_cases hgm:g=-9223372036854775808
  ·subst hgm;have HX:=HF (λq=>by have:=(hN.1 q).2.2.1.1;omega);clear HT HF hN;by_cases h0:x.size<=40
   ·have g0:(x.size:Int)<=40:=by omega
    by_cases h1:0<=l
    ·by_cases h2:l<=100000
     all_goals
      go_enter Tryz.func71,Tryz.ntmps71;go_wp2_with fail;go_ret;exact⟨_,rfl,HX,kb_alloc _ _ _⟩
    ·go_enter Tryz.func71,Tryz.ntmps71;go_wp2_with fail;go_ret;exact⟨_,rfl,HX,kb_alloc _ _ _⟩
   ·have g0:¬(x.size:Int)<=40:=by omega
    go_enter Tryz.func71,Tryz.ntmps71;go_wp2_with fail;go_ret;exact⟨_,rfl,HX,kb_alloc _ _ _⟩
  have hg1:-9223372036854775807<=g:=by omega
  by_cases h0:x.size<=40
  rotate_left
  ·have g0:¬(x.size:Int)<=40:=by omega
   have HX:=HF (λq=>h0 (hN.1 q).1);clear HT HF hN;go_enter Tryz.func71,Tryz.ntmps71;go_wp2_with fail;go_ret;exact⟨_,rfl,HX,kb_alloc _ _ _⟩
  have g0:(x.size:Int)<=40:=by omega
  by_cases h1:0<=l
  rotate_left
  ·have HX:=HF (λq=>h1 (hN.1 q).2.1.1);clear HT HF hN;go_enter Tryz.func71,Tryz.ntmps71;go_wp2_with fail;go_ret;exact⟨_,rfl,HX,kb_alloc _ _ _⟩
  by_cases h2:l<=100000
  rotate_left
  ·have HX:=HF (λq=>h2 (hN.1 q).2.1.2);clear HT HF hN;go_enter Tryz.func71,Tryz.ntmps71;go_wp2_with fail;go_ret;exact⟨_,rfl,HX,kb_alloc _ _ _⟩
  by_cases h3:0<=g
  rotate_left
  ·have HX:=HF (λq=>h3 (hN.1 q).2.2.1.1);clear HT HF hN;go_enter Tryz.func71,Tryz.ntmps71;go_wp2_with fail;go_ret;exact⟨_,rfl,HX,kb_alloc _ _ _⟩
  by_cases h4:g<=250
  rotate_left
  ·have HX:=HF (λq=>h4 (hN.1 q).2.2.1.2);clear HT HF hN;go_enter Tryz.func71,Tryz.ntmps71;go_wp2_with fail;go_ret;exact⟨_,rfl,HX,kb_alloc _ _ _⟩
  by_cases h5:0<=m
  rotate_left
  ·have HX:=HF (λq=>h5 (hN.1 q).2.2.2.1.1);clear HT HF hN;go_enter Tryz.func71,Tryz.ntmps71;go_wp2_with fail;go_ret;exact⟨_,rfl,HX,kb_alloc _ _ _⟩
  by_cases h6:m<=g-1
  rotate_left
  ·have HX:=HF (λq=>h6 (hN.1 q).2.2.2.1.2);clear HT HF hN;go_enter Tryz.func71,Tryz.ntmps71;go_wp2_with fail;go_ret;exact⟨_,rfl,HX,kb_alloc _ _ _⟩
  by_cases h7:u<=250
  rotate_left
  ·have g7:¬(u:Int)<=250:=by omega
   have HX:=HF (λq=>h7 (hN.1 q).2.2.2.2.1);clear HT HF hN;go_enter Tryz.func71,Tryz.ntmps71;go_wp2_with fail;go_ret;exact⟨_,rfl,HX,kb_alloc _ _ _⟩
  have g7:(u:Int)<=250:=by omega
  by_cases h8:c<=500
  rotate_left
  ·have g8:¬(c:Int)<=500:=by omega
   have HX:=HF (λq=>h8 (hN.1 q).2.2.2.2.2.1);clear HT HF hN;go_enter Tryz.func71,Tryz.ntmps71;go_wp2_with fail;go_ret;exact⟨_,rfl,HX,kb_alloc _ _ _⟩
  have g8:(c:Int)<=500:=by omega
  by_cases h9:0<p
  ·have g9:(0:Int)<(p:Int):=by omega
   have HX:=HT (hN.2 ⟨h0,⟨h1,h2⟩,⟨h3,h4⟩,⟨h5,h6⟩,h7,h8,Or.inl h9⟩);clear HT HF hN;go_enter Tryz.func71,Tryz.ntmps71;go_wp2_with fail;go_ret;exact⟨_,rfl,HX,kb_alloc _ _ _⟩
  have g9:¬(0:Int)<(p:Int):=by omega
  by_cases ha:m=0
  rotate_left
  ·have ga:(m==0)=false:=bne ha;have HX:=HF (λq=>(hN.1 q).2.2.2.2.2.2.elim h9 (λq=>ha q.1));clear HT HF hN;go_enter Tryz.func71,Tryz.ntmps71;go_wp2_with fail;go_ret;exact⟨_,rfl,HX,kb_alloc _ _ _⟩
  subst ha;by_cases hb2:u=0
  rotate_left
  ·have gb:((u:Int)==0)=false:=bne (by omega);have HX:=HF (λq=>(hN.1 q).2.2.2.2.2.2.elim h9 (λq=>hb2 q.2));clear HT HF hN;go_enter Tryz.func71,Tryz.ntmps71;go_wp2_with fail;go_ret;exact⟨_,rfl,HX,kb_alloc _ _ _⟩
  have gb:((u:Int)==0)=true:=beq1 (by omega);have HX:=HT (hN.2 ⟨h0,⟨h1,h2⟩,⟨h3,h4⟩,⟨h5,h6⟩,h7,h8,Or.inr ⟨rfl,hb2⟩⟩);clear HT HF hN;go_enter Tryz.func71,Tryz.ntmps71;go_wp2_with fail;go_ret;exact⟨_,rfl,HX,kb_alloc _ _ _⟩
theorem im_ixval{v:Value}{C:Nat->Vv}(w:World)(hr:RowW 0 w v p C)(hp:p<=1048576)(hC:∀i,i<p->((C i).x.size:Int)<=1048576/\(C i).g<18446744073709551616):
  Calls Tryz.prog 107 #[v,.func (.func 108) #[] #[]] w λe w'=>∃r:Int,e=.returned (.int .i64 r)/\Fb (λj=>Cok (C j)) p r/\Kb 0 w w':=by
 obtain⟨pa,ca,rfl,hr2⟩:=hr;have hpI:(p:Int)<=1048576:=by omega
 have HR:Hid ((0<p->∃a:Addr,pa=some a/\p<=ca/\0<=a.block/\∀i,i<p->ValC 0 w (a.add (i*5)) (C i))/\∀i,i<p->((C i).x.size:Int)<=1048576/\(C i).g<18446744073709551616):=(⟨hr2,hC⟩:_/\_)
 clear hr2 hp hC;go_enter Tryz.func107,Tryz.ntmps107;go_wp2_with fail
 go_loopw [8] (λs8 wr=>∃i:Nat,s8=.int .i64 i/\i<=p/\Hid (Kb 0 w wr/\∀j,j<i->Cok (C j))) (λs8 _=>p-(intOf s8).toNat)
 case atStart=>exact⟨0,rfl,Nat.zero_le _,(⟨Kb.refl _ _,λj hj=>by omega⟩:_/\_)⟩
 case round=>
  obtain⟨i,rfl,hin,HI⟩:=hrel;obtain⟨kw,ha⟩:=(uh HI)
  rcases Nat.lt_or_ge i p with hi|hi
  ·have hiI:(i:Int)<(p:Int):=by omega
   have hR:=(uh HR)
   obtain⟨a,rfl,hca,-,hra⟩:=hR.1 (by omega);obtain⟨d0,d1,d2,d3,d4⟩:=(hra i hi).keep zq kw;have hcall:=im_nocon (C i) (hR.2 i hi).1 (hR.2 i hi).2 wr;unfold valv at hcall;by_cases hn:Cok (C i)
   ·rw[dc_f (not_not_intro hn)]at hcall
    have HX:Hid (∀W,Kb 0 wr W->Kb 0 w W/\∀j,j<i+1->Cok (C j)):=(λW k=>⟨kw.trans k,λj hj=>by
     by_cases e:j=i
     ·rw[e];exact hn
     ·exact ha j (by omega)⟩:∀W,_)
    clear HI ha hra hn kw hR HR;go_wp2_with fail;refine hcall.mono ?_;rintro e w' ⟨rfl,k'⟩;have HX2:Hid (Kb 0 w w'/\∀j,j<i+1->Cok (C j)):=(uh HX) w' k';clear HX k' hcall d0 d1 d2 d3 d4;go_wp2_with fail;go_roundw
    case rel=>exact⟨i+1,by go_num,by omega,HX2⟩
    case measure=>simp[intOf];omega
   ·rw[dc_t hn]at hcall;have HX:Hid (∀W,Kb 0 wr W->Fb (λj=>Cok (C j)) p (i:Int)/\Kb 0 w W):=(λW k=>⟨Or.inr ⟨i,rfl,hi,hn,ha⟩,kw.trans k⟩:∀W,_)
    clear HI ha hra hn kw hR HR;go_wp2_with fail;refine hcall.mono ?_;rintro e w' ⟨rfl,k'⟩;have HX2:Hid (Fb (λj=>Cok (C j)) p (i:Int)/\Kb 0 w w'):=(uh HX) w' k';clear HX k' hcall d0 d1 d2 d3 d4;go_wp2_with fail;go_ret;exact⟨(i:Int),rfl,HX2.1,HX2.2⟩
  ·obtain rfl:i=p:=by omega
   have HX:Hid (Fb (λj=>Cok (C j)) i (-1)/\Kb 0 w wr):=(⟨Or.inl ⟨rfl,ha⟩,kw⟩:_/\_)
   clear HR ha HI kw;go_wp2_with fail;go_ret;exact⟨-1,rfl,HX.1,HX.2⟩
theorem im_wconst{vu vc vn vd:Value}(w:World)(hp:p<np)(hnp:np<=1048576)(hb:w.cell? ⟨B,0,none⟩=some (.slice (some A) np ca))(hcel:CelP w (A.add (p*9)) d vu vc vn vd)
  (hrow:RowW 0 w vc d.c d.C) (hc:d.c<=1048576) (hC:∀i,i<d.c->((d.C i).x.size:Int)<=1048576/\(d.C i).g<18446744073709551616):
  Calls Tryz.prog 72 #[.pointer (some ⟨B,0,none⟩),.int .i64 p] w λe w'=>∃r:Int,e=.returned (.int .i64 r)/\Fb (λj=>Cok (d.C j)) d.c r/\Kb 0 w w':=by
 have HX:=im_ixval w hrow hc hC;obtain⟨pc,cc,rfl,-⟩:=hrow;obtain⟨d0,d1,d2,d3,d4,d5,d6,d7,d8⟩:=hcel;have hpI:(p:Int)<(np:Int):=by omega
 have hnpI:(np:Int)<=1048576:=by omega
 have hcI:(d.c:Int)<=1048576:=by omega
 clear hC hp hnp d0 d1 d2 d3 d4 d5 d7 d8;go_enter Tryz.func72,Tryz.ntmps72;go_wp2_with fail;refine HX.mono ?_;rintro e w1 ⟨r,rfl,h1,h2⟩;go_wp2_with fail;go_ret;exact⟨r,rfl,h1,h2⟩
def Fb5(np:Nat)(d:Pd)(r:Int):Prop:=Fb (λi=>d.n≠0/\Iok np d i) (if d.n=0 then 1 else d.n) r
theorem im_wins(w:World)(hp:p<np)(hnp:np<=1048576)(hb:w.cell? ⟨B,0,none⟩=some (.slice (some A) np ca))(hgd:Gd w)(hcel:CelP w (A.add (p*9)) d (.slice pu d.u cu) (.slice pc d.c cc) (.slice pn d.n cn) (.slice pm d.d cm))
    (hrow:RowI 0 w (.slice pn d.n cn) d.n d.N) (hu:d.u<=1048576) (hc:d.c<=1048576) (hni:d.n<=1048576) (hg:0<=d.g/\d.g<=250):
    Calls Tryz.prog 74 #[.pointer (some ⟨B,0,none⟩),.int .i64 p] w λe w'=>∃r:Int,e=.returned (.int .i64 r)/\Fb5 np d r/\Kb 0 w w':=by
  obtain⟨d0,d1,d2,d3,d4,d5,d6,d7,d8⟩:=hcel;have hpI:(p:Int)<(np:Int):=by omega
  have hnpI:(np:Int)<=1048576:=by omega
  have hnI:(d.n:Int)<=1048576:=by omega
  obtain⟨w1,hw1⟩:∃w1,w1=w.alloc (.cells #[.string d.x,.int .i64 d.l,.int .i64 d.m,.bool d.r,.int .i64 d.g,.slice pu d.u cu,.slice pc d.c cc,.slice pn d.n cn,.slice pm d.d cm] 52):=⟨_,rfl⟩
  have k1:Kb 0 w w1:=by rw[hw1];exact kb_alloc _ _ _
  have bb:w1.heap[w.heap.size]? =some (.cells #[.string d.x,.int .i64 d.l,.int .i64 d.m,.bool d.r,.int .i64 d.g,.slice pu d.u cu,.slice pc d.c cc,.slice pn d.n cn,.slice pm d.d cm] 52 (0,0)):=by rw[hw1];exact alloc_new _ _ _
  have HB:Hid (Kb 0 w w1/\Gd w1/\w1.cell? ⟨B,0,none⟩=some (.slice (some A) np ca)/\RowI 0 w1 (.slice pn d.n cn) d.n d.N/\w1.cell? ⟨w.heap.size,0,none⟩=some (.string d.x)/\w1.cell? ⟨w.heap.size,1,none⟩=some (.int .i64 d.l)/\w1.cell? ⟨w.heap.size,2,none⟩=some (.int .i64 d.m)/\w1.cell? ⟨w.heap.size,3,none⟩=some (.bool d.r)/\w1.cell? ⟨w.heap.size,4,none⟩=some (.int .i64 d.g)/\w1.cell? ⟨w.heap.size,5,none⟩=some (.slice pu d.u cu)/\w1.cell? ⟨w.heap.size,6,none⟩=some (.slice pc d.c cc)/\w1.cell? ⟨w.heap.size,7,none⟩=some (.slice pn d.n cn)/\w1.cell? ⟨w.heap.size,8,none⟩=some (.slice pm d.d cm)):=(show _/\_/\_/\_/\_/\_/\_/\_/\_/\_/\_/\_/\_ from⟨k1,hgd.keep k1,k1.cell hb,hrow.keep k1,cell_of bb rfl,cell_of bb rfl,cell_of bb rfl,cell_of bb rfl,cell_of bb rfl,cell_of bb rfl,cell_of bb rfl,cell_of bb rfl,cell_of bb rfl⟩)
  have HW:Hid (w1=w.alloc (.cells #[.string d.x,.int .i64 d.l,.int .i64 d.m,.bool d.r,.int .i64 d.g,.slice pu d.u cu,.slice pc d.c cc,.slice pn d.n cn,.slice pm d.d cm] 52)):=hw1;have HY:Hid (np<=1048576/\d.u<=1048576/\d.c<=1048576/\d.n<=1048576/\(0<=d.g/\d.g<=250)):=(⟨hnp,hu,hc,hni,hg⟩:_/\_)
  clear hp hnp hrow k1 hw1 bb hgd hu hc hni hg;go_enter Tryz.func74,Tryz.ntmps74;go_wp2_with fail;rw[<-(uh HW)];clear d0 d1 d2 d3 d4 d5 d6 d7 d8 hb HW
  go_loopw [23] (λsl wr=>∃i:Nat,sl=.int .i64 i/\i<=d.n/\Hid (Kb 0 w1 wr/\∀y,y<i->Iok np d y)) (λsl _=>d.n-(intOf sl).toNat)
  case atStart=>exact⟨0,rfl,Nat.zero_le _,(⟨Kb.refl _ _,λy h=>by omega⟩:_/\_)⟩
  case round=>
    obtain⟨i,rfl,hi,HX⟩:=hrel;obtain⟨kw,hX⟩:=(uh HX)
    obtain⟨k1,hgd,hb,hrow,c0,c1,c2,c3,c4,c5,c6,c7,c8⟩:=(uh HB)
    obtain⟨hnp,hu,hc,hni,hg⟩:=(uh HY)
    rcases Nat.lt_or_ge i d.n with h|h
    · have hI:(i:Int)<(d.n:Int):=by omega
      obtain⟨pn',cn',e1,hrow2⟩:=hrow;obtain⟨rfl,-,rfl⟩:pn=pn'/\d.n=d.n/\cn=cn':=by simpa using e1
      obtain⟨b,rfl,hcb,-,hrb⟩:=hrow2 (by omega);obtain⟨q0,q1,q2,q3,q4⟩:=(hrb i h).keep zq kw;have o0:∀o,(wr.alloc o).cell? ⟨w.heap.size,0,none⟩=some (.string d.x):=λo=>(kw.alloc o).cell c0;have o1:∀o,(wr.alloc o).cell? ⟨w.heap.size,1,none⟩=some (.int .i64 d.l):=λo=>(kw.alloc o).cell c1;have o2:∀o,(wr.alloc o).cell? ⟨w.heap.size,2,none⟩=some (.int .i64 d.m):=λo=>(kw.alloc o).cell c2;have o3:∀o,(wr.alloc o).cell? ⟨w.heap.size,3,none⟩=some (.bool d.r):=λo=>(kw.alloc o).cell c3;have o4:∀o,(wr.alloc o).cell? ⟨w.heap.size,4,none⟩=some (.int .i64 d.g):=λo=>(kw.alloc o).cell c4;have o5:∀o,(wr.alloc o).cell? ⟨w.heap.size,5,none⟩=some (.slice pu d.u cu):=λo=>(kw.alloc o).cell c5;have o6:∀o,(wr.alloc o).cell? ⟨w.heap.size,6,none⟩=some (.slice pc d.c cc):=λo=>(kw.alloc o).cell c6;have o7:∀o,(wr.alloc o).cell? ⟨w.heap.size,7,none⟩=some (.slice (some b) d.n cn):=λo=>(kw.alloc o).cell c7;have o8:∀o,(wr.alloc o).cell? ⟨w.heap.size,8,none⟩=some (.slice pm d.d cm):=λo=>(kw.alloc o).cell c8;have HIT:∀o,Calls Tryz.prog 109 #[.pointer (some ⟨B,0,none⟩),.agg #[.string d.x,.int .i64 d.l,.int .i64 d.m,.bool d.r,.int .i64 d.g,.slice pu d.u cu,.slice pc d.c cc,.slice (some b) d.n cn,.slice pm d.d cm],.agg #[.int .i64 (d.N i).o,.int .i64 (d.N i).a,.int .i64 (d.N i).b,.int .i64 (d.N i).c,.int .i64 (d.N i).d]] (wr.alloc o) λe w'=>e=.returned (.bool (dc (Tok np d (d.N i))))/\Kb 0 (wr.alloc o) w':=λo=>im_intable (d.N i) (wr.alloc o) hnp ((kw.alloc o).cell hb) (hgd.keep (kw.alloc o)) hu hc hni hg;have hiok:Iok np d i↔Tok np d (d.N i)/\(i+1=d.n->Ends (d.N i).o):=Iff.rfl
      have hgood:Iok np d i->∀o W,Kb 0 (wr.alloc o) W->Kb 0 w1 W/\∀y,y<i+1->Iok np d y:=λc o W k=>⟨(kw.alloc o).trans k,λy hy=>by
        by_cases e:y=i
        · subst e;exact c
        · exact hX y (by omega)⟩
      have hbad:¬Iok np d i->∀o W,Kb 0 (wr.alloc o) W->Fb5 np d (i:Int)/\Kb 0 w W:=λc o W k=>⟨Or.inr ⟨i,rfl,by rw[if_neg (by omega)];exact h,λq=>c q.2,λy hy=>⟨by omega,hX y hy⟩⟩,k1.trans ((kw.alloc o).trans k)⟩
      clear HX hX kw hrow2 hrb e1 HB c0 c1 c2 c3 c4 c5 c6 c7 c8 k1 hgd hb hnp hu hc hni hg HY;generalize Iok np d i=Q at*;generalize Tok np d (d.N i)=TQ at*;generalize d.N i=v at*;obtain⟨vo,va,vb,vc,vd⟩:=v;dsimp only at q0 q1 q2 q3 q4 HIT hiok;have HEN:=λW=>im_ends vo W;by_cases ct:TQ
      rotate_left
      · rw[dc_f ct]at HIT;have HBO:Hid (∀o W,Kb 0 (wr.alloc o) W->Fb5 np d (i:Int)/\Kb 0 w W):=hbad (λq=>ct (hiok.1 q).1);clear hgood hbad hiok ct HEN;go_wp2_with fail;refine(HIT _).mono ?_;rintro e w5 ⟨rfl,k5⟩;have i0:w5.cell? ⟨wr.heap.size,0,none⟩=some (.int .i64 vo):=k5.cell (cell_of (alloc_new wr _ _) rfl);have HX3:Hid (Fb5 np d (i:Int)/\Kb 0 w w5):=(uh HBO) _ w5 k5;clear k5 HIT HBO o0 o1 o2 o3 o4 o5 o6 o7 o8 q0 q1 q2 q3 q4;go_wp2_with fail;go_ret;exact⟨_,rfl,HX3.1,HX3.2⟩
      rw[dc_t ct]at HIT;by_cases cl:i+1=d.n
      rotate_left
      · have gl:((i:Int)==(d.n:Int)-1)=false:=bne (by omega);have HGO:Hid (∀o W,Kb 0 (wr.alloc o) W->Kb 0 w1 W/\∀y,y<i+1->Iok np d y):=hgood (hiok.2 ⟨ct,λq=>absurd q cl⟩);clear hgood hbad hiok ct cl HEN;go_wp2_with fail;refine(HIT _).mono ?_;rintro e w5 ⟨rfl,k5⟩;have i0:w5.cell? ⟨wr.heap.size,0,none⟩=some (.int .i64 vo):=k5.cell (cell_of (alloc_new wr _ _) rfl);have HX3:Hid (Kb 0 w1 w5/\∀y,y<i+1->Iok np d y):=(uh HGO) _ w5 k5;clear k5 HIT HGO o0 o1 o2 o3 o4 o5 o6 o7 o8 q0 q1 q2 q3 q4;go_wp2_with fail;go_roundw
        case rel=>exact⟨i+1,by go_num,by omega,HX3⟩
        case measure=>simp[intOf];omega
      have gl:((i:Int)==(d.n:Int)-1)=true:=beq1 (by omega);by_cases ce:Ends vo
      · rw[dc_t ce]at HEN;have HGO:Hid (∀o W,Kb 0 (wr.alloc o) W->Kb 0 w1 W/\∀y,y<i+1->Iok np d y):=hgood (hiok.2 ⟨ct,λ_=>ce⟩);clear hgood hbad hiok ct cl ce;go_wp2_with fail;refine(HIT _).mono ?_;rintro e w5 ⟨rfl,k5⟩;have i0:w5.cell? ⟨wr.heap.size,0,none⟩=some (.int .i64 vo):=k5.cell (cell_of (alloc_new wr _ _) rfl);have HX3:Hid (Kb 0 w1 w5/\∀y,y<i+1->Iok np d y):=(uh HGO) _ w5 k5;clear k5 HIT HGO o0 o1 o2 o3 o4 o5 o6 o7 o8 q0 q1 q2 q3 q4;go_wp2_with (go_at_call 87;refine(HEN _).mono ?_;rintro e w6 ⟨rfl,rfl⟩);go_roundw
        case rel=>exact⟨i+1,by go_num,by omega,HX3⟩
        case measure=>simp[intOf];omega
      · rw[dc_f ce]at HEN;have HBO:Hid (∀o W,Kb 0 (wr.alloc o) W->Fb5 np d (i:Int)/\Kb 0 w W):=hbad (λq=>ce ((hiok.1 q).2 cl));clear hgood hbad hiok ct cl ce;go_wp2_with fail;refine(HIT _).mono ?_;rintro e w5 ⟨rfl,k5⟩;have i0:w5.cell? ⟨wr.heap.size,0,none⟩=some (.int .i64 vo):=k5.cell (cell_of (alloc_new wr _ _) rfl);have HX3:Hid (Fb5 np d (i:Int)/\Kb 0 w w5):=(uh HBO) _ w5 k5;clear k5 HIT HBO o0 o1 o2 o3 o4 o5 o6 o7 o8 q0 q1 q2 q3 q4;go_wp2_with (go_at_call 87;refine(HEN _).mono ?_;rintro e w6 ⟨rfl,rfl⟩);go_ret;exact⟨_,rfl,HX3.1,HX3.2⟩
    · have hI:¬(i:Int)<(d.n:Int):=by omega
      have HK:Hid (Kb 0 w wr):=k1.trans kw;by_cases hz:d.n=0
      · have HX3 : Hid (Fb5 np d 0) := by
          show Fb (λi=>d.n≠0/\Iok np d i) (if d.n=0 then 1 else d.n) 0;rw[if_pos hz];exact Or.inr ⟨0,rfl,by omega,λq=>q.1 hz,λy hy=>by omega⟩
        have gz:(d.n:Int)-1<0:=by omega
        clear HX hX kw HB k1 hrow c0 c1 c2 c3 c4 c5 c6 c7 c8 hgd hb hnp hu hc hni hg HY;go_wp2_with fail;go_ret;exact⟨_,rfl,HX3,HK⟩
      · have HX3 : Hid (Fb5 np d (-1)) := by
          show Fb (λi=>d.n≠0/\Iok np d i) (if d.n=0 then 1 else d.n) (-1);rw[if_neg hz];exact Or.inl ⟨rfl,λy hy=>⟨hz,hX y (by omega)⟩⟩
        have gz:¬(d.n:Int)-1<0:=by omega
        clear HX hX kw HB k1 hrow c0 c1 c2 c3 c4 c5 c6 c7 c8 hgd hb hnp hu hc hni hg HY;go_wp2_with fail;go_ret;exact⟨_,rfl,HX3,HK⟩
