import Derived.Test.YtohbcpfjjimdnaaGreatDoorMCgd
set_option maxHeartbeats 8000000
namespace Go.Proofs.YtohbcpfjjimdnaaGreatDoor.Fo
open Go.ChangeShapes Go.WideShapes Go.ChangeAt Go.RowKit
set_option linter.unusedVariables false
set_option maxRecDepth 100000
variable {va vb:Value}{n nf fuel:Nat}{F:Nat->Pd}{H:Type}{t e:TypeId}{cs:List Value}{b:Addr}
theorem eq_nams{D:Nat->Mv}(w:World)(ha:RowM 0 w va n D)(hb:RowM 0 w vb n D)(hn:n<=1048576):
  Calls Tryz.prog 95 #[va,vb] w λe w'=>e=.returned (.bool true)/\Kb 0 w w':=by
 obtain⟨pa,ca,rfl,ha2⟩:=ha;obtain⟨pb,cb,rfl,hb2⟩:=hb;have HA:Hid ((0<n->∃a:Addr,pa=some a/\n<=ca/\0<=a.block/\∀i,i<n->NamC 0 w (a.add (i*4)) (D i))/\(0<n->∃a:Addr,pb=some a/\n<=cb/\0<=a.block/\∀i,i<n->NamC 0 w (a.add (i*4)) (D i))):=(⟨ha2,hb2⟩:_/\_)
 have hnI:(n:Int)<=1048576:=by omega
 clear ha2 hb2 hn;go_enter Tryz.func95,Tryz.ntmps95;go_wp2_with fail
 go_loopw [5] (λs5 wr=>∃i:Nat,s5=.int .i64 i/\i<=n/\Hid (Kb 0 w wr)) (λs5 _=>n-(intOf s5).toNat)
 case atStart=>exact⟨0,rfl,Nat.zero_le _,Kb.refl _ _⟩
 case round=>
  obtain⟨i,rfl,hin,HB⟩:=hrel;rcases Nat.lt_or_ge i n with hi|hi
  ·have hA:=(uh HA)
   obtain⟨qa,rfl,hca,-,hra⟩:=hA.1 (by omega);obtain⟨qb,rfl,hcb,-,hrb⟩:=hA.2 (by omega);have hiI:(i:Int)<(n:Int):=by omega
   have ca:=(hra i hi).keep zq HB;have cb:=(hrb i hi).keep zq HB;have heq:∀W',Kb 0 wr W'->Calls Tryz.prog 129 #[namv (D i),namv (D i)] W' λe w'=>e=.returned (.bool true)/\Kb 0 W' w':=λW' _=>eq_nam (D i) W'
   replace heq:∀W',W'.heap=wr.heap->W'.os=wr.os->W'.output=wr.output->Calls Tryz.prog 129 #[namv (D i),namv (D i)] W' λe w'=>e=.returned (.bool true)/\Kb 0 wr w':=λW' h0 h1 h2=>by
    have kk:Kb 0 wr W':=⟨h1,h2,by rw[h0];exact Nat.le_refl _,λk _ _=>by rw[h0]⟩
    refine(heq W' kk).mono ?_;rintro e w' ⟨rfl,k⟩;exact⟨rfl,kk.trans k⟩
   obtain⟨a0,a1,a2,a3⟩:=ca;obtain⟨b0,b1,b2,b3⟩:=cb;clear hra hrb hA HA;generalize D i=u at*;obtain⟨xx,xa,xb,xc⟩:=u;unfold namv at heq;dsimp only at a0 a1 a2 a3 b0 b1 b2 b3 heq
   have HKEEP:Hid (∀(W':World),Kb 0 wr W'->W'.cell? (qa.add (i*4))=some (.string xx)/\W'.cell? ⟨(qa.add (i*4)).block,(qa.add (i*4)).off+1,none⟩=some (.int .i64 xa)/\W'.cell? ⟨(qa.add (i*4)).block,(qa.add (i*4)).off+2,none⟩=some (.int .i64 xb)/\W'.cell? ⟨(qa.add (i*4)).block,(qa.add (i*4)).off+3,none⟩=some (.int .i64 xc)/\W'.cell? (qb.add (i*4))=some (.string xx)/\W'.cell? ⟨(qb.add (i*4)).block,(qb.add (i*4)).off+1,none⟩=some (.int .i64 xa)/\W'.cell? ⟨(qb.add (i*4)).block,(qb.add (i*4)).off+2,none⟩=some (.int .i64 xb)/\W'.cell? ⟨(qb.add (i*4)).block,(qb.add (i*4)).off+3,none⟩=some (.int .i64 xc)):=by
    show ∀(W':World),_;intro W' k;exact⟨k.cell a0,k.cell a1,k.cell a2,k.cell a3,k.cell b0,k.cell b1,k.cell b2,k.cell b3⟩
   have HEQ:Hid (∀W',W'.heap=wr.heap->W'.os=wr.os->W'.output=wr.output->Calls Tryz.prog 129 #[.agg #[.string xx,.int .i64 xa,.int .i64 xb,.int .i64 xc],.agg #[.string xx,.int .i64 xa,.int .i64 xb,.int .i64 xc]] W' λe w'=>e=.returned (.bool true)/\Kb 0 wr w'):=heq;clear hin heq;go_wp2_with fail
   go_region_held_law (λW'=>W'.cell? (qa.add (i*4))=some (.string xx)/\W'.cell? ⟨(qa.add (i*4)).block,(qa.add (i*4)).off+1,none⟩=some (.int .i64 xa)/\W'.cell? ⟨(qa.add (i*4)).block,(qa.add (i*4)).off+2,none⟩=some (.int .i64 xb)/\W'.cell? ⟨(qa.add (i*4)).block,(qa.add (i*4)).off+3,none⟩=some (.int .i64 xc)/\W'.cell? (qb.add (i*4))=some (.string xx)/\W'.cell? ⟨(qb.add (i*4)).block,(qb.add (i*4)).off+1,none⟩=some (.int .i64 xa)/\W'.cell? ⟨(qb.add (i*4)).block,(qb.add (i*4)).off+2,none⟩=some (.int .i64 xb)/\W'.cell? ⟨(qb.add (i*4)).block,(qb.add (i*4)).off+3,none⟩=some (.int .i64 xc)) (first|exact⟨a0,a1,a2,a3,b0,b1,b2,b3⟩|exact(uh HKEEP) _ k5)
    ((go_at_call 129;refine((uh HEQ) _ (by exact rfl) (by exact rfl) (by exact rfl)).mono ?_;rintro e w5 ⟨rfl,k5⟩))
   all_goals
    have HB5:Hid (Kb 0 w w5):=(uh HB).trans k5;clear HB HKEEP HEQ k5 a0 a1 a2 a3 b0 b1 b2 b3;go_wp2_with fail;go_roundw
    case rel=>exact⟨i+1,by go_num,by omega,HB5⟩
    case measure=>simp[intOf];omega
  ·obtain rfl:i=n:=by omega
   clear HA;go_wp2_with fail;go_ret;exact⟨rfl,HB⟩
theorem eq_vals{C:Nat->Vv}(w:World)(ha:RowW 0 w va n C)(hb:RowW 0 w vb n C)(hn:n<=1048576)(hC:∀i,i<n->(C i).g<18446744073709551616):
  Calls Tryz.prog 93 #[va,vb] w λe w'=>e=.returned (.bool true)/\Kb 0 w w':=by
 obtain⟨pa,ca,rfl,ha2⟩:=ha;obtain⟨pb,cb,rfl,hb2⟩:=hb;have HA:Hid ((0<n->∃a:Addr,pa=some a/\n<=ca/\0<=a.block/\∀i,i<n->ValC 0 w (a.add (i*5)) (C i))/\(0<n->∃a:Addr,pb=some a/\n<=cb/\0<=a.block/\∀i,i<n->ValC 0 w (a.add (i*5)) (C i))/\(∀i,i<n->(C i).g<18446744073709551616)):=(⟨ha2,hb2,hC⟩:_/\_)
 have hnI:(n:Int)<=1048576:=by omega
 clear ha2 hb2 hn hC;go_enter Tryz.func93,Tryz.ntmps93;go_wp2_with fail
 go_loopw [5] (λs5 wr=>∃i:Nat,s5=.int .i64 i/\i<=n/\Hid (Kb 0 w wr)) (λs5 _=>n-(intOf s5).toNat)
 case atStart=>exact⟨0,rfl,Nat.zero_le _,Kb.refl _ _⟩
 case round=>
  obtain⟨i,rfl,hin,HB⟩:=hrel;rcases Nat.lt_or_ge i n with hi|hi
  ·have hA:=(uh HA)
   obtain⟨qa,rfl,hca,-,hra⟩:=hA.1 (by omega);obtain⟨qb,rfl,hcb,-,hrb⟩:=hA.2.1 (by omega);have hiI:(i:Int)<(n:Int):=by omega
   have ca:=(hra i hi).keep zq HB;have cb:=(hrb i hi).keep zq HB;have y1:=hA.2.2 i hi;have heq:∀W',Kb 0 wr W'->Calls Tryz.prog 127 #[valv (C i),valv (C i)] W' λe w'=>e=.returned (.bool true)/\Kb 0 W' w':=λW' _=>eq_valu (C i) y1 W'
   replace heq:∀W',W'.heap=wr.heap->W'.os=wr.os->W'.output=wr.output->Calls Tryz.prog 127 #[valv (C i),valv (C i)] W' λe w'=>e=.returned (.bool true)/\Kb 0 wr w':=λW' h0 h1 h2=>by
    have kk:Kb 0 wr W':=⟨h1,h2,by rw[h0];exact Nat.le_refl _,λk _ _=>by rw[h0]⟩
    refine(heq W' kk).mono ?_;rintro e w' ⟨rfl,k⟩;exact⟨rfl,kk.trans k⟩
   obtain⟨a0,a1,a2,a3,a4⟩:=ca;obtain⟨b0,b1,b2,b3,b4⟩:=cb;clear hra hrb hA HA y1;generalize C i=u at*;obtain⟨xk,xm,xg,xx,xr⟩:=u;unfold valv at heq;dsimp only at a0 a1 a2 a3 a4 b0 b1 b2 b3 b4 heq
   have HKEEP:Hid (∀(W':World),Kb 0 wr W'->W'.cell? (qa.add (i*5))=some (.int .i64 xk)/\W'.cell? ⟨(qa.add (i*5)).block,(qa.add (i*5)).off+1,none⟩=some (.int .i64 xm)/\W'.cell? ⟨(qa.add (i*5)).block,(qa.add (i*5)).off+2,none⟩=some (.float .f64 xg)/\W'.cell? ⟨(qa.add (i*5)).block,(qa.add (i*5)).off+3,none⟩=some (.string xx)/\W'.cell? ⟨(qa.add (i*5)).block,(qa.add (i*5)).off+4,none⟩=some (.int .i64 xr)/\W'.cell? (qb.add (i*5))=some (.int .i64 xk)/\W'.cell? ⟨(qb.add (i*5)).block,(qb.add (i*5)).off+1,none⟩=some (.int .i64 xm)/\W'.cell? ⟨(qb.add (i*5)).block,(qb.add (i*5)).off+2,none⟩=some (.float .f64 xg)/\W'.cell? ⟨(qb.add (i*5)).block,(qb.add (i*5)).off+3,none⟩=some (.string xx)/\W'.cell? ⟨(qb.add (i*5)).block,(qb.add (i*5)).off+4,none⟩=some (.int .i64 xr)):=by
    show ∀(W':World),_;intro W' k;exact⟨k.cell a0,k.cell a1,k.cell a2,k.cell a3,k.cell a4,k.cell b0,k.cell b1,k.cell b2,k.cell b3,k.cell b4⟩
   have HEQ:Hid (∀W',W'.heap=wr.heap->W'.os=wr.os->W'.output=wr.output->Calls Tryz.prog 127 #[.agg #[.int .i64 xk,.int .i64 xm,.float .f64 xg,.string xx,.int .i64 xr],.agg #[.int .i64 xk,.int .i64 xm,.float .f64 xg,.string xx,.int .i64 xr]] W' λe w'=>e=.returned (.bool true)/\Kb 0 wr w'):=heq;clear hin heq;go_wp2_with fail
   go_region_held_law (λW'=>W'.cell? (qa.add (i*5))=some (.int .i64 xk)/\W'.cell? ⟨(qa.add (i*5)).block,(qa.add (i*5)).off+1,none⟩=some (.int .i64 xm)/\W'.cell? ⟨(qa.add (i*5)).block,(qa.add (i*5)).off+2,none⟩=some (.float .f64 xg)/\W'.cell? ⟨(qa.add (i*5)).block,(qa.add (i*5)).off+3,none⟩=some (.string xx)/\W'.cell? ⟨(qa.add (i*5)).block,(qa.add (i*5)).off+4,none⟩=some (.int .i64 xr)/\W'.cell? (qb.add (i*5))=some (.int .i64 xk)/\W'.cell? ⟨(qb.add (i*5)).block,(qb.add (i*5)).off+1,none⟩=some (.int .i64 xm)/\W'.cell? ⟨(qb.add (i*5)).block,(qb.add (i*5)).off+2,none⟩=some (.float .f64 xg)/\W'.cell? ⟨(qb.add (i*5)).block,(qb.add (i*5)).off+3,none⟩=some (.string xx)/\W'.cell? ⟨(qb.add (i*5)).block,(qb.add (i*5)).off+4,none⟩=some (.int .i64 xr)) (first|exact⟨a0,a1,a2,a3,a4,b0,b1,b2,b3,b4⟩|exact(uh HKEEP) _ k5)
    ((go_at_call 127;refine((uh HEQ) _ (by exact rfl) (by exact rfl) (by exact rfl)).mono ?_;rintro e w5 ⟨rfl,k5⟩))
   all_goals
    have HB5:Hid (Kb 0 w w5):=(uh HB).trans k5;clear HB HKEEP HEQ k5 a0 a1 a2 a3 a4 b0 b1 b2 b3 b4;go_wp2_with fail;go_roundw
    case rel=>exact⟨i+1,by go_num,by omega,HB5⟩
    case measure=>simp[intOf];omega
  ·obtain rfl:i=n:=by omega
   clear HA;go_wp2_with fail;go_ret;exact⟨rfl,HB⟩
theorem eq_pros(w:World)(ha:RowP 0 w va n F)(hb:RowP 0 w vb n F)(hn:n<=1048576)(hF:∀i,i<n->(F i).u<=1048576/\(F i).c<=1048576/\(F i).n<=1048576/\(F i).d<=1048576/\∀j,j<(F i).c->((F i).C j).g<18446744073709551616):
  Calls Tryz.prog 23 #[va,vb] w λe w'=>e=.returned (.bool true)/\Kb 0 w w':=by
 obtain⟨pa,ca,rfl,ha2⟩:=ha;obtain⟨pb,cb,rfl,hb2⟩:=hb;have HA:Hid ((0<n->∃a:Addr,pa=some a/\n<=ca/\0<=a.block/\∀i,i<n->ProC 0 w (a.add (i*9)) (F i))/\(0<n->∃a:Addr,pb=some a/\n<=cb/\0<=a.block/\∀i,i<n->ProC 0 w (a.add (i*9)) (F i))/\(∀i,i<n->(F i).u<=1048576/\(F i).c<=1048576/\(F i).n<=1048576/\(F i).d<=1048576/\∀j,j<(F i).c->((F i).C j).g<18446744073709551616)):=(⟨ha2,hb2,hF⟩:_/\_)
 have hnI:(n:Int)<=1048576:=by omega
 clear ha2 hb2 hn hF;go_enter Tryz.func23,Tryz.ntmps23;go_wp2_with fail
 go_loopw [5] (λs5 wr=>∃i:Nat,s5=.int .i64 i/\i<=n/\Hid (Kb 0 w wr)) (λs5 _=>n-(intOf s5).toNat)
 case atStart=>exact⟨0,rfl,Nat.zero_le _,Kb.refl _ _⟩
 case round=>
  obtain⟨i,rfl,hin,HB⟩:=hrel;rcases Nat.lt_or_ge i n with hi|hi
  ·have hA:=(uh HA)
   obtain⟨qa,rfl,hca,-,hra⟩:=hA.1 (by omega);obtain⟨qb,rfl,hcb,-,hrb⟩:=hA.2.1 (by omega);have hiI:(i:Int)<(n:Int):=by omega
   obtain⟨vu,vc,vn,vd,ca,h1,h2,h3,h4⟩:=(hra i hi).keep zq HB;obtain⟨uu,uc,un,ud,cb,h5,h6,h7,h8⟩:=(hrb i hi).keep zq HB;obtain⟨y1,y2,y3,y4,y5⟩:=hA.2.2 i hi;have heq:∀W',Kb 0 wr W'->Calls Tryz.prog 49 #[prov (F i) vu vc vn vd,prov (F i) uu uc un ud] W' λe w'=>e=.returned (.bool true)/\Kb 0 W' w':=λW' k=>eq_pro W' (λW k2=>eq_ups W (h1.keep (k.trans k2)) (h5.keep (k.trans k2)) y1) (λW k2=>eq_vals W (h2.keep (k.trans k2)) (h6.keep (k.trans k2)) y2 y5) (λW k2=>eq_inss W (h3.keep (k.trans k2)) (h7.keep (k.trans k2)) y3) (λW k2=>eq_nams W (h4.keep (k.trans k2)) (h8.keep (k.trans k2)) y4)
   replace heq:∀W',W'.heap=wr.heap->W'.os=wr.os->W'.output=wr.output->Calls Tryz.prog 49 #[prov (F i) vu vc vn vd,prov (F i) uu uc un ud] W' λe w'=>e=.returned (.bool true)/\Kb 0 wr w':=λW' h0 h1 h2=>by
    have kk:Kb 0 wr W':=⟨h1,h2,by rw[h0];exact Nat.le_refl _,λk _ _=>by rw[h0]⟩
    refine(heq W' kk).mono ?_;rintro e w' ⟨rfl,k⟩;exact⟨rfl,kk.trans k⟩
   obtain⟨a0,a1,a2,a3,a4,a5,a6,a7,a8⟩:=ca;obtain⟨b0,b1,b2,b3,b4,b5,b6,b7,b8⟩:=cb;clear hra hrb hA HA h1 h2 h3 h4 h5 h6 h7 h8 y1 y2 y3 y4 y5;generalize F i=G at*;obtain⟨xx,xl,xm,xr,xg,gu,gU,gc,gC,gn,gN,gd,gD⟩:=G;unfold prov at heq;dsimp only at a0 a1 a2 a3 a4 b0 b1 b2 b3 b4 heq
   have HKEEP:Hid (∀(W':World),Kb 0 wr W'->W'.cell? (qa.add (i*9))=some (.string xx)/\W'.cell? ⟨(qa.add (i*9)).block,(qa.add (i*9)).off+1,none⟩=some (.int .i64 xl)/\W'.cell? ⟨(qa.add (i*9)).block,(qa.add (i*9)).off+2,none⟩=some (.int .i64 xm)/\W'.cell? ⟨(qa.add (i*9)).block,(qa.add (i*9)).off+3,none⟩=some (.bool xr)/\W'.cell? ⟨(qa.add (i*9)).block,(qa.add (i*9)).off+4,none⟩=some (.int .i64 xg)/\W'.cell? ⟨(qa.add (i*9)).block,(qa.add (i*9)).off+5,none⟩=some (vu)/\W'.cell? ⟨(qa.add (i*9)).block,(qa.add (i*9)).off+6,none⟩=some (vc)/\W'.cell? ⟨(qa.add (i*9)).block,(qa.add (i*9)).off+7,none⟩=some (vn)/\W'.cell? ⟨(qa.add (i*9)).block,(qa.add (i*9)).off+8,none⟩=some (vd)/\W'.cell? (qb.add (i*9))=some (.string xx)/\W'.cell? ⟨(qb.add (i*9)).block,(qb.add (i*9)).off+1,none⟩=some (.int .i64 xl)/\W'.cell? ⟨(qb.add (i*9)).block,(qb.add (i*9)).off+2,none⟩=some (.int .i64 xm)/\W'.cell? ⟨(qb.add (i*9)).block,(qb.add (i*9)).off+3,none⟩=some (.bool xr)/\W'.cell? ⟨(qb.add (i*9)).block,(qb.add (i*9)).off+4,none⟩=some (.int .i64 xg)/\W'.cell? ⟨(qb.add (i*9)).block,(qb.add (i*9)).off+5,none⟩=some (uu)/\W'.cell? ⟨(qb.add (i*9)).block,(qb.add (i*9)).off+6,none⟩=some (uc)/\W'.cell? ⟨(qb.add (i*9)).block,(qb.add (i*9)).off+7,none⟩=some (un)/\W'.cell? ⟨(qb.add (i*9)).block,(qb.add (i*9)).off+8,none⟩=some (ud)):=by
    show ∀(W':World),_;intro W' k;exact⟨k.cell a0,k.cell a1,k.cell a2,k.cell a3,k.cell a4,k.cell a5,k.cell a6,k.cell a7,k.cell a8,k.cell b0,k.cell b1,k.cell b2,k.cell b3,k.cell b4,k.cell b5,k.cell b6,k.cell b7,k.cell b8⟩
   have HEQ:Hid (∀W',W'.heap=wr.heap->W'.os=wr.os->W'.output=wr.output->Calls Tryz.prog 49 #[.agg #[.string xx,.int .i64 xl,.int .i64 xm,.bool xr,.int .i64 xg,vu,vc,vn,vd],.agg #[.string xx,.int .i64 xl,.int .i64 xm,.bool xr,.int .i64 xg,uu,uc,un,ud]] W' λe w'=>e=.returned (.bool true)/\Kb 0 wr w'):=heq;clear hin heq;go_wp2_with fail
   go_region_held_law (λW'=>W'.cell? (qa.add (i*9))=some (.string xx)/\W'.cell? ⟨(qa.add (i*9)).block,(qa.add (i*9)).off+1,none⟩=some (.int .i64 xl)/\W'.cell? ⟨(qa.add (i*9)).block,(qa.add (i*9)).off+2,none⟩=some (.int .i64 xm)/\W'.cell? ⟨(qa.add (i*9)).block,(qa.add (i*9)).off+3,none⟩=some (.bool xr)/\W'.cell? ⟨(qa.add (i*9)).block,(qa.add (i*9)).off+4,none⟩=some (.int .i64 xg)/\W'.cell? ⟨(qa.add (i*9)).block,(qa.add (i*9)).off+5,none⟩=some (vu)/\W'.cell? ⟨(qa.add (i*9)).block,(qa.add (i*9)).off+6,none⟩=some (vc)/\W'.cell? ⟨(qa.add (i*9)).block,(qa.add (i*9)).off+7,none⟩=some (vn)/\W'.cell? ⟨(qa.add (i*9)).block,(qa.add (i*9)).off+8,none⟩=some (vd)/\W'.cell? (qb.add (i*9))=some (.string xx)/\W'.cell? ⟨(qb.add (i*9)).block,(qb.add (i*9)).off+1,none⟩=some (.int .i64 xl)/\W'.cell? ⟨(qb.add (i*9)).block,(qb.add (i*9)).off+2,none⟩=some (.int .i64 xm)/\W'.cell? ⟨(qb.add (i*9)).block,(qb.add (i*9)).off+3,none⟩=some (.bool xr)/\W'.cell? ⟨(qb.add (i*9)).block,(qb.add (i*9)).off+4,none⟩=some (.int .i64 xg)/\W'.cell? ⟨(qb.add (i*9)).block,(qb.add (i*9)).off+5,none⟩=some (uu)/\W'.cell? ⟨(qb.add (i*9)).block,(qb.add (i*9)).off+6,none⟩=some (uc)/\W'.cell? ⟨(qb.add (i*9)).block,(qb.add (i*9)).off+7,none⟩=some (un)/\W'.cell? ⟨(qb.add (i*9)).block,(qb.add (i*9)).off+8,none⟩=some (ud)) (first|exact⟨a0,a1,a2,a3,a4,a5,a6,a7,a8,b0,b1,b2,b3,b4,b5,b6,b7,b8⟩|exact(uh HKEEP) _ k5)
    ((go_at_call 49;refine((uh HEQ) _ (by exact rfl) (by exact rfl) (by exact rfl)).mono ?_;rintro e w5 ⟨rfl,k5⟩))
   all_goals
    have HB5:Hid (Kb 0 w w5):=(uh HB).trans k5;clear HB HKEEP HEQ k5 a0 a1 a2 a3 a4 a5 a6 a7 a8 b0 b1 b2 b3 b4 b5 b6 b7 b8;go_wp2_with fail;go_roundw
    case rel=>exact⟨i+1,by go_num,by omega,HB5⟩
    case measure=>simp[intOf];omega
  ·obtain rfl:i=n:=by omega
   clear HA;go_wp2_with fail;go_ret;exact⟨rfl,HB⟩
theorem choose_fn{α:Type}[inst:Inhabited α]{p:Nat->α->Prop}(h:∀i,i<n->∃a,p i a):∃f:Nat->α,∀i,i<n->p i (f i):=by
 classical
 refine⟨λi=>if hi:i<n then Classical.choose (h i hi)else default,λi hi=>?_⟩;simp only[dif_pos hi];exact Classical.choose_spec (h i hi)
def BP(F:Nat->Pd)(nf:Nat):Prop:=∀i,i<nf->((F i).x.size:Int)<140737488355328/\((F i).u:Int)<140737488355328/\(((F i).c:Int)<140737488355328/\∀j,j<(F i).c->(((F i).C j).x.size:Int)<140737488355328)/\((F i).n:Int)<140737488355328/\(((F i).d:Int)<140737488355328/\∀j,j<(F i).d->(((F i).D j).x.size:Int)<140737488355328)
def szP(F:Nat->Pd)(i:Nat):Nat:=(F i).x.size+(F i).u+((F i).c+sm (λj=>((F i).C j).x.size) (F i).c)+(F i).n+((F i).d+sm (λj=>((F i).D j).x.size) (F i).d)
theorem szd_pros(w:World)(l:Int)(ha:RowP 0 w va nf F)(hn:(nf:Int)<140737488355328)(hF:BP F nf)(hl0:0<=l)(hl:l<=1048576):
  Calls Tryz.prog 13 #[va,.int .i64 l] w (Szd (nf+sm (szP F) nf) l w):=by
 obtain⟨pa,ca,rfl,ha2⟩:=ha
 obtain⟨V,hV⟩:∃V:Nat->Value×Value×Value×Value,∀i,i<nf->(∃a:Addr,pa=some a/\nf<=ca/\CelP w (a.add (i*9)) (F i) (V i).1 (V i).2.1 (V i).2.2.1 (V i).2.2.2)/\RowU 0 w (V i).1 (F i).u (F i).U/\RowW 0 w (V i).2.1 (F i).c (F i).C/\RowI 0 w (V i).2.2.1 (F i).n (F i).N/\RowM 0 w (V i).2.2.2 (F i).d (F i).D:=by
  refine choose_fn (α:=Value×Value×Value×Value) (inst:=⟨(.pointer none,.pointer none,.pointer none,.pointer none)⟩) (n:=nf) (p:=λi V=>(∃a:Addr,pa=some a/\nf<=ca/\CelP w (a.add (i*9)) (F i) V.1 V.2.1 V.2.2.1 V.2.2.2)/\RowU 0 w V.1 (F i).u (F i).U/\RowW 0 w V.2.1 (F i).c (F i).C/\RowI 0 w V.2.2.1 (F i).n (F i).N/\RowM 0 w V.2.2.2 (F i).d (F i).D) (λi hi=>?_);obtain⟨a,e1,e2,-,e3⟩:=ha2 (by omega);obtain⟨vu,vc,vn,vd,c,r,k,m,o⟩:=e3 i hi;exact⟨(vu,vc,vn,vd),⟨a,e1,e2,c⟩,r,k,m,o⟩
 refine szr_pros (F:=F) (vu:=λi=>(V i).1) (vc:=λi=>(V i).2.1) (vn:=λi=>(V i).2.2.1) (vd:=λi=>(V i).2.2.2) (s:=szP F) w l hn ?_ ?_ hl0 hl
 ·intro h0;obtain⟨a,e1,e2,-,e3⟩:=ha2 h0;refine⟨a,e1,e2,λi hi=>?_⟩;obtain⟨⟨a',f1,f2,f3⟩,-⟩:=hV i hi;have:a'=a:=by rw[e1]at f1;exact(Option.some.inj f1).symm
  rw[<-this];exact f3
 ·intro i hi W l k l0 l1;obtain⟨-,r,kk,mm,oo⟩:=hV i hi;obtain⟨y1,y2,y3,y4,y5⟩:=hF i hi;exact sz_pro W l y1 (λW' l' k' a b=>szd_ups W' l' ((r.keep k).keep k') y2 a b) (λW' l' k' a b=>szd_vals W' l' ((kk.keep k).keep k') y3.1 y3.2 a b) (λW' l' k' a b=>szd_inss W' l' ((mm.keep k).keep k') y4 a b) (λW' l' k' a b=>szd_nams W' l' ((oo.keep k).keep k') y5.1 y5.2 a b) l0 l1
theorem sz_code(w:World)(ha:RowP 0 w va nf F)(hn:(nf:Int)<140737488355328)(hF:BP F nf):
  Calls Tryz.prog 4 #[.agg #[va],.int .i64 1048576] w (Szd (nf+sm (szP F) nf) 1048576 w):=by
 have hs:Hid (∀o,Calls Tryz.prog 13 #[va,.int .i64 1048576] (w.alloc o) (Szd (nf+sm (szP F) nf) 1048576 (w.alloc o))):=(λo=>szd_pros (w.alloc o) 1048576 (ha.keep (kb_alloc _ _ _)) hn hF (by omega) (by omega):∀o,_)
 obtain⟨pa,ca,rfl,_⟩:=ha;generalize nf+sm (szP F) nf=S at*;clear hn hF;go_enter Tryz.func4,Tryz.ntmps4;go_wp2_with fail;refine(hs _).mono ?_;rintro e w1 ⟨r,rfl,h1,h2,h3,hb⟩;have HB:Hid ((0<=r->r+(S:Int)<=1048576)/\Kb 0 w w1):=(⟨h1,(kb_alloc _ _ _).trans hb⟩:_/\_)
 clear hs h1 hb;rcases Int.lt_or_le r 0 with h|h
 ·go_wp2_with fail;go_ret;exact⟨-1,rfl,λf=>by omega,by omega,by omega,HB.2⟩
 ·have h':¬r<0:=by omega
  go_wp2_with fail;go_ret;exact⟨r,rfl,HB.1,h2,h3,HB.2⟩
theorem eq_code0(w:World)
  (g0:∀W',Kb 0 w W'->Calls Tryz.prog 23 #[va,vb] W' λe w'=>e=.returned (.bool true)/\Kb 0 W' w'):
  Calls Tryz.prog 9 #[.agg #[va],.agg #[vb]] w λe w'=>e=.returned (.bool true)/\Kb 0 w w':=by
 have G0:Hid (∀W',Kb 0 w W'->Calls Tryz.prog 23 #[va,vb] W' λe w'=>e=.returned (.bool true)/\Kb 0 W' w'):=g0;clear g0
 obtain⟨w2,hw2⟩:∃w2,w2=(w.alloc (.cells #[va] 30)).alloc (.cells #[vb] 30):=⟨_,rfl⟩
 have k2:Kb 0 w w2:=by rw[hw2];exact kb_alloc2 _ _ _ _
 have b0:w2.heap[w.heap.size]? =some (.cells #[va] 30 (0,0)):=by
  rw[hw2,(kb_alloc 0 _ _).block _ zq (by rw[World.size_alloc];omega)];exact alloc_new _ _ _
 have b1:w2.heap[w.heap.size+1]? =some (.cells #[vb] 30 (0,0)):=by
  have e:(w.alloc (.cells #[va] 30)).heap.size=w.heap.size+1:=World.size_alloc _ _;rw[hw2,<-e];exact alloc_new _ _ _
 have HK:Hid (Kb 0 w w2/\w2.heap[w.heap.size]? =some (.cells #[va] 30 (0,0))/\w2.heap[w.heap.size+1]? =some (.cells #[vb] 30 (0,0))/\w.heap.size+1<w2.heap.size):=(⟨k2,b0,b1,by rw[hw2];simp⟩:_/\_)
 have HW:Hid (w2=(w.alloc (.cells #[va] 30)).alloc (.cells #[vb] 30)):=hw2;clear hw2 k2 b0 b1;go_enter Tryz.func9,Tryz.ntmps9;go_wp2_with fail;rw[<-(uh HW)];clear HW;refine((show ∀W',Kb 0 w W'->Calls Tryz.prog 23 #[va,vb] W' λe w'=>e=.returned (.bool true)/\Kb 0 W' w' from G0) w2 HK.1).mono ?_;rintro e x0 ⟨rfl,k0⟩
 have HL:Hid (Kb 0 w x0/\x0.heap[w.heap.size]? =some (.cells #[va] 30 (0,0))/\x0.heap[w.heap.size+1]? =some (.cells #[vb] 30 (0,0))/\w.heap.size+1<x0.heap.size):=by
  obtain⟨q1,q2,q3,q4⟩:=(uh HK)
  have q5:=k0.size;exact⟨q1.trans k0,(k0.block _ zq (by omega)).trans q2,(k0.block _ zq (by omega)).trans q3,by omega⟩
 clear HK;have HK:=HL;clear HL k0 G0;go_wp2_with fail;go_ret;exact⟨rfl,HK.1⟩
theorem cells3:Tryz.prog.cellsOf 3=1:=by kernel_rfl
theorem cells2:Tryz.prog.cellsOf 2=1:=by kernel_rfl
theorem cells9:Tryz.prog.cellsOf 9=1:=by kernel_rfl
def strOf:Value->ByteArray
 |.string s=>s
 |_=>⟨#[]⟩
def numOf:Value->Int
 |.int _ z=>z
 |_=>0
def Sz(t:TypeId)(d:DataW H):Prop:=∀n ∈ d.weights Tryz.prog t,n<=140737488351232
theorem weightsAll_mem {H:Type} {e:TypeId}:∀{l:List (DataW H)} {d:DataW H} {n:Nat},d ∈ l->n ∈ d.weights Tryz.prog e->n ∈ DataW.weightsAll Tryz.prog e l
 | [],_,_,h,_=>by cases h
 |x::r,d,n,h,hn=>by
  simp only[DataW.weightsAll,List.mem_append];rcases List.mem_cons.1 h with rfl|h
  ·exact Or.inl hn
  ·exact Or.inr (weightsAll_mem h hn)
theorem Sz.head{el sp:List (DataW H)}(h:Sz t (.slice el sp))(ht:Tryz.prog.underlying t=some (.slice e)):(el.length+sp.length)*Tryz.prog.bytesOf e<=140737488351232:=h _ (by simp[DataW.weights,ht])
theorem Sz.elem{el sp:List (DataW H)}(h:Sz t (.slice el sp))(ht:Tryz.prog.underlying t=some (.slice e)){d:DataW H}(hd:d ∈ el):Sz e d:=λn hn=>h n (by
 simp only[DataW.weights,ht,List.mem_cons,List.mem_append]
 exact Or.inr (Or.inl (weightsAll_mem hd hn)))
section
variable {H:Type} {enc:TypeId × Value->H} {w:World} {base:Nat} {sp:Nat->Bool} {held:Bool}
theorem trod_flt{x:DataW H×List MemPlace}(ht:Tryz.prog.underlying t=some (.float .f64))(h:DataW.trod enc Tryz.prog w base sp held fuel t cs=some x):∃n,cs=[.float .f64 n]/\n<18446744073709551616:=by
 cases fuel with
 |zero=>simp[DataW.trod]at h
 |succ n=>
  unfold DataW.trod at h;rw[ht]at h;split at h<;>simp_all
  rename_i k b e
  subst e;obtain⟨⟨h1,h2⟩,_⟩:=h
  simpa [Lit.wf]using h2
theorem cellsF:Tryz.prog.cellsOf 149=1:=by kernel_rfl
theorem cellsB:Tryz.prog.cellsOf 4=1:=by kernel_rfl
theorem cellsLU:Tryz.prog.cellsOf 162=2:=by kernel_rfl
theorem bytesLU:Tryz.prog.bytesOf 162=16:=by kernel_rfl
theorem cellsLUs:Tryz.prog.cellsOf 69=1:=by kernel_rfl
theorem cellsLI:Tryz.prog.cellsOf 165=5:=by kernel_rfl
theorem bytesLI:Tryz.prog.bytesOf 165=40:=by kernel_rfl
theorem cellsLIs:Tryz.prog.cellsOf 71=1:=by kernel_rfl
theorem cellsLM:Tryz.prog.cellsOf 157=4:=by kernel_rfl
theorem bytesLM:Tryz.prog.bytesOf 157=40:=by kernel_rfl
theorem cellsLMs:Tryz.prog.cellsOf 72=1:=by kernel_rfl
theorem cellsLV:Tryz.prog.cellsOf 155=5:=by kernel_rfl
theorem bytesLV:Tryz.prog.bytesOf 155=48:=by kernel_rfl
theorem cellsLVs:Tryz.prog.cellsOf 70=1:=by kernel_rfl
theorem cellsLP:Tryz.prog.cellsOf 74=9:=by kernel_rfl
theorem bytesLP:Tryz.prog.bytesOf 74=144:=by kernel_rfl
theorem trod_bl{x:DataW H×List MemPlace}(ht:Tryz.prog.underlying t=some .bool)(h:DataW.trod enc Tryz.prog w base sp held fuel t cs=some x):∃b,cs=[.bool b]:=by
 cases fuel with
 |zero=>simp[DataW.trod]at h
 |succ n=>
  unfold DataW.trod at h;rw[ht]at h;split at h<;>simp_all
theorem read_up{x:DataW H×List MemPlace}(h:DataW.trod enc Tryz.prog w base sp held fuel 162 cs=some x)(hc:w.cells? base b 2=some cs):
  ∃g:Bool×Int,UpC 0 w b g:=by
 obtain⟨_,hlen,hcell⟩:=World.cells?_some hc;obtain⟨xs,n,_,rfl,hl,hxl,hf⟩:=DataW.trod_struct Tryz.underlying162 h
 match cs,hlen with
 | [c0,c1],_=>
  match xs,hxl with
  | [y0,y1],_=>
   have t0:=hf 0 _ rfl;have t1:=hf 1 _ rfl;simp[cells3,cellsB]at t0 t1;obtain⟨z0,e0⟩:=trod_bl Tryz.underlying4 t0;obtain⟨z1,e1,_⟩:=DataW.trod_int Tryz.underlying3 t1;simp only[List.cons.injEq,and_true]at e0 e1;subst e0 e1;refine⟨(z0,z1),⟨?_,?_⟩⟩
   ·have:=hcell 0 (by omega);simpa [Addr.add]using this
   ·have:=hcell 1 (by omega);simpa [Addr.add]using this
theorem read_ups{x:DataW H×List MemPlace}(h:DataW.trod enc Tryz.prog w base sp held fuel 69 cs=some x)(hz:Sz 69 x.1):
  ∃(v:Value) (n:Nat) (U:Nat->Bool×Int),cs=[v]/\RowU 0 w v n U/\(n:Int)<140737488355328:=by
 rcases Deep.open_slice Tryz.underlying69 h with⟨rfl,rfl⟩|⟨a,len,cap,m,n,D,Pl,rfl,hb,hl,hm,hmm,rfl,hx⟩
 ·exact⟨_,0,λ_=>(false,0),rfl,⟨none,0,rfl,λf=>by omega⟩,by omega⟩
 ·have hle:len<=m:=by rw[hmm];split<;>omega
  have hh:=hz.head Tryz.underlying69;rw[bytesLU]at hh;simp only[List.length_map,List.length_range]at hh;rw[cellsLU]at hx
  obtain⟨F,hF⟩:=choose_fn (α:=Bool×Int) (inst:=⟨(false,0)⟩) (n:=len) (p:=λi g=>UpC 0 w (a.add (i*2)) g) (λi hi=>by
   obtain⟨cs',h1,h2⟩:=hx i (by omega)
   exact read_up h2 h1)
  exact⟨_,len,F,rfl,⟨some a,cap,rfl,λ_=>⟨a,rfl,hl,Nat.zero_le _,λi hi=>hF i hi⟩⟩,by omega⟩
theorem read_ins{x:DataW H×List MemPlace}(h:DataW.trod enc Tryz.prog w base sp held fuel 165 cs=some x)(hc:w.cells? base b 5=some cs):
  ∃g:Iv,InsC 0 w b g:=by
 obtain⟨_,hlen,hcell⟩:=World.cells?_some hc;obtain⟨xs,n,_,rfl,hl,hxl,hf⟩:=DataW.trod_struct Tryz.underlying165 h
 match cs,hlen with
 | [c0,c1,c2,c3,c4],_=>
  match xs,hxl with
  | [y0,y1,y2,y3,y4],_=>
   have t0:=hf 0 _ rfl;have t1:=hf 1 _ rfl;have t2:=hf 2 _ rfl;have t3:=hf 3 _ rfl;have t4:=hf 4 _ rfl;simp[cells3]at t0 t1 t2 t3 t4;obtain⟨z0,e0,_⟩:=DataW.trod_int Tryz.underlying3 t0;obtain⟨z1,e1,_⟩:=DataW.trod_int Tryz.underlying3 t1;obtain⟨z2,e2,_⟩:=DataW.trod_int Tryz.underlying3 t2;obtain⟨z3,e3,_⟩:=DataW.trod_int Tryz.underlying3 t3;obtain⟨z4,e4,_⟩:=DataW.trod_int Tryz.underlying3 t4;simp only[List.cons.injEq,and_true]at e0 e1 e2 e3 e4;subst e0 e1 e2 e3 e4;refine⟨⟨z0,z1,z2,z3,z4⟩,⟨?_,?_,?_,?_,?_⟩⟩
   ·have:=hcell 0 (by omega);simpa [Addr.add]using this
   ·have:=hcell 1 (by omega);simpa [Addr.add]using this
   ·have:=hcell 2 (by omega);simpa [Addr.add]using this
   ·have:=hcell 3 (by omega);simpa [Addr.add]using this
   ·have:=hcell 4 (by omega);simpa [Addr.add]using this
theorem read_inss{x:DataW H×List MemPlace}(h:DataW.trod enc Tryz.prog w base sp held fuel 71 cs=some x)(hz:Sz 71 x.1):
  ∃(v:Value) (n:Nat) (A:Nat->Iv),cs=[v]/\RowI 0 w v n A/\(n:Int)<140737488355328:=by
 rcases Deep.open_slice Tryz.underlying71 h with⟨rfl,rfl⟩|⟨a,len,cap,m,n,D,Pl,rfl,hb,hl,hm,hmm,rfl,hx⟩
 ·exact⟨_,0,λ_=>default,rfl,⟨none,0,rfl,λf=>by omega⟩,by omega⟩
 ·have hle:len<=m:=by rw[hmm];split<;>omega
  have hh:=hz.head Tryz.underlying71;rw[bytesLI]at hh;simp only[List.length_map,List.length_range]at hh;rw[cellsLI]at hx
  obtain⟨F,hF⟩:=Deep.choose_lt (α:=Iv) (n:=len) (p:=λi g=>InsC 0 w (a.add (i*5)) g) (λi hi=>by
   obtain⟨cs',h1,h2⟩:=hx i (by omega)
   exact read_ins h2 h1)
  exact⟨_,len,F,rfl,⟨some a,cap,rfl,λ_=>⟨a,rfl,hl,Nat.zero_le _,λi hi=>hF i hi⟩⟩,by omega⟩
theorem read_nam{x:DataW H×List MemPlace}(h:DataW.trod enc Tryz.prog w base sp held fuel 157 cs=some x)(hc:w.cells? base b 4=some cs)(hz:Sz 157 x.1):
  ∃g:Mv,NamC 0 w b g/\(g.x.size:Int)<140737488355328:=by
 obtain⟨_,hlen,hcell⟩:=World.cells?_some hc;obtain⟨xs,n,_,rfl,hl,hxl,hf⟩:=DataW.trod_struct Tryz.underlying157 h
 match cs,hlen with
 | [c0,c1,c2,c3],_=>
  match xs,hxl with
  | [y0,y1,y2,y3],_=>
   have t0:=hf 0 _ rfl;have t1:=hf 1 _ rfl;have t2:=hf 2 _ rfl;have t3:=hf 3 _ rfl;simp[cells9,cells3]at t0 t1 t2 t3
   have hzz:∀n ∈ y0.1.weights Tryz.prog 9,n<=140737488351232:=by
    intro n hn;refine hz n ?_;simp[DataW.weights,Tryz.underlying157,DataW.weightsEach]
    first|exact hn|exact Or.inl hn|simp[hn]
   obtain⟨z0,e0,e0',_⟩:=DataW.trod_string Tryz.underlying9 t0;obtain⟨z1,e1,_⟩:=DataW.trod_int Tryz.underlying3 t1;obtain⟨z2,e2,_⟩:=DataW.trod_int Tryz.underlying3 t2;obtain⟨z3,e3,_⟩:=DataW.trod_int Tryz.underlying3 t3;simp only[List.cons.injEq,and_true]at e0 e1 e2 e3;subst e0 e1 e2 e3;refine⟨⟨z0,z1,z2,z3⟩,⟨?_,?_,?_,?_⟩,?_⟩
   ·have:=hcell 0 (by omega);simpa [Addr.add]using this
   ·have:=hcell 1 (by omega);simpa [Addr.add]using this
   ·have:=hcell 2 (by omega);simpa [Addr.add]using this
   ·have:=hcell 3 (by omega);simpa [Addr.add]using this
   ·have:=hzz z0.data.toList.length (by rw[e0'];simp[DataW.weights]);show((z0.size:Nat):Int)<_;have e:z0.size=z0.data.toList.length:=by simp
    omega
theorem read_nams{x:DataW H×List MemPlace}(h:DataW.trod enc Tryz.prog w base sp held fuel 72 cs=some x)(hz:Sz 72 x.1):
  ∃(v:Value) (n:Nat) (A:Nat->Mv),cs=[v]/\RowM 0 w v n A/\(n:Int)<140737488355328/\∀i,i<n->((A i).x.size:Int)<140737488355328:=by
 rcases Deep.open_slice Tryz.underlying72 h with⟨rfl,rfl⟩|⟨a,len,cap,m,n,D,Pl,rfl,hb,hl,hm,hmm,rfl,hx⟩
 ·exact⟨_,0,λ_=>default,rfl,⟨none,0,rfl,λf=>by omega⟩,by omega,λi hi=>by omega⟩
 ·have hle:len<=m:=by rw[hmm];split<;>omega
  have hh:=hz.head Tryz.underlying72;rw[bytesLM]at hh;simp only[List.length_map,List.length_range]at hh;rw[cellsLM]at hx
  obtain⟨F,hF⟩:=Deep.choose_lt (α:=Mv) (n:=len) (p:=λi g=>NamC 0 w (a.add (i*4)) g/\(g.x.size:Int)<140737488355328) (λi hi=>by
   obtain⟨cs',h1,h2⟩:=hx i (by omega)
   exact read_nam h2 h1 (hz.elem Tryz.underlying72 (List.mem_map.2 ⟨i,List.mem_range.2 hi,rfl⟩)))
  exact⟨_,len,F,rfl,⟨some a,cap,rfl,λ_=>⟨a,rfl,hl,Nat.zero_le _,λi hi=>(hF i hi).1⟩⟩,by omega,λi hi=>(hF i hi).2⟩
theorem read_valu{x:DataW H×List MemPlace}(h:DataW.trod enc Tryz.prog w base sp held fuel 155 cs=some x)(hc:w.cells? base b 5=some cs)(hz:Sz 155 x.1):
  ∃g:Vv,ValC 0 w b g/\((g.x.size:Int)<140737488355328/\g.g<18446744073709551616/\-9223372036854775808<=g.m/\g.m<=9223372036854775807):=by
 obtain⟨_,hlen,hcell⟩:=World.cells?_some hc;obtain⟨xs,n,_,rfl,hl,hxl,hf⟩:=DataW.trod_struct Tryz.underlying155 h
 match cs,hlen with
 | [c0,c1,c2,c3,c4],_=>
  match xs,hxl with
  | [y0,y1,y2,y3,y4],_=>
   have t0:=hf 0 _ rfl;have t1:=hf 1 _ rfl;have t2:=hf 2 _ rfl;have t3:=hf 3 _ rfl;have t4:=hf 4 _ rfl;simp[cells3,cells2,cellsF,cells9]at t0 t1 t2 t3 t4
   have hzz:∀n ∈ y3.1.weights Tryz.prog 9,n<=140737488351232:=by
    intro n hn;refine hz n ?_;simp[DataW.weights,Tryz.underlying155,DataW.weightsEach]
    first|exact Or.inr (Or.inr (Or.inr hn))|exact Or.inr (Or.inr (Or.inr (Or.inl hn)))|simp[hn]
   obtain⟨z0,e0,_⟩:=DataW.trod_int Tryz.underlying3 t0;obtain⟨z1,e1,_,gb1⟩:=DataW.trod_int Tryz.underlying2 t1;obtain⟨z2,e2,gf2⟩:=trod_flt Tryz.underlying149 t2;obtain⟨z3,e3,e3',_⟩:=DataW.trod_string Tryz.underlying9 t3;obtain⟨z4,e4,_⟩:=DataW.trod_int Tryz.underlying3 t4;simp only[List.cons.injEq,and_true]at e0 e1 e2 e3 e4;subst e0 e1 e2 e3 e4;refine⟨⟨z0,z1,z2,z3,z4⟩,⟨?_,?_,?_,?_,?_⟩,⟨?_,gf2,?_⟩⟩
   ·have:=hcell 0 (by omega);simpa [Addr.add]using this
   ·have:=hcell 1 (by omega);simpa [Addr.add]using this
   ·have:=hcell 2 (by omega);simpa [Addr.add]using this
   ·have:=hcell 3 (by omega);simpa [Addr.add]using this
   ·have:=hcell 4 (by omega);simpa [Addr.add]using this
   ·have:=hzz z3.data.toList.length (by rw[e3'];simp[DataW.weights]);show((z3.size:Nat):Int)<_;have e:z3.size=z3.data.toList.length:=by simp
    omega
   ·have:=gb1;simp[Lit.wf,IntKind.min,IntKind.max,IntKind.signed,IntKind.bits]at this;show-9223372036854775808<=z1/\z1<=9223372036854775807;omega
theorem read_vals{x:DataW H×List MemPlace}(h:DataW.trod enc Tryz.prog w base sp held fuel 70 cs=some x)(hz:Sz 70 x.1):
  ∃(v:Value) (n:Nat) (A:Nat->Vv),cs=[v]/\RowW 0 w v n A/\(n:Int)<140737488355328/\∀i,i<n->((((A i)).x.size:Int)<140737488355328/\((A i)).g<18446744073709551616/\-9223372036854775808<=(A i).m/\(A i).m<=9223372036854775807):=by
 rcases Deep.open_slice Tryz.underlying70 h with⟨rfl,rfl⟩|⟨a,len,cap,m,n,D,Pl,rfl,hb,hl,hm,hmm,rfl,hx⟩
 ·exact⟨_,0,λ_=>default,rfl,⟨none,0,rfl,λf=>by omega⟩,by omega,λi hi=>by omega⟩
 ·have hle:len<=m:=by rw[hmm];split<;>omega
  have hh:=hz.head Tryz.underlying70;rw[bytesLV]at hh;simp only[List.length_map,List.length_range]at hh;rw[cellsLV]at hx
  obtain⟨F,hF⟩:=Deep.choose_lt (α:=Vv) (n:=len) (p:=λi g=>ValC 0 w (a.add (i*5)) g/\(((g).x.size:Int)<140737488355328/\(g).g<18446744073709551616/\-9223372036854775808<=g.m/\g.m<=9223372036854775807)) (λi hi=>by
   obtain⟨cs',h1,h2⟩:=hx i (by omega)
   exact read_valu h2 h1 (hz.elem Tryz.underlying70 (List.mem_map.2 ⟨i,List.mem_range.2 hi,rfl⟩)))
  exact⟨_,len,F,rfl,⟨some a,cap,rfl,λ_=>⟨a,rfl,hl,Nat.zero_le _,λi hi=>(hF i hi).1⟩⟩,by omega,λi hi=>(hF i hi).2⟩
def RdPc(d:Pd):Prop:=((d.x.size:Int)<140737488355328/\(d.u:Int)<140737488355328/\((d.c:Int)<140737488355328/\∀j,j<d.c->((d.C j).x.size:Int)<140737488355328)/\(d.n:Int)<140737488355328/\((d.d:Int)<140737488355328/\∀j,j<d.d->((d.D j).x.size:Int)<140737488355328))/\(∀j,j<d.c->(d.C j).g<18446744073709551616/\-9223372036854775808<=(d.C j).m/\(d.C j).m<=9223372036854775807)/\-9223372036854775808<=d.g
theorem read_pro{x:DataW H×List MemPlace}(h:DataW.trod enc Tryz.prog w base sp held fuel 74 cs=some x)(hc:w.cells? base b 9=some cs)(hz:Sz 74 x.1):
  ∃g:Pd,ProC 0 w b g/\RdPc g:=by
 obtain⟨_,hlen,hcell⟩:=World.cells?_some hc;obtain⟨xs,n,_,rfl,hl,hxl,hf⟩:=DataW.trod_struct Tryz.underlying74 h
 match cs,hlen with
 | [c0,c1,c2,c3,c4,c5,c6,c7,c8],_=>
  match xs,hxl with
  | [y0,y1,y2,y3,y4,y5,y6,y7,y8],_=>
   have t0:=hf 0 _ rfl;have t1:=hf 1 _ rfl;have t2:=hf 2 _ rfl;have t3:=hf 3 _ rfl;have t4:=hf 4 _ rfl;have t5:=hf 5 _ rfl;have t6:=hf 6 _ rfl;have t7:=hf 7 _ rfl;have t8:=hf 8 _ rfl;simp[cells9,cells3,cellsB,cellsLUs,cellsLVs,cellsLIs,cellsLMs]at t0 t1 t2 t3 t4 t5 t6 t7 t8
   have hzz:∀n ∈ y0.1.weights Tryz.prog 9++(y5.1.weights Tryz.prog 69++(y6.1.weights Tryz.prog 70++(y7.1.weights Tryz.prog 71++y8.1.weights Tryz.prog 72))),n<=140737488351232:=by
    intro n hn;refine hz n ?_;simp[DataW.weights,Tryz.underlying74,DataW.weightsEach];simp at hn;rcases hn with hn|hn
    ·exact Or.inl hn
    ·exact Or.inr (Or.inr (Or.inr (Or.inr (Or.inr hn))))
   obtain⟨z0,e0,e0',_⟩:=DataW.trod_string Tryz.underlying9 t0;obtain⟨z1,e1,_⟩:=DataW.trod_int Tryz.underlying3 t1;obtain⟨z2,e2,_⟩:=DataW.trod_int Tryz.underlying3 t2;obtain⟨z3,e3⟩:=trod_bl Tryz.underlying4 t3;obtain⟨z4,e4,_,gb4⟩:=DataW.trod_int Tryz.underlying3 t4;obtain⟨vu,u,U,e5,r5,s5⟩:=read_ups t5 (λn hn=>hzz n (by simp[hn]));obtain⟨vc,c,C,e6,r6,s6,s6a⟩:=read_vals t6 (λn hn=>hzz n (by simp[hn]));obtain⟨vn,nn,N,e7,r7,s7⟩:=read_inss t7 (λn hn=>hzz n (by simp[hn]));obtain⟨vd,d,D,e8,r8,s8,s8a⟩:=read_nams t8 (λn hn=>hzz n (by simp[hn]));simp only[List.cons.injEq,and_true]at e0 e1 e2 e3 e4 e5 e6 e7 e8;subst e0 e1 e2 e3 e4 e5 e6 e7 e8;refine⟨⟨z0,z1,z2,z3,z4,u,U,c,C,nn,N,d,D⟩,⟨_,_,_,_,⟨?_,?_,?_,?_,?_,?_,?_,?_,?_⟩,r5,r6,r7,r8⟩,⟨⟨?_,s5,⟨s6,λj hj=>(s6a j hj).1⟩,s7,⟨s8,s8a⟩⟩,λj hj=>(s6a j hj).2,?_⟩⟩
   ·have:=hcell 0 (by omega);simpa [Addr.add]using this
   ·have:=hcell 1 (by omega);simpa [Addr.add]using this
   ·have:=hcell 2 (by omega);simpa [Addr.add]using this
   ·have:=hcell 3 (by omega);simpa [Addr.add]using this
   ·have:=hcell 4 (by omega);simpa [Addr.add]using this
   ·have:=hcell 5 (by omega);simpa [Addr.add]using this
   ·have:=hcell 6 (by omega);simpa [Addr.add]using this
   ·have:=hcell 7 (by omega);simpa [Addr.add]using this
   ·have:=hcell 8 (by omega);simpa [Addr.add]using this
   ·have:=hzz z0.data.toList.length (by rw[e0'];simp[DataW.weights]);show((z0.size:Nat):Int)<_;have e:z0.size=z0.data.toList.length:=by simp
    omega
   ·have:=gb4;simp[Lit.wf,IntKind.min,IntKind.max,IntKind.signed,IntKind.bits]at this;show-9223372036854775808<=z4;omega
theorem read_pros{x:DataW H×List MemPlace}(h:DataW.trod enc Tryz.prog w base sp held fuel 22 cs=some x)(hz:Sz 22 x.1):
  ∃(v:Value) (n:Nat) (A:Nat->Pd),cs=[v]/\RowP 0 w v n A/\(n:Int)<140737488355328/\∀i,i<n->RdPc (A i):=by
 rcases Deep.open_slice Tryz.underlying22 h with⟨rfl,rfl⟩|⟨a,len,cap,m,n,D,Pl,rfl,hb,hl,hm,hmm,rfl,hx⟩
 ·exact⟨_,0,λ_=>default,rfl,⟨none,0,rfl,λf=>by omega⟩,by omega,λi hi=>by omega⟩
 ·have hle:len<=m:=by rw[hmm];split<;>omega
  have hh:=hz.head Tryz.underlying22;rw[bytesLP]at hh;simp only[List.length_map,List.length_range]at hh;rw[cellsLP]at hx
  obtain⟨F,hF⟩:=Deep.choose_lt (α:=Pd) (n:=len) (p:=λi g=>ProC 0 w (a.add (i*9)) g/\RdPc g) (λi hi=>by
   obtain⟨cs',h1,h2⟩:=hx i (by omega)
   exact read_pro h2 h1 (hz.elem Tryz.underlying22 (List.mem_map.2 ⟨i,List.mem_range.2 hi,rfl⟩)))
  exact⟨_,len,F,rfl,⟨some a,cap,rfl,λ_=>⟨a,rfl,hl,Nat.zero_le _,λi hi=>(hF i hi).1⟩⟩,by omega,λi hi=>(hF i hi).2⟩
end
theorem bd_of(h:nf+sm (szP F) nf<=1048576)(hF:∀i,i<nf->RdPc (F i)):Bd nf F:=by
  have one:∀f,f<nf->szP F f<=1048576:=λf hf=>by have:=sm_one (szP F) hf;omega
  refine⟨by omega,?_,?_,?_,?_,?_,λf hf=>(hF f hf).2.2,?_⟩
  · have : sm (fun i => (F i).n) nf ≤ sm (szP F) nf := by
      have:∀k,k<=nf->sm (λi=>(F i).n) k<=sm (szP F) k:=by
        intro k
        induction k with
        |zero=>intro _;exact Nat.le_refl _
        |succ k ih=>
          intro hk;have:=ih (by omega);show sm (λi=>(F i).n) k+(F k).n<=sm (szP F) k+szP F k;unfold szP;unfold szP at this;omega
      exact this nf (Nat.le_refl _)
    omega
  · intro f hf;have:=one f hf;unfold szP at this;omega
  · intro f hf;have:=one f hf;unfold szP at this;omega
  · intro f hf;have:=one f hf;unfold szP at this;omega
  · intro f hf;have:=one f hf;unfold szP at this;omega
  · intro f hf i hi;refine⟨?_,((hF f hf).2.1 i hi).1⟩;have h1:=one f hf;have h2:=sm_one (λj=>((F f).C j).x.size) hi;unfold szP at h1
    try dsimp only at h2
    omega
theorem bf_of(hF:∀i,i<nf->RdPc (F i)):BP F nf:=λi hi=>(hF i hi).1
theorem eq_code(w:World)(ha:RowP 0 w va nf F)(hv:RowP 0 w vb nf F)(hb:Bd nf F):Calls Tryz.prog 9 #[.agg #[va],.agg #[vb]] w λe w'=>e=.returned (.bool true)/\Kb 0 w w':=
 eq_code0 w (λW k=>eq_pros W (ha.keep k) (hv.keep k) hb.hnp (λi hi=>⟨hb.hu i hi,hb.hc i hi,hb.hn i hi,hb.hd i hi,λj hj=>(hb.hC i hi j hj).2⟩))
