import Derived.Test.YtohbcpfjjimdnaaGreatDoorMCgb
set_option maxHeartbeats 16000000
namespace Go.Proofs.YtohbcpfjjimdnaaGreatDoor.Fo
open Go.ChangeShapes Go.WideShapes Go.ChangeAt Go.RowKit
set_option linter.unusedVariables false
set_option maxRecDepth 100000
variable {w1 W:World}{G n k p np:Nat}{A B:Nat->Bool}{F:Nat->Pd}{x lo:Int}
structure Ab (w1:World) (G n:Nat) (A:Nat->Bool) (W:World):Prop where
 os:W.os=w1.os
 output:W.output=w1.output
 size:w1.heap.size<=W.heap.size
 block:∀b,b<w1.heap.size->b≠G->W.heap[b]? =w1.heap[b]?
 ce:∀k,k<n->W.cell? ⟨G,k,none⟩=some (.bool (A k))
 fz:∀j,W.frozen? ⟨G,j,none⟩=false
 gl:G<w1.heap.size
theorem Ab.kb{W':World}(h:Ab w1 G n A W)(k:Kb 0 W W'):Ab w1 G n A W':=by
 have hg:=Nat.lt_of_lt_of_le h.gl h.size;exact⟨k.os.trans h.os,k.output.trans h.output,Nat.le_trans h.size k.size,λb hb hn=>(k.block b zq (Nat.lt_of_lt_of_le hb h.size)).trans (h.block b hb hn),λj hj=>k.cell (h.ce j hj),λj=>(k.frozen zq hg).trans (h.fz j),h.gl⟩
theorem Ab.set(h:Ab w1 G n A W){v:Bool}(hk:k<n)(hB:∀j,j<n->B j=if j=k then v else A j):Ab w1 G n B (W.setCell ⟨G,k,none⟩ (.bool v)):=by
 refine⟨h.os,h.output,by simpa using h.size,λb hb hn=>(Below.heap_setCell _ _ _ _ hn).trans (h.block b hb hn),λj hj=>?_,λj=>(set_fz _ _ _ _ _).trans (h.fz j),h.gl⟩;rw[hB j hj];by_cases e:j=k
 ·subst e;rw[if_pos rfl];exact set_eq _ _ _ _ _ (h.ce j hj)
 ·rw[if_neg e,set_ne _ _ _ _ _ e];exact h.ce j hj
theorem Ab.eqv(h:Ab w1 G n A W)(hB:∀j,j<n->B j=A j):Ab w1 G n B W:=
 ⟨h.os,h.output,h.size,h.block,λj hj=>by rw[hB j hj];exact h.ce j hj,h.fz,h.gl⟩
theorem Ab.old{w:World}(h:Ab w1 G n A W)(k:Kb 0 w w1)(hG:w.heap.size<=G):Kb 0 w W:=
 ⟨h.os.trans k.os,h.output.trans k.output,Nat.le_trans k.size h.size,λb _ hb=>(h.block b (Nat.lt_of_lt_of_le hb k.size) (by omega)).trans (k.block b zq hb)⟩
theorem ab_zero(w:World)(n:Nat)(t:TypeId):Ab (w.alloc (.cells (madeCells (.bool false:Value).cells (n*1)) t)) w.heap.size n (λ_=>false) (w.alloc (.cells (madeCells (.bool false:Value).cells (n*1)) t)):=
 ⟨rfl,rfl,Nat.le_refl _,λ_ _ _=>rfl,λk hk=>made_cell w _ t n rfl k hk,λj=>made_fz _ _ _ _,by simp⟩
theorem mb_zero(F:Nat->Pd)(k:Int):¬MB F 0 0 k:=by
 rintro⟨q,j,h,_⟩;omega
theorem mb_next{i:Nat}(hi:i<(F p).n)(k:Int):MB F p (i+1) k↔MB F p i k\/(((F p).N i).o=11/\((F p).N i).b=k):=by
 constructor
 ·rintro⟨q,j,h,h1,h2,h3⟩;by_cases e:q=p/\j=i
  ·obtain⟨rfl,rfl⟩:=e;exact .inr ⟨h2,h3⟩
  ·exact .inl ⟨q,j,by omega,h1,h2,h3⟩
 ·rintro(⟨q,j,h,h1⟩|⟨h2,h3⟩)
  ·exact⟨q,j,by omega,h1⟩
  ·exact⟨p,i,by omega,hi,h2,h3⟩
theorem mb_end(k:Int):MB F (p+1) 0 k↔MB F p (F p).n k:=by
 constructor
 ·rintro⟨q,j,h,h1,h2,h3⟩;by_cases e:q=p
  ·subst e;exact⟨q,j,.inr ⟨rfl,h1⟩,h1,h2,h3⟩
  ·exact⟨q,j,by omega,h1,h2,h3⟩
 ·rintro⟨q,j,h,h1,h2,h3⟩;exact⟨q,j,by omega,h1,h2,h3⟩
theorem fn_rng{q:Pd}{v:Iv}(h:Tok np q v)(ho:v.o=11):0<=v.b/\v.b<=(np:Int)-1:=by
 have:=h.2.2 1 (by omega);rw[ho]at this;exact this
theorem sp_inq_t{hi:Int}(h:lo<=x/\x<=hi)(w:World):Calls Tryz.prog 102 #[.int .i64 x,.int .i64 lo,.int .i64 hi] w λe w'=>e=.returned (.bool true)/\∃n,w'=w.drewN n:=by
 refine(sp_in_t h w).mono ?_;rintro e w' ⟨rfl,rfl⟩;exact⟨rfl,0,rfl⟩
theorem sp_inq_f{hi:Int}(h:¬(lo<=x/\x<=hi))(w:World):Calls Tryz.prog 102 #[.int .i64 x,.int .i64 lo,.int .i64 hi] w λe w'=>e=.returned (.bool false)/\∃n,w'=w.drewN n:=by
 refine(sp_in_f h w).mono ?_;rintro e w' ⟨rfl,rfl⟩;exact⟨rfl,0,rfl⟩
theorem sp_upsok{A:Addr}{ca:Nat}(w:World)(hfn:∀i,i<np->ProC 0 w (A.add (i*9)) (F i))(hp:p<np)(hk:k<np)(hnp:np<=1048576)(hu:(F k).u<=1048576)(hup:(F p).u<=1048576)(hg:0<=(F p).g/\(F p).g<=250):
  Calls Tryz.prog 60 #[.agg #[.slice (some A) np ca],.int .i64 p,.int .i64 k] w λe w'=>e=.returned (.bool (dc (Uok (F p) (F k))))/\Kb 0 w w':=by
 obtain⟨w1,hw1⟩:∃w1,w1=w.alloc (.cells #[.slice (some A) np ca] 30):=⟨_,rfl⟩
 have k1:Kb 0 w w1:=by rw[hw1];exact kb_alloc _ _ _
 have c0:w1.cell? ⟨w.heap.size,0,none⟩=some (.slice (some A) np ca):=by rw[hw1];exact cell_of (alloc_new w _ _) rfl
 obtain⟨vu,vc,vn,vd,hcel,hvu,-⟩:=(hfn k hk).keep zq k1;obtain⟨ku,ke,rfl,hru⟩:=hvu;obtain⟨xu,xc,xn,xd,pcel,hxu,-⟩:=(hfn p hp).keep zq k1;obtain⟨pu,pe,rfl,-⟩:=hxu;have e4:=pcel.c4;have e5:=pcel.c5;have d5:=hcel.c5;rw[hw1]at d5;have hkI:(k:Int)<(np:Int):=by omega
 have hpI:(p:Int)<(np:Int):=by omega
 have hnpI:(np:Int)<=1048576:=by omega
 have huI:((F k).u:Int)<=1048576:=by omega
 have hupI:((F p).u:Int)<=1048576:=by omega
 have HS:Hid (Kb 0 w w1/\w1.cell? ⟨w.heap.size,0,none⟩=some (.slice (some A) np ca)/\w1.cell? ⟨(A.add (p*9)).block,(A.add (p*9)).off+4,none⟩=some (.int .i64 (F p).g)/\w1.cell? ⟨(A.add (p*9)).block,(A.add (p*9)).off+5,none⟩=some (.slice pu (F p).u pe)/\(0<(F k).u->∃a:Addr,ku=some a/\(F k).u<=ke/\0<=a.block/\∀i,i<(F k).u->UpC 0 w1 (a.add (i*2)) ((F k).U i))):=(⟨k1,c0,e4,e5,hru⟩:_/\_)
 obtain⟨R,hR⟩:∃R,R=dc (Uok (F p) (F k)):=⟨_,rfl⟩
 rw[<-hR];have HR:Hid (R=dc (Uok (F p) (F k))):=hR;have HW:Hid (w1=w.alloc (.cells #[.slice (some A) np ca] 30)):=hw1;clear hfn hcel pcel hru k1 c0 e4 e5 hR hw1 hp hk hnp hu hup;go_enter Tryz.func60,Tryz.ntmps60;go_wp2_with fail;rw[<-(uh HW)];clear HW d5
 go_loopw [16] (λsl wr=>∃j:Nat,sl=.int .i64 j/\j<=(F k).u/\Hid (Kb 0 w1 wr/\∀y,y<j->0<=((F k).U y).2/\((F k).U y).2<(if((F k).U y).1=true then(F p).g else((F p).u:Int)))) (λsl _=>(F k).u-(intOf sl).toNat)
 case atStart=>exact⟨0,rfl,Nat.zero_le _,(⟨Kb.refl _ _,λy h=>by omega⟩:_/\_)⟩
 case round=>
  obtain⟨j,rfl,hj,HX⟩:=hrel;obtain⟨kw,hX⟩:=(uh HX)
  obtain⟨k1,c0,e4,e5,hru⟩:=(uh HS)
  have hR:=(uh HR)
  rcases Nat.lt_or_ge j (F k).u with h|h
  ·have hI:(j:Int)<((F k).u:Int):=by omega
   obtain⟨b,rfl,hcb,-,hrb⟩:=hru (by omega);obtain⟨q0,q1⟩:=(hrb j h).keep zq kw
   have hstep:(0<=((F k).U j).2/\((F k).U j).2<(if((F k).U j).1=true then(F p).g else((F p).u:Int)))->∀W,Kb 0 wr W->Kb 0 w1 W/\∀y,y<j+1->0<=((F k).U y).2/\((F k).U y).2<(if((F k).U y).1=true then(F p).g else((F p).u:Int)):=λc W kk=>⟨kw.trans kk,λy hy=>by
    by_cases e:y=j
    ·subst e;exact c
    ·exact hX y (by omega)⟩
   have hstop:¬(0<=((F k).U j).2/\((F k).U j).2<(if((F k).U j).1=true then(F p).g else((F p).u:Int)))->R=false/\∀W,Kb 0 wr W->Kb 0 w W:=λc=>⟨by rw[hR];exact dc_f (λq=>c (q j h)),λW kk=>(k1.trans kw).trans kk⟩
   generalize (F k).U j=uj at*;obtain⟨xl,xi⟩:=uj;dsimp only at q0 q1 hstep hstop;obtain⟨w7,hw7⟩:∃w7,w7=wr.alloc (.cells #[.bool xl,.int .i64 xi] 115):=⟨_,rfl⟩
   have k7:Kb 0 wr w7:=by rw[hw7];exact kb_alloc _ _ _
   have s0:=k7.cell (kw.cell c0);have s4:=k7.cell (kw.cell e4);have s5:=k7.cell (kw.cell e5);have u0:w7.cell? ⟨wr.heap.size,0,none⟩=some (.bool xl):=by rw[hw7];exact cell_of (alloc_new _ _ _) rfl
   have u1:w7.cell? ⟨wr.heap.size,1,none⟩=some (.int .i64 xi):=by rw[hw7];exact cell_of (alloc_new _ _ _) rfl
   have HW7:Hid (w7=wr.alloc (.cells #[.bool xl,.int .i64 xi] 115)):=hw7;have K7:Hid (Kb 0 wr w7):=k7;clear HX hX kw k1 c0 e4 e5 hru hR hrb hw7 k7;cases xl with
   |true=>
    by_cases c:0<=xi/\xi<(F p).g
    ·have HL:=λW=>sp_inq_t (x:=xi) (lo:=0) (hi:=(F p).g-1) (by omega) W;have HXE:Hid (∀W,Kb 0 wr W->Kb 0 w1 W/\∀y,y<j+1->0<=((F k).U y).2/\((F k).U y).2<(if((F k).U y).1=true then(F p).g else((F p).u:Int))):=hstep (by rw[if_pos rfl];exact c);clear hstep hstop c;go_wp2_with fail;rw[<-(uh HW7)];clear HW7 q0 q1
     go_quiet (first|(go_at_call 102;exact Calls.quiet_of (HL _)))
     have HX3:Hid (Kb 0 w1 (w7.drewN nq)/\∀y,y<j+1->0<=((F k).U y).2/\((F k).U y).2<(if((F k).U y).1=true then(F p).g else((F p).u:Int))):=(uh HXE) _ ((show Kb 0 wr w7 from K7).drewN nq);clear HXE K7 s0 s4 s5 u0 u1 HL;go_wp2_with fail;go_roundw
     case rel=>exact⟨j+1,by go_num,by omega,HX3⟩
     case measure=>simp[intOf];omega
    ·have HL:=λW=>sp_inq_f (x:=xi) (lo:=0) (hi:=(F p).g-1) (by omega) W;obtain⟨hF,hst⟩:=hstop (by rw[if_pos rfl];exact c);subst hF;have HXE:Hid (∀W,Kb 0 wr W->Kb 0 w W):=hst;clear hstep hstop c hst HR;go_wp2_with fail;rw[<-(uh HW7)];clear HW7 q0 q1
     go_quiet (first|(go_at_call 102;exact Calls.quiet_of (HL _)))
     have HX3:Hid (Kb 0 w (w7.drewN nq)):=(uh HXE) _ ((show Kb 0 wr w7 from K7).drewN nq);clear HXE K7 s0 s4 s5 u0 u1 HL;go_wp2_with fail;go_ret;exact⟨rfl,HX3⟩
   |false=>
    by_cases c:0<=xi/\xi<((F p).u:Int)
    ·have HL:=λW=>sp_inq_t (x:=xi) (lo:=0) (hi:=((F p).u:Int)-1) (by omega) W;have HXE:Hid (∀W,Kb 0 wr W->Kb 0 w1 W/\∀y,y<j+1->0<=((F k).U y).2/\((F k).U y).2<(if((F k).U y).1=true then(F p).g else((F p).u:Int))):=hstep (by rw[if_neg (by decide)];exact c);clear hstep hstop c;go_wp2_with fail;rw[<-(uh HW7)];clear HW7 q0 q1
     go_quiet (first|(go_at_call 102;exact Calls.quiet_of (HL _)))
     have HX3:Hid (Kb 0 w1 (w7.drewN nq)/\∀y,y<j+1->0<=((F k).U y).2/\((F k).U y).2<(if((F k).U y).1=true then(F p).g else((F p).u:Int))):=(uh HXE) _ ((show Kb 0 wr w7 from K7).drewN nq);clear HXE K7 s0 s4 s5 u0 u1 HL;go_wp2_with fail;go_roundw
     case rel=>exact⟨j+1,by go_num,by omega,HX3⟩
     case measure=>simp[intOf];omega
    ·have HL:=λW=>sp_inq_f (x:=xi) (lo:=0) (hi:=((F p).u:Int)-1) (by omega) W;obtain⟨hF,hst⟩:=hstop (by rw[if_neg (by decide)];exact c);subst hF;have HXE:Hid (∀W,Kb 0 wr W->Kb 0 w W):=hst;clear hstep hstop c hst HR;go_wp2_with fail;rw[<-(uh HW7)];clear HW7 q0 q1
     go_quiet (first|(go_at_call 102;exact Calls.quiet_of (HL _)))
     have HX3:Hid (Kb 0 w (w7.drewN nq)):=(uh HXE) _ ((show Kb 0 wr w7 from K7).drewN nq);clear HXE K7 s0 s4 s5 u0 u1 HL;go_wp2_with fail;go_ret;exact⟨rfl,HX3⟩
  ·have hI:¬(j:Int)<((F k).u:Int):=by omega
   have hT:R=true:=by
    rw[hR];exact dc_t (λy hy=>hX y (by omega))
   subst hT;have HK:Hid (Kb 0 w wr):=k1.trans kw;clear HX hX kw k1 c0 e4 e5 hru hR HR HS;go_wp2_with fail;go_ret;exact⟨rfl,HK⟩
