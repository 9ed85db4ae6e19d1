import Derived.Test.YtohbcpfjjimdnaaGreatDoorMTos
import Derived.Shelf.Spec.SlicesInsertGrow
import Derived.Shelf.Slices.Empties
set_option maxHeartbeats 16000000
namespace Go.Proofs.YtohbcpfjjimdnaaGreatDoor.Fo
open Go.ChangeShapes Go.WideShapes Go.ChangeAt Go.RowKit
set_option linter.unusedVariables false
set_option maxRecDepth 100000
variable {W:World}{s:Sv}{u v vt vg v8 v9 vb vgb:Value}{av bv:Nat->Prop}{T:List Int}{C:Nat}{a:Iv}{G:List Gv}
theorem set3_0{s:Nat}(h:W.cell? ⟨s,0,none⟩=some u):∀x,(W.setCell ⟨s,0,none⟩ x).cell? ⟨s,0,none⟩=some x:=λx=>set_eq _ _ _ _ _ h
theorem set3_1{s:Nat}(h:W.cell? ⟨s,1,none⟩=some u):∀x y,((W.setCell ⟨s,0,none⟩ x).setCell ⟨s,1,none⟩ y).cell? ⟨s,1,none⟩=some y:=λx y=>set_eq _ _ _ _ u (by rw[set_ne _ _ _ _ _ (by omega)];exact h)
theorem set3_2{s:Nat}(h:W.cell? ⟨s,2,none⟩=some u):∀x y z,(((W.setCell ⟨s,0,none⟩ x).setCell ⟨s,1,none⟩ y).setCell ⟨s,2,none⟩ z).cell? ⟨s,2,none⟩=some z:=λx y z=>set_eq _ _ _ _ u (by rw[set_ne _ _ _ _ _ (by omega),set_ne _ _ _ _ _ (by omega)];exact h)
def AtA(av bv:Nat->Prop)(a:Iv)(s:Sv)(T:List Int)(G:List Gv)(w:World)(e:Ending)(w':World):Prop:=∃v1 v2,e=.returned (.agg #[.bool true,v1,v2])/\Rz (λk=>av k\/bv k\/w.heap.size<=k) w' v1 (att a s T G).1/\Rg (λk=>av k\/bv k\/w.heap.size<=k) w' v2 (att a s T G).2/\Kb 0 w w'
theorem Rz.wk(h:Rz av W v T)(k:∀b,av b->bv b):Rz bv W v T:=by
 obtain⟨pa,cap,h1,h0,h2⟩:=h;exact⟨pa,cap,h1,h0,λhn=>by obtain⟨a,e1,e2,e3⟩:=h2 hn;exact⟨a,e1,k _ e2,e3⟩⟩
theorem Rg.wk{T:List Gv}(h:Rg av W v T)(k:∀b,av b->bv b):Rg bv W v T:=by
 obtain⟨pa,cap,h1,h0,h2⟩:=h;exact⟨pa,cap,h1,h0,λhn=>by obtain⟨a,e1,e2,e3⟩:=h2 hn;exact⟨a,e1,k _ e2,e3⟩⟩
theorem at_41(w:World)(hC:ChB C a vt vg v8 v9 w)(r1:Rz av w vt s.1)(r2:Rg av w vg s.2)(r3:Rz bv w vb T)(r4:Rg bv w vgb G)(h:a.o=41):
  Calls Tryz.prog 89 #[.pointer (some ⟨C,0,none⟩),.agg #[.bool true,vb,vgb]] w (AtA av bv a s T G w):=by
 have g0:(a.o==41)=true:=beq1 h;obtain⟨pt,ct,et,-⟩:=id r1;obtain⟨pg,cg,eg,-⟩:=id r2;obtain⟨pb,cb,eb,-⟩:=id r3;obtain⟨pz,cz,ez,-⟩:=id r4;subst et eg eb ez;have hC':w.heap[C]? =_:=hC;obtain⟨w2,hw2⟩:∃w2,w2=(w.alloc (.cells #[.bool true,.slice pb T.length cb,.slice pz G.length cz] 58)).alloc (.cells #[.bool false,.slice none 0 0,.slice none 0 0] 58):=⟨_,rfl⟩
 obtain⟨s0,hs0⟩:∃s0,s0=w.heap.size:=⟨_,rfl⟩
 obtain⟨t0,t1,ts,k2⟩:=two_new' w _ _ _ _ w2 hw2;rw[<-hs0]at t0 t1;obtain⟨s1,hs1⟩:∃s1,s1=s0+1:=⟨_,rfl⟩
 rw[<-hs1]at t1;have d0:w2.cell? ⟨s0,0,none⟩=some (.bool true):=cell_of t0 rfl;have d1:w2.cell? ⟨s0,1,none⟩=some (.slice pb T.length cb):=cell_of t0 rfl;have d2:w2.cell? ⟨s0,2,none⟩=some (.slice pz G.length cz):=cell_of t0 rfl;have z0:w2.cell? ⟨s1,0,none⟩=some (.bool false):=cell_of t1 rfl;have z1:w2.cell? ⟨s1,1,none⟩=some (.slice none 0 0):=cell_of t1 rfl;have z2:w2.cell? ⟨s1,2,none⟩=some (.slice none 0 0):=cell_of t1 rfl;have f0:w2.frozen? ⟨s1,0,none⟩=false:=frozen_of t1;have f1:w2.frozen? ⟨s1,1,none⟩=false:=frozen_of t1;have f2:w2.frozen? ⟨s1,2,none⟩=false:=frozen_of t1;have c0:w2.cell? ⟨C,0,none⟩=some (.int .i64 a.o):=k2.cell (cell_of hC' rfl);have c5:w2.cell? ⟨C,5,none⟩=some (.bool true):=k2.cell (cell_of hC' rfl);have c6:w2.cell? ⟨C,6,none⟩=some (.slice pt s.1.length ct):=k2.cell (cell_of hC' rfl);have c7:w2.cell? ⟨C,7,none⟩=some (.slice pg s.2.length cg):=k2.cell (cell_of hC' rfl);have HW:Hid (w2=_/\s0=_/\s1=_):=⟨hw2,hs0,hs1⟩
 have HS:Hid (Kb 0 w w2/\w.heap.size<=s1):=⟨k2,by omega⟩
 have HR:Hid (Rz (λk=>av k\/bv k\/w.heap.size<=k) w (.slice pt s.1.length ct) (att a s T G).1/\Rg (λk=>av k\/bv k\/w.heap.size<=k) w (.slice pg s.2.length cg) (att a s T G).2):=(by rw[show att a s T G=s from if_pos h];exact⟨r1.wk (λb q=>.inl q),r2.wk (λb q=>.inl q)⟩)
 clear hw2 hs0 t0 t1 ts hs1 k2 hC hC' r1 r2 r3 r4 h;go_enter Tryz.func89,Tryz.ntmps89;go_upto_region 1 with fail;rw[<-(uh HW).1,<-(uh HW).2.1,<-(uh HW).2.2];clear HW;go_wp2_with fail;refine bodyPost_ret (by simp[results,Tryz.results89,go_sem,set3_0 z0,set3_1 z1,set3_2 z2];rfl) rfl ?_;obtain⟨q1,q2⟩:=(uh HR)
 obtain⟨k2,hs⟩:=(uh HS)
 have kk:∀x y z,Kb 0 w (((w2.setCell ⟨s1,0,none⟩ x).setCell ⟨s1,1,none⟩ y).setCell ⟨s1,2,none⟩ z):=λx y z=>((k2.setCell ⟨s1,0,none⟩ (.inr hs) x).setCell ⟨s1,1,none⟩ (.inr hs) y).setCell ⟨s1,2,none⟩ (.inr hs) z;exact⟨_,_,rfl,q1.kb (kk _ _ _),q2.kb (kk _ _ _),kk _ _ _⟩
theorem at_oth(w:World)(hC:ChB C a vt vg v8 v9 w)(r1:Rz av w vt s.1)(r2:Rg av w vg s.2)(r3:Rz bv w vb T)(r4:Rg bv w vgb G)(h:a.o≠41)(h2:a.o≠31):
  Calls Tryz.prog 89 #[.pointer (some ⟨C,0,none⟩),.agg #[.bool true,vb,vgb]] w (AtA av bv a s T G w):=by
 have g0:(a.o==41)=false:=bne h;have g1:(a.o==31)=false:=bne h2;obtain⟨pt,ct,et,-⟩:=id r1;obtain⟨pg,cg,eg,-⟩:=id r2;obtain⟨pb,cb,eb,-⟩:=id r3;obtain⟨pz,cz,ez,-⟩:=id r4;subst et eg eb ez;have hC':w.heap[C]? =_:=hC;obtain⟨w2,hw2⟩:∃w2,w2=(w.alloc (.cells #[.bool true,.slice pb T.length cb,.slice pz G.length cz] 58)).alloc (.cells #[.bool false,.slice none 0 0,.slice none 0 0] 58):=⟨_,rfl⟩
 obtain⟨s0,hs0⟩:∃s0,s0=w.heap.size:=⟨_,rfl⟩
 obtain⟨t0,t1,ts,k2⟩:=two_new' w _ _ _ _ w2 hw2;rw[<-hs0]at t0 t1;obtain⟨s1,hs1⟩:∃s1,s1=s0+1:=⟨_,rfl⟩
 rw[<-hs1]at t1;have d0:w2.cell? ⟨s0,0,none⟩=some (.bool true):=cell_of t0 rfl;have d1:w2.cell? ⟨s0,1,none⟩=some (.slice pb T.length cb):=cell_of t0 rfl;have d2:w2.cell? ⟨s0,2,none⟩=some (.slice pz G.length cz):=cell_of t0 rfl;have z0:w2.cell? ⟨s1,0,none⟩=some (.bool false):=cell_of t1 rfl;have z1:w2.cell? ⟨s1,1,none⟩=some (.slice none 0 0):=cell_of t1 rfl;have z2:w2.cell? ⟨s1,2,none⟩=some (.slice none 0 0):=cell_of t1 rfl;have f0:w2.frozen? ⟨s1,0,none⟩=false:=frozen_of t1;have f1:w2.frozen? ⟨s1,1,none⟩=false:=frozen_of t1;have f2:w2.frozen? ⟨s1,2,none⟩=false:=frozen_of t1;have c0:w2.cell? ⟨C,0,none⟩=some (.int .i64 a.o):=k2.cell (cell_of hC' rfl);have c5:w2.cell? ⟨C,5,none⟩=some (.bool true):=k2.cell (cell_of hC' rfl);have c6:w2.cell? ⟨C,6,none⟩=some (.slice pt s.1.length ct):=k2.cell (cell_of hC' rfl);have c7:w2.cell? ⟨C,7,none⟩=some (.slice pg s.2.length cg):=k2.cell (cell_of hC' rfl);have HW:Hid (w2=_/\s0=_/\s1=_):=⟨hw2,hs0,hs1⟩
 have HS:Hid (Kb 0 w w2/\w.heap.size<=s1):=⟨k2,by omega⟩
 have HR:Hid (Rz (λk=>av k\/bv k\/w.heap.size<=k) w (.slice pb T.length cb) (att a s T G).1/\Rg (λk=>av k\/bv k\/w.heap.size<=k) w (.slice pz G.length cz) (att a s T G).2):=(by rw[show att a s T G=(T,G)from(if_neg h).trans (if_neg h2)];exact⟨r3.wk (λb q=>.inr (.inl q)),r4.wk (λb q=>.inr (.inl q))⟩)
 clear hw2 hs0 t0 t1 ts hs1 k2 hC hC' r1 r2 r3 r4 h h2;go_enter Tryz.func89,Tryz.ntmps89;go_upto_region 1 with fail;rw[<-(uh HW).1,<-(uh HW).2.1,<-(uh HW).2.2];clear HW;go_wp2_with fail;refine bodyPost_ret (by simp[results,Tryz.results89,go_sem,set3_0 z0,set3_1 z1,set3_2 z2];rfl) rfl ?_;obtain⟨q1,q2⟩:=(uh HR)
 obtain⟨k2,hs⟩:=(uh HS)
 have kk:∀x y z,Kb 0 w (((w2.setCell ⟨s1,0,none⟩ x).setCell ⟨s1,1,none⟩ y).setCell ⟨s1,2,none⟩ z):=λx y z=>((k2.setCell ⟨s1,0,none⟩ (.inr hs) x).setCell ⟨s1,1,none⟩ (.inr hs) y).setCell ⟨s1,2,none⟩ (.inr hs) z;exact⟨_,_,rfl,q1.kb (kk _ _ _),q2.kb (kk _ _ _),kk _ _ _⟩
theorem kb_setCells {a:World} (q:Nat) (hq:a.heap.size<=q):∀(vs:List Value) (o:Nat) (w:World),Kb 0 a w->Kb 0 a (w.setCells q o vs)
 | [],_,_,h=>h
 |v::vs,o,w,h=>kb_setCells q hq vs (o+1) _ (h.setCell ⟨q,o,none⟩ (.inr hq) v)
theorem at_31(w:World)(hC:ChB C a vt vg v8 v9 w)(r1:Rz av w vt s.1)(r2:Rg av w vg s.2)(r3:Rz bv w vb T)(r4:Rg bv w vgb G)(h:a.o=31)(hb:0<=a.b/\a.b+2<=(s.1.length:Int))(hn:s.1.length<=250):
  Calls Tryz.prog 89 #[.pointer (some ⟨C,0,none⟩),.agg #[.bool true,vb,vgb]] w (AtA av bv a s T G w):=by
 have g0:(a.o==41)=false:=bne (by omega);have g1:(a.o==31)=true:=beq1 h;obtain⟨k,hk⟩:∃k:Nat,a.b=(k:Int):=⟨a.b.toNat,by omega⟩
 obtain⟨n,hnn⟩:∃n,n=s.1.length:=⟨_,rfl⟩
 rw[<-hnn]at hb hn;have hkn:k+2<=n:=by omega
 obtain⟨pt,ct,et,hct,-⟩:=id r1;obtain⟨pg,cg,eg,-⟩:=id r2;obtain⟨pb,cb,eb,-⟩:=id r3;obtain⟨pz,cz,ez,-⟩:=id r4;subst et eg eb ez;have hC':w.heap[C]? =_:=hC;obtain⟨w2,hw2⟩:∃w2,w2=(w.alloc (.cells #[.bool true,.slice pb T.length cb,.slice pz G.length cz] 58)).alloc (.cells #[.bool false,.slice none 0 0,.slice none 0 0] 58):=⟨_,rfl⟩
 obtain⟨s0,hs0⟩:∃s0,s0=w.heap.size:=⟨_,rfl⟩
 obtain⟨t0,t1,ts,k2⟩:=two_new' w _ _ _ _ w2 hw2;rw[<-hs0]at t0 t1;obtain⟨s1,hs1⟩:∃s1,s1=s0+1:=⟨_,rfl⟩
 rw[<-hs1]at t1;have HCL:=im_clone w2 (r1.kb k2) (by omega);have c0:w2.cell? ⟨C,0,none⟩=some (.int .i64 a.o):=k2.cell (cell_of hC' rfl);have c6:w2.cell? ⟨C,6,none⟩=some (.slice pt s.1.length ct):=k2.cell (cell_of hC' rfl);have HC2:Hid (w2.cell? ⟨C,2,none⟩=some (.int .i64 k)/\w2.cell? ⟨C,7,none⟩=some (.slice pg s.2.length cg)/\C<w2.heap.size):=(⟨by rw[<-hk];exact k2.cell (cell_of hC' rfl),k2.cell (cell_of hC' rfl),by have:=(Array.getElem?_eq_some_iff.1 hC').1;omega⟩:_/\_)
 have HW:Hid (w2=_/\s0=_/\s1=_):=⟨hw2,hs0,hs1⟩
 have HS:Hid (Kb 0 w w2/\w.heap.size<=s1/\s1<w2.heap.size/\w2.heap[s1]? =some (.cells #[.bool false,.slice none 0 0,.slice none 0 0] 58 (0,0))):=(⟨k2,by omega,by omega,t1⟩:_/\_)
 have HG:Hid (Rg (λk=>av k\/bv k\/w.heap.size<=k) w (.slice pg s.2.length cg) s.2):=r2.wk (λb q=>.inl q);have HN:Hid (n=s.1.length/\a.b=(k:Int)/\k+2<=n/\n<=250/\a.o=31):=(⟨hnn,hk,hkn,hn,h⟩:_/\_)
 clear hw2 hs0 t0 t1 ts hs1 k2 hC hC' r1 r2 r3 r4 h hk hnn hb hn hkn hct;go_enter Tryz.func89,Tryz.ntmps89;go_upto_region 1 with fail;rw[<-(uh HW).1,<-(uh HW).2.1,<-(uh HW).2.2];clear HW;go_upto_region 6 with(go_at_call 20;refine HCL.mono ?_;rintro e w3 ⟨v5,rfl,ho,k3⟩;obtain⟨hnn,hk,hkn,hn,h⟩:=(uh HN);obtain⟨p5,q5,cap,y5,rfl,rfl,hcap,hbq,-,-,hfz,-⟩:=own_wr ho (k:=k) (by omega);have HO:Hid (OwI w2.heap.size w3 (.slice (some ⟨q5,0,none⟩) s.1.length cap) s.1/\Kb 0 w2 w3/\s.1.length<=cap/\w2.heap.size<=q5/\∀j,w3.frozen? (Addr.add ⟨q5,0,none⟩ j)=false):=(⟨ho,k3,hcap,hbq,hfz⟩:_/\_);clear ho k3 hcap hbq hfz hnn hk hkn hn h y5 HCL c0 c6);obtain⟨hnn,hk,hkn,hn,h⟩:=(uh HN)
 have hO:=(uh HO)
 obtain⟨ho,k3,hcap,hq5,hfz⟩:=hO
 have hrow:∀j x,s.1[j]? =some x->w3.cell? ⟨q5,j,none⟩=some (.int .i64 x):=λj x hx=>by
  obtain⟨pa,ca,ee,-,h2⟩:=ho.rz;obtain⟨e1,-,-⟩:=Value.slice.inj ee;obtain⟨a',e2,-,e3⟩:=h2 (by have:=(List.getElem?_eq_some_iff.1 hx).1;omega);rw[<-e1]at e2;have e4:=Option.some.inj e2;have:=e3 j x hx;rw[<-e4,addr0]at this;exact this
 have hfz':∀j,w3.frozen? ⟨q5,j,none⟩=false:=λj=>by have:=hfz j;rw[addr0]at this;exact this
 obtain⟨m,hm⟩:∃m,s.1.length=m:=⟨_,rfl⟩
 have hmn:m=n:=by omega
 have HCR:∀ty,(Builtin.clear_ #[53] ty #[.slice (some ⟨q5,k,none⟩) (m-k) (cap-k)]).run Tryz.prog w3=.ok (.tuple #[]) (w3.setCells q5 k (List.replicate (m-k) (.int .i64 0))):=λty=>Lib.run_clear_slice w3 53 3 ty (.int .i64 0) Tryz.underlying53 (λw=>by rfl) rfl rfl q5 k (m-k) (cap-k) (by omega) (λj hj=>by
  rw[hrow (k+j) _ (List.getElem?_eq_getElem (by omega))];rfl) (λj _=>hfz' _)
 obtain⟨w4,hw4⟩:∃w4,w4=w3.setCells q5 k (List.replicate (m-k) (.int .i64 0)):=⟨_,rfl⟩
 rw[<-hw4]at HCR;have k4:Kb 0 w2 w4:=by rw[hw4];exact kb_setCells q5 hq5 _ _ _ k3
 have hlo:∀j x,j<k->s.1[j]? =some x->w4.cell? ⟨q5,j,none⟩=some (.int .i64 x):=λj x hj hx=>by
  rw[hw4,World.cell?_setCells_out _ _ _ _ _ (λ_ _=>.inl hj)];exact hrow j x hx
 have hhi:∀j,k<=j->j<m->w4.cell? ⟨q5,j,none⟩=some (.int .i64 0):=λj h1 h2=>by
  have:=World.cell?_setCells_in q5 (List.replicate (m-k) (.int .i64 0)) k w3 (λj hj=>by
   rw[List.length_replicate]at hj
   rw[hrow (k+j) _ (List.getElem?_eq_getElem (by omega))];rfl) (j-k) (by rw[List.length_replicate];omega)
  rw[hw4,show j=k+(j-k) by omega,this,List.getElem_replicate]
 have hf4:∀j,w4.frozen? ⟨q5,j,none⟩=false:=λj=>by rw[hw4,World.frozen?_setCells];exact hfz' j
 have c2:w3.cell? ⟨C,2,none⟩=some (.int .i64 k):=k3.cell (uh HC2).1;have c2':w4.cell? ⟨C,2,none⟩=some (.int .i64 k):=k4.cell (uh HC2).1;have HX:Hid ((∀j x,j<k->s.1[j]? =some x->w4.cell? ⟨q5,j,none⟩=some (.int .i64 x))/\(∀j,k<=j->j<m->w4.cell? ⟨q5,j,none⟩=some (.int .i64 0))/\(∀j,w4.frozen? ⟨q5,j,none⟩=false)/\Kb 0 w2 w4/\w2.heap.size<=q5/\s.1.length=m/\k+2<=m/\m<=250/\m<=cap/\a.o=31/\a.b=(k:Int)):=(⟨hlo,hhi,hf4,k4,hq5,hm,by omega,by omega,by omega,h,hk⟩:_/\_)
 have b1:(k:Int)<=(m:Int):=by omega
 have b2:(m:Int)<=(cap:Int):=by omega
 have b3:(m:Int)<=250:=by omega
 have b4:k<=m:=by omega
 have b5:m<=cap:=by omega
 rw[hm];clear hw4 hlo hhi hf4 k4 hq5 hmn hrow hfz hfz' ho k3 hcap HO HN hnn hk hkn hn h hm;have ea:Addr.add ⟨q5,0,none⟩ k=⟨q5,k,none⟩:=addr0 _ _;have b6:¬cap=k:=by have:=(uh HX);omega
 have b7:¬k=cap:=λq=>b6 q.symm;go_upto_region 7 with fail;clear HCR ea b6 b7 c2 b4 b5;obtain⟨hlo,hhi,hf4,k4,hq5,hm,hk2,hm2,hmc,h,hk⟩:=(uh HX)
 have i1:(k:Int)<(m:Int):=by omega
 have i2:(k:Int)+1<(m:Int):=by omega
 have e0:w4.cell? ⟨q5,k,none⟩=some (.int .i64 0):=hhi k (Nat.le_refl _) (by omega);have e1:w4.cell? ⟨q5,k+1,none⟩=some (.int .i64 0):=hhi (k+1) (by omega) (by omega);have f0:w4.frozen? ⟨q5,k,none⟩=false:=hf4 _;have f1:w4.frozen? ⟨q5,k+1,none⟩=false:=hf4 _;have ea:∀j,Addr.add ⟨q5,0,none⟩ j=⟨q5,j,none⟩:=addr0 q5;clear hlo hhi hf4 k4 hq5 hm hk2 hm2 hmc h hk
 go_region
 obtain⟨hlo,hhi,hf4,k4,hq5,hm,hk2,hm2,hmc,h,hk⟩:=(uh HX)
 generalize hw5:((w4.setCell ⟨q5,k,none⟩ (.int .i64 1)).setCell ⟨q5,k+1,none⟩ (.int .i64 1)).drew=w5;have hc5:∀p,w5.cell? p=((w4.setCell ⟨q5,k,none⟩ (.int .i64 1)).setCell ⟨q5,k+1,none⟩ (.int .i64 1)).cell? p:=λp=>by rw[<-hw5];rfl
 have k5:Kb 0 w2 w5:=by rw[<-hw5];exact((k4.setCell ⟨q5,k,none⟩ (.inr hq5) _).setCell ⟨q5,k+1,none⟩ (.inr hq5) _).drew
 have hrow5:∀j x,(tcl s.1 a.b)[j]? =some x->w5.cell? ⟨q5,j,none⟩=some (.int .i64 x):=λj x hx=>by
  rw[hc5];unfold tcl at hx;rw[hk,show((k:Int)).toNat=k from rfl]at hx;have hlt:(s.1.take k).length=k:=by rw[List.length_take];omega
  rcases Nat.lt_or_ge j k with q|q
  ·rw[List.getElem?_append_left (by omega),List.getElem?_take_of_lt q]at hx;rw[set_ne _ _ _ _ _ (by omega),set_ne _ _ _ _ _ (by omega)];exact hlo j x q hx
  ·rw[List.getElem?_append_right (by omega),hlt]at hx;by_cases q0:j=k
   ·subst q0;rw[Nat.sub_self]at hx;have hx1:(1:Int)=x:=by simpa using hx
    subst hx1;rw[set_ne _ _ _ _ _ (by omega)];exact set_eq _ _ _ _ _ e0
   ·by_cases q1:j=k+1
    ·subst q1;rw[Nat.add_sub_cancel_left]at hx;have hx1:(1:Int)=x:=by simpa using hx
     subst hx1;exact set_eq _ _ _ _ (.int .i64 0) (by rw[set_ne _ _ _ _ _ (by omega)];exact e1)
    ·obtain⟨i,rfl⟩:∃i,j=k+2+i:=⟨j-k-2,by omega⟩
     rw[show k+2+i-k=i+1+1 by omega,List.getElem?_cons_succ,List.getElem?_cons_succ,List.getElem?_replicate]at hx;split at hx
     ·have hx1:(0:Int)=x:=by simpa using hx
      subst hx1;rw[set_ne _ _ _ _ _ (by omega),set_ne _ _ _ _ _ (by omega)];exact hhi _ (by omega) (by omega)
     ·cases hx
 have hlen:(tcl s.1 a.b).length=m:=by
  unfold tcl;rw[hk,show((k:Int)).toNat=k from rfl];simp only[List.length_append,List.length_take,List.length_cons,List.length_replicate];omega
 obtain⟨k2,hs,hsl,t1⟩:=(uh HS)
 have t5:w5.heap[s1]? =some (.cells #[.bool false,.slice none 0 0,.slice none 0 0] 58 (0,0)):=by rw[k5.block _ zq hsl];exact t1
 have z0:w5.cell? ⟨s1,0,none⟩=some (.bool false):=cell_of t5 rfl;have z1:w5.cell? ⟨s1,1,none⟩=some (.slice none 0 0):=cell_of t5 rfl;have z2:w5.cell? ⟨s1,2,none⟩=some (.slice none 0 0):=cell_of t5 rfl;have y0:w5.frozen? ⟨s1,0,none⟩=false:=frozen_of t5;have y1:w5.frozen? ⟨s1,1,none⟩=false:=frozen_of t5;have y2:w5.frozen? ⟨s1,2,none⟩=false:=frozen_of t5;have c7:=k5.cell (uh HC2).2.1;have hq1:s1≠q5:=by omega
 have hqw:w.heap.size<=q5:=Nat.le_trans k2.size hq5;have hatt:att a s T G=(tcl s.1 a.b,s.2):=(if_neg (by omega)).trans (if_pos h)
 have HF:Hid (∀x y z,AtA av bv a s T G w (.returned (.agg #[.bool true,.slice (some ⟨q5,0,none⟩) m cap,.slice pg s.2.length cg])) (((w5.setCell ⟨s1,0,none⟩ x).setCell ⟨s1,1,none⟩ y).setCell ⟨s1,2,none⟩ z)):=(λx y z=>by
  have kk:Kb 0 w (((w5.setCell ⟨s1,0,none⟩ x).setCell ⟨s1,1,none⟩ y).setCell ⟨s1,2,none⟩ z):=(((k2.trans k5).setCell ⟨s1,0,none⟩ (.inr hs) x).setCell ⟨s1,1,none⟩ (.inr hs) y).setCell ⟨s1,2,none⟩ (.inr hs) z;refine⟨_,_,rfl,?_,?_,kk⟩
  ·rw[hatt];refine⟨some ⟨q5,0,none⟩,cap,by rw[hlen],by rw[hlen];exact hmc,λ_=>⟨⟨q5,0,none⟩,rfl,.inr (.inr hqw),λj x' hx=>?_⟩⟩;rw[addr0];rw[World.cell?_setCell_other _ _ _ _ (λe=>hq1 (congrArg Addr.block e)),World.cell?_setCell_other _ _ _ _ (λe=>hq1 (congrArg Addr.block e)),World.cell?_setCell_other _ _ _ _ (λe=>hq1 (congrArg Addr.block e))];exact hrow5 j x' hx
  ·rw[hatt]
   exact(uh HG).kb kk:∀x,_)
 clear hlo hhi hf4 k4 hq5 hm hk2 hm2 hmc h hk hw5 hc5 k5 hrow5 hlen k2 hs hsl t1 t5 hq1 hqw hatt HG HS HX HC2 c2' i1 i2 e0 e1 f0 f1 ea b1 b2 b3;go_wp2_with fail;refine bodyPost_ret (by simp[results,Tryz.results89,go_sem,set3_0 z0,set3_1 z1,set3_2 z2];rfl) rfl ?_;exact(uh HF) _ _ _
theorem im_att(w:World)(hC:ChB C a vt vg v8 v9 w)(r1:Rz av w vt s.1)(r2:Rg av w vg s.2)(r3:Rz bv w vb T)(r4:Rg bv w vgb G)(hb:a.o=31->(0<=a.b/\a.b+2<=(s.1.length:Int)))(hn:s.1.length<=250):
  Calls Tryz.prog 89 #[.pointer (some ⟨C,0,none⟩),.agg #[.bool true,vb,vgb]] w (AtA av bv a s T G w):=by
 by_cases h:a.o=41
 ·exact at_41 w hC r1 r2 r3 r4 h
 by_cases h2:a.o=31
 ·exact at_31 w hC r1 r2 r3 r4 h2 (hb h2) hn
 exact at_oth w hC r1 r2 r3 r4 h h2
theorem im_types{d:Pd}{p:Nat}{a1 a2 a3 a4:Option Addr}{b1 b2 b3 b4 c1 c2 c3 c4:Nat}(w:World)(hd:Hd p d):
  Calls Tryz.prog 44 #[.agg #[.string d.x,.int .i64 d.l,.int .i64 d.m,.bool d.r,.int .i64 d.g,.slice a1 b1 c1,.slice a2 b2 c2,.slice a4 b4 c4,.slice a3 b3 c3]] w λe w'=>∃v,e=.returned v/\OwI w.heap.size w' v (t0 d)/\Kb 0 w w':=by
 have g0I:0<=d.g:=hd.2.2.1.1;have g1I:d.g<=250:=hd.2.2.1.2;have m0I:0<=d.m:=hd.2.2.2.1.1;obtain⟨te1,te2,te3,te4⟩:=tf_end hd;obtain⟨gn,hgn⟩:∃gn:Nat,d.g=(gn:Int):=⟨d.g.toNat,by omega⟩
 obtain⟨mn,hmn⟩:∃mn:Nat,d.m=(mn:Int):=⟨d.m.toNat,by omega⟩
 rw[hgn,hmn]at te1 te2 te3 te4;rw[Int.toNat_natCast,Int.toNat_natCast]at te1 te2 te3 te4;obtain⟨w1,hw1⟩:∃w1,w1=w.alloc (.cells #[.string d.x,.int .i64 d.l,.int .i64 d.m,.bool d.r,.int .i64 d.g,.slice a1 b1 c1,.slice a2 b2 c2,.slice a4 b4 c4,.slice a3 b3 c3] 52):=⟨_,rfl⟩
 obtain⟨s0,hs0⟩:∃s0,s0=w.heap.size:=⟨_,rfl⟩
 have k1:Kb 0 w w1:=by rw[hw1];exact kb_alloc _ _ _
 have hb1:w1.heap[s0]? =some (.cells #[.string d.x,.int .i64 d.l,.int .i64 d.m,.bool d.r,.int .i64 d.g,.slice a1 b1 c1,.slice a2 b2 c2,.slice a4 b4 c4,.slice a3 b3 c3] 52 (0,0)):=by rw[hw1,hs0];exact alloc_new _ _ _
 have hz1:w1.heap.size=s0+1:=by rw[hw1,hs0];exact World.size_alloc _ _
 have hmk:=run_make (P:=Tryz.prog) w1 53 3 Tryz.t3 (.int .i64 0) Tryz.underlying53 (by kernel_rfl) (by kernel_rfl) .i64 .i64 (gn:Int) (gn:Int) (by omega) (Int.le_refl _) (by show(8:Int)*(gn:Int)<=_;omega) (by omega);rw[Int.toNat_natCast]at hmk;obtain⟨w2,hw2⟩:∃w2,w2=w1.alloc (.cells (madeCells (.int .i64 0:Value).cells (gn*1)) 3):=⟨_,rfl⟩
 rw[show gn*Tryz.t3.size=gn*1 from rfl,<-hw2]at hmk;obtain⟨QB,hQB⟩:∃QB,QB=w1.heap.size:=⟨_,rfl⟩
 rw[<-hQB]at hmk;have k2:Kb 0 w1 w2:=by rw[hw2];exact kb_alloc _ _ _
 have hO:OwI w.heap.size w2 (.slice (some ⟨QB,0,none⟩) gn gn) (tf gn 0):=by
  have:=made_ints w1 w.heap.size gn (by omega) (by omega);rw[<-hw2,<-hQB]at this;unfold OwI;rw[tf_len zq];exact this
 have y4:w1.cell? ⟨s0,4,none⟩=some (.int .i64 gn):=by rw[<-hgn];exact cell_of hb1 rfl
 have y2:w2.cell? ⟨s0,2,none⟩=some (.int .i64 mn):=by rw[<-hmn];exact k2.cell (cell_of hb1 rfl)
 have HC:Hid (∀W,Kb 0 w1 W->W.cell? ⟨s0,2,none⟩=some (.int .i64 mn)/\W.cell? ⟨s0,3,none⟩=some (.bool d.r)):=(λW kk=>⟨by rw[<-hmn];exact kk.cell (cell_of hb1 rfl),kk.cell (cell_of hb1 rfl)⟩:∀W,_)
 obtain⟨bQ,hbQ⟩:∃bQ:Addr,bQ=⟨QB,0,none⟩:=⟨_,rfl⟩
 rw[<-hbQ]at hmk hO;have HW:Hid (w1=_/\s0=_):=⟨hw1,hs0⟩
 have HE:Hid (Kb 0 w w1/\bQ=⟨QB,0,none⟩/\w1.heap.size<=QB/\(d.r=true->(tf gn mn).set mn 3=t0 d)/\(¬d.r=true->tf gn mn=t0 d)/\mn<=gn/\(d.r=true->mn<gn)/\gn<=250):=(⟨k1,hbQ,by omega,te1,te2,te3,te4,by omega⟩:_/\_)
 have HST:Hid (OwI w.heap.size w2 (.slice (some bQ) gn gn) (tf gn 0)/\Kb 0 w1 w2):=(⟨hO,k2⟩:_/\_)
 have gI:(gn:Int)<=250:=by omega
 have mI:(mn:Int)<=(gn:Int):=by omega
 clear hw1 hs0 hb1 hz1 hw2 hQB k1 k2 hO hbQ te1 te2 te3 te4 hgn hmn g0I g1I m0I hd;go_enter Tryz.func44,Tryz.ntmps44;go_upto_region 1 with fail;rw[<-(uh HW).1,<-(uh HW).2];clear HW;go_wp2_with fail;clear y4 y2 hmk
 go_loopw [10] (λs10 wr=>∃r:Nat,s10=.int .i64 r/\r<=mn/\Hid (OwI w.heap.size wr (.slice (some bQ) gn gn) (tf gn r)/\Kb 0 w1 wr)) (λs10 _=>mn-(intOf s10).toNat)
 case atStart=>exact⟨0,rfl,Nat.zero_le _,HST⟩
 case round=>
  rename World=>wr
  obtain⟨r,rfl,hr,HX⟩:=hrel;clear HST;obtain⟨hO,kx⟩:=(uh HX)
  clear HX;obtain⟨k1,hbQ,l1,te1,te2,te3,te4,hg⟩:=(uh HE)
  rcases Nat.lt_or_ge r mn with h|h
  ·have rI:(r:Int)<(mn:Int):=by omega
   have rg:(r:Int)<(gn:Int):=by omega
   obtain⟨b',q',cq',y',e1,e2,e3,e4,e5,cy,fz,hset⟩:=own_wr hO (k:=r) (by rw[tf_len (by omega)];omega);have e6:=Value.slice.inj e1;obtain rfl:bQ=b':=by simpa using e6.1
   have fzr:=fz r;have hbl:w1.heap.size<=(bQ.add r).block:=by rw[hbQ,addr0];exact l1
   have HN:Hid (OwI w.heap.size (wr.setCell (bQ.add r) (.int .i64 1)) (.slice (some bQ) gn gn) (tf gn (r+1))/\Kb 0 w1 (wr.setCell (bQ.add r) (.int .i64 1))):=(⟨by rw[<-tf_next (by omega)];exact(hset wr (Kb.refl _ _) 1).1,kx.setCell _ (.inr hbl) _⟩:_/\_)
   clear hO kx k1 hbQ l1 te1 te2 te3 te4 hg e1 e2 e3 e4 e5 e6 hset fz hbl;go_wp2_with fail;go_roundw
   case rel=>exact⟨r+1,by go_num,by omega,HN⟩
   case measure=>simp[intOf];omega
  ·have rI:¬(r:Int)<(mn:Int):=by omega
   obtain rfl:r=mn:=by omega
   obtain⟨y2,y3⟩:=(uh HC) wr kx;obtain⟨rb,hrb⟩:∃rb,rb=d.r:=⟨_,rfl⟩
   rw[<-hrb]at y3;cases rb with
   |false=>
    have HN:Hid (OwI w.heap.size wr (.slice (some bQ) gn gn) (t0 d)/\Kb 0 w wr):=(⟨by rw[<-te2 (by rw[<-hrb];simp)];exact hO,k1.trans kx⟩:_/\_)
    clear hO kx k1 hbQ l1 te1 te2 te3 te4 hg hrb h hr;go_wp2_with fail;go_ret;exact⟨_,rfl,HN⟩
   |true=>
    have rg:(r:Int)<(gn:Int):=by have:=te4 hrb.symm;omega
    obtain⟨b',q',cq',y',e1,e2,e3,e4,e5,cy,fz,hset⟩:=own_wr hO (k:=r) (by rw[tf_len te3];exact te4 hrb.symm);have e6:=Value.slice.inj e1;obtain rfl:bQ=b':=by simpa using e6.1
    have fzr:=fz r;have hbl:w1.heap.size<=(bQ.add r).block:=by rw[hbQ,addr0];exact l1
    have HN:Hid (OwI w.heap.size (wr.setCell (bQ.add r) (.int .i64 3)) (.slice (some bQ) gn gn) (t0 d)/\Kb 0 w (wr.setCell (bQ.add r) (.int .i64 3))):=(⟨by rw[<-te1 hrb.symm];exact(hset wr (Kb.refl _ _) 3).1,k1.trans (kx.setCell _ (.inr hbl) _)⟩:_/\_)
    clear hO kx k1 hbQ l1 te1 te2 te3 te4 hg e1 e2 e3 e4 e5 e6 hset fz hbl hrb h hr;go_wp2_with fail;go_ret;exact⟨_,rfl,HN⟩
def PsA(d:Pd)(A:Addr)(np ca q:Nat)(w:World)(e:Ending)(w':World):Prop:=∃P S v5 v6 v7 v8,e=.returned (.pointer (some ⟨P,0,none⟩))/\w'.heap[P]? =some (.cells #[.string d.x,.int .i64 d.l,.int .i64 d.m,.bool d.r,.int .i64 d.g,v5,v6,v7,v8,.slice (some A) np ca,.int .i64 q,.slice (some ⟨S,0,none⟩) d.n d.n,.slice none 0 0] 55 (0,0))/\w'.heap[S]? =some (.cells (madeCells (.agg #[.bool false,.slice none 0 0,.slice none 0 0]:Value).cells (d.n*3)) 58 (0,0))/\w.heap.size<=S/\S<P/\P<w'.heap.size/\RowI 0 w v7 d.n d.N/\IsSl v5/\IsSl v6/\IsSl v8/\Kb 0 w w'
theorem im_passof{A:Addr}{np ca q:Nat}{F:Nat->Pd}(w:World)(h0:∀i,i<np->ProC 0 w (A.add (i*9)) (F i))(hq:q<np)(hnp:np<=200)(hn0:0<(F q).n)(hnn:(F q).n<=6000):
  Calls Tryz.prog 18 #[.agg #[.slice (some A) np ca],.int .i64 q] w (PsA (F q) A np ca q w):=by
 obtain⟨d,hdF⟩:∃d,d=F q:=⟨_,rfl⟩
 rw[<-hdF]at hn0 hnn⊢;obtain⟨vu,vc,vn,vd,hcel,hvu,hvc,hvn,hvd⟩:=h0 q hq;rw[<-hdF]at hcel hvu hvc hvn hvd;obtain⟨a1,c1,rfl,-⟩:=hvu;obtain⟨a2,c2,rfl,-⟩:=hvc;have hvn2:=hvn;obtain⟨pI',cn,rfl,hvn3⟩:=hvn;obtain⟨pI,rfl,-,-,-⟩:=hvn3 (by omega);obtain⟨a3,c3,rfl,-⟩:=hvd;obtain⟨b1,hb1⟩:∃b1,b1=d.u:=⟨_,rfl⟩
 obtain⟨b2,hb2⟩:∃b2,b2=d.c:=⟨_,rfl⟩
 obtain⟨b3,hb3⟩:∃b3,b3=d.d:=⟨_,rfl⟩
 rw[<-hb1,<-hb2,<-hb3]at hcel;have HY:Hid (RowI 0 w (.slice (some pI) d.n cn) d.n d.N):=hvn2;obtain⟨d0,d1,d2,d3,d4,d5,d6,d7,d8⟩:=hcel.keep zq (kb_alloc 0 w (.cells #[.slice (some A) np ca] 30));have qI:(q:Int)<(np:Int):=by omega
 have npI:(np:Int)<=200:=by omega
 have nI:(d.n:Int)<=6000:=by omega
 obtain⟨w2,hw2⟩:∃w2,w2=(w.alloc (.cells #[.slice (some A) np ca] 30)).alloc (.cells #[.string d.x,.int .i64 d.l,.int .i64 d.m,.bool d.r,.int .i64 d.g,.slice a1 b1 c1,.slice a2 b2 c2,.slice (some pI) d.n cn,.slice a3 b3 c3] 52):=⟨_,rfl⟩
 obtain⟨t0,t1,ts,k2⟩:=two_new' w _ _ _ _ w2 hw2;obtain⟨w3,hw3⟩:∃w3,w3=w2.drew:=⟨_,rfl⟩
 have hmk:=λW=>run_make (P:=Tryz.prog) W 26 58 Tryz.t58 (.agg #[.bool false,.slice none 0 0,.slice none 0 0]:Value) Tryz.underlying26 (by kernel_rfl) (by kernel_rfl) .i64 .i64 (d.n:Int) (d.n:Int) (by omega) (Int.le_refl _) (by show(56:Int)*(d.n:Int)<=_;omega) (by omega);have hmk':=λW=>hmk W;have y0:w2.cell? ⟨w.heap.size,0,none⟩=some (.slice (some A) np ca):=cell_of t0 rfl;have z0:w2.cell? ⟨w.heap.size+1,0,none⟩=some (.string d.x):=cell_of t1 rfl;have z1:w2.cell? ⟨w.heap.size+1,1,none⟩=some (.int .i64 d.l):=cell_of t1 rfl;have z2:w2.cell? ⟨w.heap.size+1,2,none⟩=some (.int .i64 d.m):=cell_of t1 rfl;have z3:w2.cell? ⟨w.heap.size+1,3,none⟩=some (.bool d.r):=cell_of t1 rfl;have z4:w2.cell? ⟨w.heap.size+1,4,none⟩=some (.int .i64 d.g):=cell_of t1 rfl;have z5:w2.cell? ⟨w.heap.size+1,5,none⟩=some (.slice a1 b1 c1):=cell_of t1 rfl;have z6:w2.cell? ⟨w.heap.size+1,6,none⟩=some (.slice a2 b2 c2):=cell_of t1 rfl;have z7:w2.cell? ⟨w.heap.size+1,7,none⟩=some (.slice (some pI) d.n cn):=cell_of t1 rfl;have z8:w2.cell? ⟨w.heap.size+1,8,none⟩=some (.slice a3 b3 c3):=cell_of t1 rfl;have y0a:∀o,(w2.alloc o).cell? ⟨w.heap.size,0,none⟩=some (.slice (some A) np ca):=λo=>(kb_alloc 0 w2 o).cell y0;have z0a:∀o,(w2.alloc o).cell? ⟨w.heap.size+1,0,none⟩=some (.string d.x):=λo=>(kb_alloc 0 w2 o).cell z0;have z1a:∀o,(w2.alloc o).cell? ⟨w.heap.size+1,1,none⟩=some (.int .i64 d.l):=λo=>(kb_alloc 0 w2 o).cell z1;have z2a:∀o,(w2.alloc o).cell? ⟨w.heap.size+1,2,none⟩=some (.int .i64 d.m):=λo=>(kb_alloc 0 w2 o).cell z2;have z3a:∀o,(w2.alloc o).cell? ⟨w.heap.size+1,3,none⟩=some (.bool d.r):=λo=>(kb_alloc 0 w2 o).cell z3;have z4a:∀o,(w2.alloc o).cell? ⟨w.heap.size+1,4,none⟩=some (.int .i64 d.g):=λo=>(kb_alloc 0 w2 o).cell z4;have z5a:∀o,(w2.alloc o).cell? ⟨w.heap.size+1,5,none⟩=some (.slice a1 b1 c1):=λo=>(kb_alloc 0 w2 o).cell z5;have z6a:∀o,(w2.alloc o).cell? ⟨w.heap.size+1,6,none⟩=some (.slice a2 b2 c2):=λo=>(kb_alloc 0 w2 o).cell z6;have z7a:∀o,(w2.alloc o).cell? ⟨w.heap.size+1,7,none⟩=some (.slice (some pI) d.n cn):=λo=>(kb_alloc 0 w2 o).cell z7;have z8a:∀o,(w2.alloc o).cell? ⟨w.heap.size+1,8,none⟩=some (.slice a3 b3 c3):=λo=>(kb_alloc 0 w2 o).cell z8;have HW:Hid (w2=_):=hw2;have HT:Hid (w2.heap.size=w.heap.size+2/\Kb 0 w w2):=⟨ts,k2⟩
 clear hw2 hw3 w3 t0 t1 ts k2 h0 hq hnp hn0 hnn hvn2 hvn3 hcel hdF hb1 hb2 hb3 hmk';rw[Int.toNat_natCast]at hmk;go_enter Tryz.func18,Tryz.ntmps18;go_upto_region 2 with fail;rw[<-(uh HW)];clear HW d0 d1 d2 d3 d4 d5 d6 d7 d8
 go_region
 obtain⟨w4,hw4⟩:∃w4,w4=(w2.alloc (.cells (madeCells #[.bool false,.slice none 0 0,.slice none 0 0] (d.n*3)) 58)).alloc (.cells #[.string d.x,.int .i64 d.l,.int .i64 d.m,.bool d.r,.int .i64 d.g,.slice a1 b1 c1,.slice a2 b2 c2,.slice (some pI) d.n cn,.slice a3 b3 c3,.slice (some A) np ca,.int .i64 q,.slice (some ⟨w2.heap.size,0,none⟩) d.n d.n,.slice none 0 0] 55):=⟨_,rfl⟩
 rw[show d.n*Tryz.t58.size=d.n*3 from rfl,<-hw4];obtain⟨t0,t1,ts,k4⟩:=two_new' w2 _ _ _ _ w4 hw4
 have HF:Hid (PsA d A np ca q w (.returned (.pointer (some ⟨w2.heap.size+1,0,none⟩))) w4.drew):=by
  obtain⟨e1,k2⟩:=(uh HT)
  exact⟨w2.heap.size+1,w2.heap.size,_,_,_,_,rfl,t1,t0,by omega,by omega,by show _<w4.heap.size;omega,HY,⟨_,_,_,rfl⟩,⟨_,_,_,rfl⟩,⟨_,_,_,rfl⟩,(k2.trans k4).drew⟩
 obtain⟨P,hP⟩:∃P,P=w2.heap.size+1:=⟨_,rfl⟩
 rw[<-hP]at HF⊢;clear hw4 t0 t1 ts k4 hP HT HY;go_wp2_with fail;go_ret;exact HF
end Go.Proofs.YtohbcpfjjimdnaaGreatDoor.Fo
namespace Go.Proofs.YtohbcpfjjimdnaaGreatDoor.Fo
open Go.ChangeShapes Go.WideShapes Go.ChangeAt Go.RowKit Go.Shelf
set_option linter.unusedVariables false
set_option maxRecDepth 100000
variable {W:World}{db j x i y:Nat}{vd v:Value}{D:List Nat}
def renS:Go.Shelf.Ren:=⟨fun|21=>80|27=>115|28=>116|35=>139|39=>147|25=>79|31=>113|32=>114|37=>138|n=>n,fun|0=>0|3=>3|4=>4|22=>53|40=>170|n=>n,λn=>n⟩
theorem laysIns:Go.Proofs.Lays2.n21 Tryz.prog renS:={
 mixed:=by kernel_rfl
 f21:=Tryz.func80.trans (congrArg some (by kernel_rfl))
 f27:=Tryz.func115.trans (congrArg some (by kernel_rfl))
 f28:=Tryz.func116.trans (congrArg some (by kernel_rfl))
 f35:=Tryz.func139.trans (congrArg some (by kernel_rfl))
 f39:=Tryz.func147.trans (congrArg some (by kernel_rfl))
 t0:=Tryz.underlying0
 a0:=Tryz.isAgg0
 z0:=Tryz.sizeOf0
 v0:=Tryz.zeroValue0
 t3:=Tryz.underlying3
 a3:=Tryz.isAgg3
 z3:=Tryz.sizeOf3
 v3:=Tryz.zeroValue3
 t4:=Tryz.underlying4
 a4:=Tryz.isAgg4
 z4:=Tryz.sizeOf4
 v4:=Tryz.zeroValue4
 t22:=Tryz.underlying53
 a22:=Tryz.isAgg53
 z22:=Tryz.sizeOf53
 v22:=Tryz.zeroValue53
 i3:=by kernel_rfl}
theorem laysSea:Go.Proofs.Lays2.n25 Tryz.prog renS:={
  mixed:=by kernel_rfl
  f25:=Tryz.func79.trans (congrArg some (by kernel_rfl))
  f31:=Tryz.func113.trans (congrArg some (by kernel_rfl))
  f32:=Tryz.func114.trans (congrArg some (by kernel_rfl))
  f37:=Tryz.func138.trans (congrArg some (by kernel_rfl))
  t0:=Tryz.underlying0
  a0:=Tryz.isAgg0
  z0:=Tryz.sizeOf0
  v0:=Tryz.zeroValue0
  t3:=Tryz.underlying3
  a3:=Tryz.isAgg3
  z3:=Tryz.sizeOf3
  v3:=Tryz.zeroValue3
  t4:=Tryz.underlying4
  a4:=Tryz.isAgg4
  z4:=Tryz.sizeOf4
  v4:=Tryz.zeroValue4
  t22:=Tryz.underlying53
  a22:=Tryz.isAgg53
  z22:=Tryz.sizeOf53
  v22:=Tryz.zeroValue53
  t40:=Tryz.underlying170
  a40:=Tryz.isAgg170
  z40:=Tryz.sizeOf170
  v40:=Tryz.zeroValue170
 }
def Dul(W:World)(db:Nat)(vd:Value)(D:List Nat):Prop:=(vd=.slice none 0 0/\D=[])\/∃off c,vd=.slice (some ⟨db,off,none⟩) D.length c/\D.length<=c/\c<=maxLen/\(∀(j x:Nat),D[j]? =some x->W.cell? ⟨db,off+j,none⟩=some (.int .i64 x))/\(∀j,j<c->(W.cell? ⟨db,off+j,none⟩).isSome=true)/\(∀j,W.frozen? ⟨db,j,none⟩=false)/\db<W.heap.size
theorem Dul.on{W':World}(h:Dul W db vd D)(hb:db<W.heap.size->W'.heap[db]? =W.heap[db]?)(hs:W.heap.size<=W'.heap.size):Dul W' db vd D:=by
 rcases h with h|⟨off,c,h1,h2,h3,h4,h5,h6,h7⟩
 ·exact .inl h
 ·have e:=hb h7;exact .inr ⟨off,c,h1,h2,h3,λj x hx=>(World.cell?_of_block e).trans (h4 j x hx),λj hj=>by rw[World.cell?_of_block e];exact h5 j hj,λj=>(World.frozen?_of_block e).trans (h6 j),by omega⟩
def ciN(D:List Nat):List Value:=D.map (λ(x:Nat)=>Value.int .i64 x)
theorem ciN_at(h:(ciN D)[j]? =some v):∃x,D[j]? =some x/\v=.int .i64 x:=by
 unfold ciN at h;rw[List.getElem?_map]at h;cases hx:D[j]? with
 |none=>rw[hx]at h;cases h
 |some x=>rw[hx]at h;exact⟨x,rfl,by simpa using h.symm⟩
theorem ciN_of(h:D[j]? =some x):(ciN D)[j]? =some (.int .i64 x):=by
 unfold ciN;rw[List.getElem?_map,h];rfl
theorem ciN_len(D:List Nat):(ciN D).length=D.length:=by unfold ciN;simp
theorem ciN_one(D:List Nat):∀v ∈ ciN D,v.oneCell'=true:=by
 intro v hv;unfold ciN at hv;obtain⟨x,_,rfl⟩:=List.mem_map.1 hv;rfl
theorem put_at(hi:i<=D.length)(h:(D.take i++x::D.drop i)[j]? =some y):(j<i/\D[j]? =some y)\/(j=i/\y=x)\/(i<j/\D[j-1]? =some y):=by
 have hl:(D.take i).length=i:=by rw[List.length_take];omega
 rcases Nat.lt_trichotomy j i with q|q|q
 ·rw[List.getElem?_append_left (by omega),List.getElem?_take,if_pos q]at h;exact .inl ⟨q,h⟩
 ·subst q;rw[List.getElem?_append_right (by omega),hl,Nat.sub_self]at h;exact .inr (.inl ⟨rfl,by simpa using h.symm⟩)
 ·rw[List.getElem?_append_right (by omega),hl,show j-i=(j-i-1)+1 by omega,List.getElem?_cons_succ,List.getElem?_drop,show i+(j-i-1)=j-1 by omega]at h;exact .inr (.inr ⟨q,h⟩)
theorem put_len2(hi:i<=D.length):(D.take i++x::D.drop i).length=D.length+1:=by
 rw[List.length_append,List.length_cons,List.length_take,List.length_drop];omega
theorem in_at{b:Nat}{vs:List Value}{o:Nat}{w:World}(h:∀j,j<vs.length->(w.cell? ⟨b,o+j,none⟩).isSome=true)(hv:vs[j]? =some v):(w.setCells b o vs).cell? ⟨b,o+j,none⟩=some v:=by
 obtain⟨hj,e⟩:=List.getElem?_eq_some_iff.1 hv;rw[World.cell?_setCells_in b vs o w h j hj,e]
theorem kx_setCells (q:Nat):∀(vs:List Value) (o:Nat) (a w:World),Kx q a w->Kx q a (w.setCells q o vs)
 | [],_,_,_,h=>h
 |v::vs,o,a,w,h=>kx_setCells q vs (o+1) a _ ⟨h.os,h.output,by simpa using h.size,λk h1 h2=>(Below.heap_setCell w ⟨q,o,none⟩ v k h2).trans (h.block k h1 h2)⟩
theorem sz_setCells (q:Nat):∀(vs:List Value) (o:Nat) (w:World),(w.setCells q o vs).heap.size=w.heap.size
 | [],_,_=>rfl
 |v::vs,o,w=>by rw[World.setCells,sz_setCells q vs];simp
def InA(W:World)(db:Nat)(vd:Value)(L:List Nat)(e:Ending)(w':World):Prop:=∃vd' db',e=.returned vd'/\Dul w' db' vd' L/\((db'=db/\Kx db W w'/\vd≠ .slice none 0 0)\/(db'=W.heap.size/\Kb 0 W w'))
theorem al_at(W:World)(A:Array Value)(h:A[j]? =some v):(W.alloc (.cells A 3)).cell? ⟨W.heap.size,j,none⟩=some v:=(cell_of_row _ _ j _ _ _ (alloc_new W A 3)).trans h
theorem al_is(W:World)(A:Array Value)(h:j<A.size):((W.alloc (.cells A 3)).cell? ⟨W.heap.size,j,none⟩).isSome=true:=by
 rw[al_at W A (Array.getElem?_eq_getElem h)];rfl
theorem al_fz(W:World)(A:Array Value)(j:Nat):(W.alloc (.cells A 3)).frozen? ⟨W.heap.size,j,none⟩=false:=frozen_of_row _ _ j _ _ (alloc_new W A 3)
theorem zc_sz(n:Nat):(Builtin.zeroCells (Value.int .i64 0).cells n).size=n:=by
 rw[size_zeroCells,show(Value.int .i64 0).cells.size=1 from rfl];omega
theorem ciN_get(hi:i=D.length)(h:(D.take i++x::D.drop i)[j]? =some y):(ciN D++[Value.int .i64 x])[j]? =some (.int .i64 y):=by
 rcases put_at (by omega) h with⟨q,e⟩|⟨rfl,rfl⟩|⟨q,e⟩
 ·rw[List.getElem?_append_left (by rw[ciN_len];omega)];exact ciN_of e
 ·rw[List.getElem?_append_right (by rw[ciN_len];omega),ciN_len,hi,Nat.sub_self];rfl
 ·have:=(List.getElem?_eq_some_iff.1 e).1;omega
theorem kb_drew(w:World):Kb 0 w w.drew:=Kb.drewN (Kb.refl _ _) 1
theorem in_grow(hD:D.length<=100000)(x i c:Nat)(hi:i=D.length)(hc1:D.length+1<=c)(hc2:c<=maxLen):InA W db vd (D.take i++x::D.drop i) (.returned (.slice (some ⟨W.heap.size,0,none⟩) (D.length+1) c)) (W.drew.alloc (.cells ((ciN D++[Value.int .i64 x]).toArray++Builtin.zeroCells (Value.int .i64 0).cells (c-(D.length+1))) 3)):=by
 have hz:((ciN D++[Value.int .i64 x]).toArray++Builtin.zeroCells (Value.int .i64 0).cells (c-(D.length+1))).size=c:=by
  rw[Array.size_append,zc_sz];simp[ciN_len];omega
 refine⟨_,W.heap.size,rfl,.inr ⟨0,c,by rw[put_len2 (by omega)],by rw[put_len2 (by omega)];omega,hc2,λj y hy=>?_,λj hj=>?_,λj=>?_,?_⟩,.inr ⟨rfl,(kb_drew W).trans (kb_alloc _ _ _)⟩⟩
 ·rw[Nat.zero_add];refine al_at W.drew _ ?_;have:=ciN_get hi hy;have hl:=(List.getElem?_eq_some_iff.1 this).1;rw[Array.getElem?_append_left (by simpa using hl)]
  simpa using this
 ·rw[Nat.zero_add];exact al_is W.drew _ (by rw[hz];exact hj)
 ·exact al_fz W.drew _ j
 ·rw[World.size_alloc];show W.heap.size<W.heap.size+1;omega
theorem im_insert(h:Dul W db vd D)(hD:D.length<=100000)(x vb:Nat)(hvb:vb≠db)(hb:W.heap[vb]? =some (.cells #[.int .i64 (x:Int)] 3 (0,0)))(i:Nat)(hi:i<=D.length):
    Calls Tryz.prog 80 #[vd,.int .i64 i,.slice (some ⟨vb,0,none⟩) 1 1] W (InA W db vd (D.take i++x::D.drop i)):=by
  have hvs:∀j v,[Value.int .i64 x][j]? =some v->W.cell? ⟨vb,0+j,none⟩=some v:=λj v hv=>by
    cases j with
    |zero=>
      have:Value.int .i64 x=v:=by simpa using hv
      subst this;exact cell_of hb rfl
    |succ j=>simp at hv
  have h1v:∀v ∈ [Value.int .i64 x],v.oneCell'=true:=λv hv=>by
    have:v=Value.int .i64 x:=by simpa using hv
    subst this;rfl
  have hmax:100001<=maxLen:=by unfold maxLen;omega
  rcases h with⟨rfl,rfl⟩|⟨off,c,rfl,h2,h3,h4,h5,h6,h7⟩
  · obtain rfl:i=0:=by simpa using hi
    refine(Any2.slices_Insert_int_end_grow laysIns none 0 0 vb 0 1 1 [] [.int .i64 x] W (by omega) (Nat.le_refl _) (by omega) (by omega) rfl rfl (λ_=>rfl) (λa e=>by cases e) hvs h1v).mono ?_;rintro e w' ⟨rfl,rfl⟩;exact in_grow (D:=[]) (by simp) x 0 _ rfl (grownCap_ge _ _ _ _) (grownCap_le_maxLen _ _ _ _ (by simp;omega))
  · have hcc : c ≤ 9223372036854775807 := by
      have:maxLen<=9223372036854775807:=by unfold maxLen;omega
      omega
    have hcs:∀j v,(ciN D)[j]? =some v->W.cell? ⟨db,off+j,none⟩=some v:=λj v hv=>by
      obtain⟨y,hy,rfl⟩:=ciN_at hv;exact h4 j y hy
    rcases Nat.lt_or_ge i D.length with hin|hin
    · rcases Nat.lt_or_ge c (D.length+1)with hr|hr
      · refine(Any2.slices_Insert_int_grow laysIns db off D.length c i vb 0 1 1 (ciN D) [.int .i64 x] W hin (by omega) h2 hr (by omega) (ciN_len D) rfl hcs hvs (ciN_one D) h1v).mono ?_;rintro e w' ⟨rfl,rfl⟩;obtain⟨c',hc'⟩:∃c',c'=grownCap W (D.length+1) c (renS.t 3):=⟨_,rfl⟩
        have hc1:D.length+1<=c':=by rw[hc'];exact grownCap_ge _ _ _ _
        have hc2:c'<=maxLen:=by rw[hc'];exact grownCap_le_maxLen _ _ _ _ (by omega)
        rw[<-hc'];obtain⟨A,hA⟩:∃A,A=(((ciN D).take i).toArray++Builtin.zeroCells (Value.int .i64 0).cells (D.length+1-i)++Builtin.zeroCells (Value.int .i64 0).cells (c'-(D.length+1))):=⟨_,rfl⟩
        have hAz:A.size=c':=by
          rw[hA,Array.size_append,Array.size_append,zc_sz,zc_sz];simp[ciN_len];omega
        have hAl:∀j y,j<i->D[j]? =some y->A[j]? =some (.int .i64 y):=λj y hj hy=>by
          have hl:((ciN D).take i).length=i:=by rw[List.length_take,ciN_len];omega
          rw[hA,Array.getElem?_append_left (by rw[Array.size_append,zc_sz];simp[ciN_len];omega),Array.getElem?_append_left (by simp[ciN_len];omega)];rw[List.getElem?_toArray,List.getElem?_take,if_pos hj];exact ciN_of hy
        rw[<-hA];have kA:Kb 0 W (((W.alloc (.cells A 3)).drew.setCells W.heap.size i [.int .i64 x]).drew.setCells W.heap.size (i+1) ((ciN D).drop i)):=kb_setCells _ (Nat.le_refl _) _ _ _ ((kb_setCells _ (Nat.le_refl _) _ _ _ ((kb_alloc 0 W _).trans (kb_drew _))).trans (kb_drew _));have is1:∀j,j<c'->((W.alloc (.cells A 3)).drew.cell? ⟨W.heap.size,j,none⟩).isSome=true:=λj hj=>al_is W A (by rw[hAz];exact hj);have is2:∀j,j<c'->(((W.alloc (.cells A 3)).drew.setCells W.heap.size i [.int .i64 x]).drew.cell? ⟨W.heap.size,j,none⟩).isSome=true:=λj hj=>World.isSome_setCells _ _ _ _ _ (is1 j hj);refine⟨_,W.heap.size,rfl,.inr ⟨0,c',by rw[put_len2 (by omega)],by rw[put_len2 (by omega)];omega,hc2,λj y hy=>?_,λj hj=>?_,λj=>?_,?_⟩,.inr ⟨rfl,kA⟩⟩
        · rw[Nat.zero_add];rcases put_at hi hy with⟨q,e⟩|⟨rfl,rfl⟩|⟨q,e⟩
          · rw[World.cell?_setCells_out _ _ _ _ _ (λ_ _=>.inl (by show j<i+1;omega))];show((W.alloc (.cells A 3)).drew.setCells W.heap.size i [.int .i64 x]).cell? _=_;rw[World.cell?_setCells_out _ _ _ _ _ (λ_ _=>.inl q)];exact al_at W A (hAl j y q e)
          · rw[World.cell?_setCells_out _ _ _ _ _ (λ_ _=>.inl (by show j<j+1;omega))]
            exact in_at (o:=j) (j:=0) (λk hk=>by
              have:k=0:=by simpa using hk
              subst this;exact is1 _ (by omega)) rfl
          · have:=in_at (b:=W.heap.size) (vs:=(ciN D).drop i) (o:=i+1) (w:=((W.alloc (.cells A 3)).drew.setCells W.heap.size i [.int .i64 x]).drew) (j:=j-1-i) (v:=.int .i64 y) (λk hk=>is2 _ (by rw[List.length_drop,ciN_len]at hk;omega)) (by rw[List.getElem?_drop,show i+(j-1-i)=j-1 by omega];exact ciN_of e);rw[show i+1+(j-1-i)=j by omega]at this;exact this
        · rw[Nat.zero_add];exact World.isSome_setCells _ _ _ _ _ (is2 j hj)
        · rw[World.frozen?_setCells];show((W.alloc (.cells A 3)).drew.setCells W.heap.size i [.int .i64 x]).frozen? _=_;rw[World.frozen?_setCells];exact al_fz W A j
        · have:=kA.size;rw[sz_setCells];show W.heap.size<((W.alloc (.cells A 3)).drew.setCells W.heap.size i [.int .i64 x]).heap.size;rw[sz_setCells];show W.heap.size<(W.alloc (.cells A 3)).heap.size;rw[World.size_alloc];omega
      · obtain⟨x0,hx0⟩:∃y,D[0]? =some y:=⟨_,List.getElem?_eq_getElem (by omega)⟩
        obtain⟨tB,kB,hsb,hkB,-⟩:=World.shape?_of_cell? (h4 0 x0 hx0);have hsa:W.shape? vb=some (3,1):=by simp[World.shape?,hb]
        refine(Any2.slices_Insert_int_shift laysIns db off D.length c i vb 0 1 1 (ciN D) [.int .i64 x] W hin (by omega) hr hcc hvb (ciN_len D) rfl hcs (λj hj=>h5 j (by omega)) (λj _=>h6 _) hvs (ciN_one D) h1v 3 tB 1 kB hsa hsb (by omega) (frozen_of hb) (frozen_of hb)).mono ?_;rintro e w' ⟨rfl,rfl⟩;have is2:∀j,j<c->((W.drew.setCells db (off+(i+1)) ((ciN D).drop i)).cell? ⟨db,off+j,none⟩).isSome=true:=λj hj=>World.isSome_setCells _ _ _ _ _ (h5 j hj);have hk:Kx db W ((W.drew.setCells db (off+(i+1)) ((ciN D).drop i)).setCells db (off+i) [.int .i64 x]):=kx_setCells _ _ _ _ _ (kx_setCells _ _ _ _ _ (Kx.of_kb (kb_drew W)));refine⟨_,db,rfl,.inr ⟨off,c,by rw[put_len2 hi],by rw[put_len2 hi];exact hr,h3,λj y hy=>?_,λj hj=>World.isSome_setCells _ _ _ _ _ (is2 j hj),λj=>?_,by have:=hk.size;omega⟩,.inl ⟨rfl,hk,by intro q;cases q⟩⟩
        · rcases put_at hi hy with⟨q,e⟩|⟨rfl,rfl⟩|⟨q,e⟩
          · rw[World.cell?_setCells_out _ _ _ _ _ (λ_ _=>.inl (by show off+j<off+i;omega)),World.cell?_setCells_out _ _ _ _ _ (λ_ _=>.inl (by show off+j<off+(i+1);omega))];exact h4 j y e
          · exact in_at (o := off + j) (j := 0) (fun k hk => by
              have:k=0:=by simpa using hk
              subst this;exact is2 _ (by omega)) rfl
          · rw[World.cell?_setCells_out _ _ _ _ _ (λ_ _=>.inr (by show off+i+1<=off+j;omega))];have hjl:=(List.getElem?_eq_some_iff.1 e).1;have:=in_at (b:=db) (vs:=(ciN D).drop i) (o:=off+(i+1)) (w:=W.drew) (j:=j-1-i) (v:=.int .i64 y) (λk hk=>by rw[List.length_drop,ciN_len]at hk;have:=h5 (i+1+k) (by omega);rw[show off+(i+1)+k=off+(i+1+k) by omega];exact this) (by rw[List.getElem?_drop,show i+(j-1-i)=j-1 by omega];exact ciN_of e);rw[show off+(i+1)+(j-1-i)=off+j by omega]at this;exact this
        · rw[World.frozen?_setCells,World.frozen?_setCells];exact h6 j
    · obtain rfl:i=D.length:=by omega
      rcases Nat.lt_or_ge c (D.length+1)with hr|hr
      · refine(Any2.slices_Insert_int_end_grow laysIns (some ⟨db,off,none⟩) D.length c vb 0 1 1 (ciN D) [.int .i64 x] W (by omega) h2 hr (by omega) (ciN_len D) rfl (λq=>by cases q) (λa e j v hv=>by cases e;rw[Addr.add_lit];exact hcs j v hv) hvs h1v).mono ?_;rintro e w' ⟨rfl,rfl⟩;exact in_grow hD x _ _ rfl (grownCap_ge _ _ _ _) (grownCap_le_maxLen _ _ _ _ (by omega))
      · refine(Any2.slices_Insert_int_end_room laysIns db off D.length c vb 0 1 1 [.int .i64 x] W (by omega) hr hcc rfl (λj hj=>by rw[show off+D.length+j=off+(D.length+j) by omega];exact h5 _ (by omega)) (λj _=>h6 _) hvs h1v).mono ?_;rintro e w' ⟨rfl,rfl⟩;have hk:Kx db W (W.setCells db (off+D.length) [.int .i64 x]):=kx_setCells _ _ _ _ _ ⟨rfl,rfl,Nat.le_refl _,λ_ _ _=>rfl⟩;refine⟨_,db,rfl,.inr ⟨off,c,by rw[put_len2 hi],by rw[put_len2 hi];exact hr,h3,λj y hy=>?_,λj hj=>World.isSome_setCells _ _ _ _ _ (h5 j hj),λj=>by rw[World.frozen?_setCells];exact h6 j,by have:=hk.size;omega⟩,.inl ⟨rfl,hk,by intro q;cases q⟩⟩;rcases put_at hi hy with⟨q,e⟩|⟨rfl,rfl⟩|⟨q,e⟩
        · rw[World.cell?_setCells_out _ _ _ _ _ (λ_ _=>.inl (by show off+j<off+D.length;omega))];exact h4 j y e
        · exact in_at (o := off + D.length) (j := 0) (fun k hk => by
              have:k=0:=by simpa using hk
              subst this;exact h5 _ (by omega)) rfl
        · have:=(List.getElem?_eq_some_iff.1 e).1;omega
theorem im_search(h:Dul W db vd D)(hD:D.length<=100000)(hs:D.Pairwise (· < ·))(x:Nat):
  Calls Tryz.prog 79 #[vd,.int .i64 x] W λe w'=>∃b,e=.returned (.tuple #[.int .i64 ((D.countP (· <x):Nat):Int),.bool b])/\Kb 0 W w':=by
 rcases h with⟨rfl,rfl⟩|⟨off,c,rfl,h2,h3,h4,h5,h6,h7⟩
 ·refine(Any.slices_BinarySearch_int_empty laysSea none 0 (x:Int) W).mono ?_;rintro e w' ⟨rfl,rfl⟩;exact⟨false,rfl,Kb.refl _ _⟩
 ·obtain⟨Z,hZ⟩:∃Z:List Int,Z=D.map (λ(y:Nat)=>(y:Int)):=⟨_,rfl⟩
  have hZl:Z.length=D.length:=by rw[hZ];simp
  have hcnt:((Z.take D.length).countP (· <(x:Int)):Nat)=D.countP (· <x):=by
   rw[List.take_of_length_le (by omega),hZ,List.countP_map]
   congr 1
   funext y
   simp
  refine(Any.slices_BinarySearch_int laysSea db off D.length c Z (x:Int) W (by omega) (by omega) (λj hj=>?_) ?_).mono ?_
  ·have hj':j<D.length:=by omega
   have:=h4 j _ (List.getElem?_eq_getElem hj');rw[this,hZ];simp[List.getD_eq_getElem?_getD,hj']
  ·rw[List.take_of_length_le (by omega),hZ,List.pairwise_map];exact hs.imp (λh=>by omega)
  ·rintro e w' ⟨rfl,q,rfl⟩;refine⟨_,by rw[hcnt],Kb.drewN (Kb.refl _ _) q⟩
