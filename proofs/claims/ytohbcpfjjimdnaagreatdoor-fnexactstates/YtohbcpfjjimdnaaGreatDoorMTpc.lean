import Derived.Test.YtohbcpfjjimdnaaGreatDoorMTou
set_option maxHeartbeats 16000000
namespace Go.Proofs.YtohbcpfjjimdnaaGreatDoor.Fo
open Go.ChangeShapes Go.WideShapes Go.ChangeAt Go.RowKit Go.Shelf
set_option linter.unusedVariables false
set_option maxRecDepth 100000
variable {W W' W1 W2:World}{db db' i:Nat}{M:Nat->Option Sv}{D:List Nat}{vd vt vg v:Value}{s:Sv}
structure PX where
 w5:World
 P:Nat
 SB:Nat
 d:Pd
 v5:Value
 v6:Value
 v7:Value
 v8:Value
 A:Addr
 np:Nat
 ca:Nat
 q:Nat
def PsB(X:PX)(vd:Value)(W:World):Prop:=W.heap[X.P]? =some (.cells #[.string X.d.x,.int .i64 X.d.l,.int .i64 X.d.m,.bool X.d.r,.int .i64 X.d.g,X.v5,X.v6,X.v7,X.v8,.slice (some X.A) X.np X.ca,.int .i64 X.q,.slice (some ⟨X.SB,0,none⟩) X.d.n X.d.n,vd] 55 (0,0))
def AvP(X:PX)(db k:Nat):Prop:=k≠X.SB/\k≠X.P/\k≠db
structure PF (X:PX) (W:World):Prop where
 os:W.os=X.w5.os
 output:W.output=X.w5.output
 size:X.w5.heap.size<=W.heap.size
 block:∀b,b<X.w5.heap.size->b≠X.SB->b≠X.P->W.heap[b]? =X.w5.heap[b]?
theorem PF.kb{X:PX}(h:PF X W)(k:Kb 0 W W'):PF X W':=⟨k.os.trans h.os,k.output.trans h.output,Nat.le_trans h.size k.size,λb hb a c=>(k.block b zq (Nat.lt_of_lt_of_le hb h.size)).trans (h.block b hb a c)⟩
theorem PF.old{X:PX}{w:World}(h:PF X W)(k:Kb 0 w X.w5)(h1:w.heap.size<=X.SB)(h2:w.heap.size<=X.P):Kb 0 w W:=
 ⟨h.os.trans k.os,h.output.trans k.output,Nat.le_trans k.size h.size,λb _ hb=>(h.block b (Nat.lt_of_lt_of_le hb k.size) (by omega) (by omega)).trans (k.block b zq hb)⟩
theorem SC.to{av bv:Nat->Prop}{SB j:Nat}{m:Option Sv}(h:SC av W SB j m)(hc:∀t,t<3->W'.cell? ⟨SB,j*3+t,none⟩=W.cell? ⟨SB,j*3+t,none⟩)(k:∀b,av b->b<W.heap.size->W'.heap[b]? =W.heap[b]?)(hab:∀b,b<W.heap.size->av b->bv b):SC bv W' SB j m:=by
 cases m with
 |none=>exact⟨(hc 0 (by omega)).trans h.1,by rw[hc 1 (by omega)];exact h.2.1,by rw[hc 2 (by omega)];exact h.2.2⟩
 |some s=>
  obtain⟨h1,vt,vg,h2,h3,h4,h5⟩:=h;exact⟨(hc 0 (by omega)).trans h1,vt,vg,(hc 1 (by omega)).trans h2,(hc 2 (by omega)).trans h3,((h4.imp (λb hl hb=>(⟨hb,hab b hl hb⟩:av b/\bv b))).on (λb hb hl=>k b hb.1 hl)).imp (λb _ hb=>hb.2),((h5.imp (λb hl hb=>(⟨hb,hab b hl hb⟩:av b/\bv b))).on (λb hb hl=>k b hb.1 hl)).imp (λb _ hb=>hb.2)⟩
structure PW (X:PX) (db:Nat) (M:Nat->Option Sv) (D:List Nat) (vd:Value) (W:World):Prop where
 pf:PF X W
 pc:PsB X vd W
 du:Dul W db vd D
 sz:∀j,W.frozen? ⟨X.SB,j,none⟩=false
 st:∀j,j<X.d.n->SC (AvP X db) W X.SB j (M j)
 ns:∀j,j<X.d.n->M j=none->W.cell? ⟨X.SB,j*3+1,none⟩=some (.slice none 0 0)/\W.cell? ⟨X.SB,j*3+2,none⟩=some (.slice none 0 0)
 sl:X.SB<X.w5.heap.size
 pl:X.P<X.w5.heap.size
 ne:X.SB≠X.P
 dn:(db=X.P/\vd=.slice none 0 0)\/(X.w5.heap.size<=db/\db<W.heap.size)
theorem PW.kb{X:PX}(h:PW X db M D vd W)(k:Kb 0 W W'):PW X db M D vd W':=by
 have hs:=h.pf.size;have h1:=h.sl;have h2:=h.pl;have ks:=k.size;have eb:∀b,b<W.heap.size->W'.heap[b]? =W.heap[b]?:=λb hb=>k.block b zq hb;refine⟨h.pf.kb k,(eb X.P (by omega)).trans h.pc,h.du.on (eb db) ks,λj=>(World.frozen?_of_block (eb X.SB (by omega))).trans (h.sz j),λj hj=>(h.st j hj).to (λt _=>World.cell?_of_block (eb X.SB (by omega))) (λb _ hl=>eb b hl) (λb _ hb=>hb),λj hj hm=>⟨(World.cell?_of_block (eb X.SB (by omega))).trans (h.ns j hj hm).1,(World.cell?_of_block (eb X.SB (by omega))).trans (h.ns j hj hm).2⟩,h1,h2,h.ne,?_⟩;rcases h.dn with q|q
 ·exact .inl q
 ·exact .inr ⟨q.1,by omega⟩
theorem PW.new{X:PX}(h:PW X db M D vd W){x:Nat}(hx:x<X.d.n)(r1:Rz (AvP X db) W vt s.1)(r2:Rg (AvP X db) W vg s.2):PW X db (upd M x s) D vd (set3 W X.SB x vt vg):=by
 have hne:=h.ne;have h1:=h.sl;have h2:=h.pl;have hdb:db≠X.SB:=by rcases h.dn with q|q<;>omega
 have eb:∀b,b≠X.SB->(set3 W X.SB x vt vg).heap[b]? =W.heap[b]?:=λb hb=>((Below.heap_setCell _ _ _ _ hb).trans (Below.heap_setCell _ _ _ _ hb)).trans (Below.heap_setCell _ _ _ _ hb);have es:(set3 W X.SB x vt vg).heap.size=W.heap.size:=by unfold set3;simp
 have hex:(∃u,W.cell? ⟨X.SB,x*3,none⟩=some u)/\(∃u,W.cell? ⟨X.SB,x*3+1,none⟩=some u)/\∃u,W.cell? ⟨X.SB,x*3+2,none⟩=some u:=by
  have:=h.st x hx;cases hm:M x with
  |none=>rw[hm]at this;exact⟨⟨_,this.1⟩,⟨_,this.2.1⟩,⟨_,this.2.2⟩⟩
  |some s'=>
   rw[hm]at this;obtain⟨h1,vt',vg',h2,h3,_⟩:=this;exact⟨⟨_,h1⟩,⟨_,h2⟩,⟨_,h3⟩⟩
 obtain⟨⟨u0,e0⟩,⟨u1,e1⟩,⟨u2,e2⟩⟩:=hex;have far:∀j,j≠x*3->j≠x*3+1->j≠x*3+2->(set3 W X.SB x vt vg).cell? ⟨X.SB,j,none⟩=W.cell? ⟨X.SB,j,none⟩:=λj a b c=>by unfold set3;rw[set_ne _ _ _ _ _ c,set_ne _ _ _ _ _ b,set_ne _ _ _ _ _ a]
 refine⟨⟨h.pf.os,h.pf.output,by rw[es];exact h.pf.size,λb hb a c=>(eb b a).trans (h.pf.block b hb a c)⟩,(eb X.P (λe=>hne e.symm)).trans h.pc,h.du.on (λ_=>eb db hdb) (by omega),λj=>by unfold set3;rw[set_fz,set_fz,set_fz];exact h.sz j,λj hj=>?_,λj hj hm=>?_,h1,h2,hne,by rw[es];exact h.dn⟩
 rotate_left
 ·unfold upd at hm;by_cases e:j=x
  ·rw[if_pos e]at hm;cases hm
  ·rw[if_neg e]at hm;exact⟨(far _ (by omega) (by omega) (by omega)).trans (h.ns j hj hm).1,(far _ (by omega) (by omega) (by omega)).trans (h.ns j hj hm).2⟩
 unfold upd;by_cases e:j=x
 ·subst e;rw[if_pos rfl];refine⟨?_,vt,vg,?_,?_,r1.on (λb hb _=>eb b hb.1),r2.on (λb hb _=>eb b hb.1)⟩
  ·unfold set3;rw[set_ne _ _ _ _ _ (by omega),set_ne _ _ _ _ _ (by omega)];exact set_eq _ _ _ _ _ e0
  ·unfold set3;rw[set_ne _ _ _ _ _ (by omega)];exact set_eq _ _ _ _ _ (by rw[set_ne _ _ _ _ _ (by omega)];exact e1)
  ·unfold set3;exact set_eq _ _ _ _ _ (by rw[set_ne _ _ _ _ _ (by omega),set_ne _ _ _ _ _ (by omega)];exact e2)
 ·rw[if_neg e];exact(h.st j hj).to (λt ht=>far _ (by omega) (by omega) (by omega)) (λb hb _=>eb b hb.1) (λb _ hb=>hb)
theorem PW.due{X:PX}{D':List Nat}{vd':Value}(h:PW X db M D vd W)(hd:Dul W1 db' vd' D')(hk:(db'=db/\Kx db W W1/\vd≠ .slice none 0 0)\/(db'=W.heap.size/\Kb 0 W W1))(hdb:db'<W1.heap.size):PW X db' M D' vd' (W1.setCell ⟨X.P,12,none⟩ vd'):=by
 have hne:=h.ne;have h1:=h.sl;have h2:=h.pl;have hs:=h.pf.size
 have hdn:X.w5.heap.size<=db':=by
  rcases hk with⟨rfl,_,q⟩|⟨rfl,_⟩
  ·rcases h.dn with z|z
   ·exact absurd z.2 q
   ·exact z.1
  ·exact hs
 have kos:W1.os=W.os/\W1.output=W.output/\W.heap.size<=W1.heap.size/\∀b,b<W.heap.size->b≠db->W1.heap[b]? =W.heap[b]?:=by
  rcases hk with⟨_,k,_⟩|⟨_,k⟩
  ·exact⟨k.os,k.output,k.size,k.block⟩
  ·exact⟨k.os,k.output,k.size,λb hb _=>k.block b zq hb⟩
 obtain⟨ko,ku,ks,kb⟩:=kos
 have bold:∀b,b<X.w5.heap.size->b≠X.P->(W1.setCell ⟨X.P,12,none⟩ vd').heap[b]? =W.heap[b]?:=λb hb hp=>(Below.heap_setCell _ _ _ _ hp).trans (by
  rcases hk with⟨e,k,q⟩|⟨_,k⟩
  ·exact k.block b (by omega) (by omega)
  ·exact k.block b zq (by omega))
 have hP1:PsB X vd W1:=by
  rcases hk with⟨e,k,q⟩|⟨_,k⟩
  ·exact(k.block X.P (by omega) (by omega)).trans h.pc
  ·exact(k.block X.P zq (by omega)).trans h.pc
 have es:(W1.setCell ⟨X.P,12,none⟩ vd').heap.size=W1.heap.size:=by simp
 refine⟨⟨ko.trans h.pf.os,ku.trans h.pf.output,by rw[es];omega,λb hb a c=>(bold b hb c).trans (h.pf.block b hb a c)⟩,heap_setCell_same W1 X.P 12 _ _ vd' hP1,hd.on (λ_=>Below.heap_setCell _ _ _ _ (by show db'≠X.P;omega)) (by omega),λj=>(World.frozen?_of_block (bold X.SB h1 hne)).trans (h.sz j),λj hj=>?_,λj hj hm=>⟨(World.cell?_of_block (bold X.SB h1 hne)).trans (h.ns j hj hm).1,(World.cell?_of_block (bold X.SB h1 hne)).trans (h.ns j hj hm).2⟩,h1,h2,hne,.inr ⟨hdn,by rw[es];exact hdb⟩⟩;refine(h.st j hj).to (λt _=>World.cell?_of_block (bold X.SB h1 hne)) (λb hb hl=>(Below.heap_setCell _ _ _ _ hb.2.1).trans (kb b hl hb.2.2)) (λb hl hb=>⟨hb.1,hb.2.1,?_⟩);rcases hk with⟨e,_,_⟩|⟨e,_⟩
 ·rw[e];exact hb.2.2
 ·omega
structure KR (X:PX) (db db':Nat) (W W':World):Prop where
 size:W.heap.size<=W'.heap.size
 block:∀b,AvP X db b->b<W.heap.size->W'.heap[b]? =W.heap[b]?
 db:db'=db\/W.heap.size<=db'
theorem KR.kb{X:PX}(h:KR X db db' W W')(k:Kb 0 W' W2):KR X db db' W W2:=⟨Nat.le_trans h.size k.size,λb a hb=>(k.block b zq (Nat.lt_of_lt_of_le hb h.size)).trans (h.block b a hb),h.db⟩
theorem KR.of{X:PX}(k:Kb 0 W W'):KR X db db W W':=⟨k.size,λb _ hb=>k.block b zq hb,.inl rfl⟩
theorem KR.av{X:PX}(h:KR X db db' W W'){b:Nat}(hb:b<W.heap.size)(a:AvP X db b):AvP X db' b:=by
 refine⟨a.1,a.2.1,?_⟩;rcases h.db with e|e
 ·rw[e];exact a.2.2
 ·omega
theorem KR.trans{X:PX}{db1 db2:Nat}(h:KR X db db1 W W1)(k:KR X db1 db2 W1 W2):KR X db db2 W W2:=by
 refine⟨Nat.le_trans h.size k.size,λb a hb=>(k.block b (h.av hb a) (Nat.lt_of_lt_of_le hb h.size)).trans (h.block b a hb),?_⟩;rcases k.db with e|e
 ·rw[e];exact h.db
 ·exact .inr (Nat.le_trans h.size e)
theorem Rz.kr{X:PX}{T:List Int}(h:Rz (AvP X db) W v T)(k:KR X db db' W W'):Rz (AvP X db') W' v T:=
 ((h.imp (λb hl hb=>(⟨hb,k.av hl hb⟩:AvP X db b/\AvP X db' b))).on (λb hb hl=>k.block b hb.1 hl)).imp (λb _ hb=>hb.2)
theorem Rg.kr{X:PX}{G:List Gv}(h:Rg (AvP X db) W v G)(k:KR X db db' W W'):Rg (AvP X db') W' v G:=
 ((h.imp (λb hl hb=>(⟨hb,k.av hl hb⟩:AvP X db b/\AvP X db' b))).on (λb hb hl=>k.block b hb.1 hl)).imp (λb _ hb=>hb.2)
def PG(X:PX)(W:World):Prop:=PF X W/\∃vd,PsB X vd W
theorem PW.pg{X:PX}(h:PW X db M D vd W):PG X W:=⟨h.pf,vd,h.pc⟩
def RcA(X:PX)(db:Nat)(M:Nat->Option Sv)(D:List Nat)(i:Nat)(s:Sv)(w:World)(e:Ending)(w':World):Prop:=(e=.returned (.bool true)/\∃db' vd' M' D',adv (.ok M D) (i,s)=.ok M' D'/\PW X db' M' D' vd' w'/\KR X db db' w w')\/(e=.returned (.bool false)/\adv (.ok M D) (i,s)=.bad 13 i/\PG X w')
theorem im_reach_some{X:PX}(w:World)(h:PW X db M D vd w)(hi:i<X.d.n)(hn:X.d.n<=6000){s0:Sv}(r1:Rz (AvP X db) w vt s.1)(r2:Rg (AvP X db) w vg s.2)(hs:s.1.length<=1000/\s.2.length<=1000)(hs0:s0.1.length<=1000/\s0.2.length<=1000)(hm:M i=some s0):
  Calls Tryz.prog 43 #[.pointer (some ⟨X.P,0,none⟩),.int .i64 i,.agg #[.bool true,vt,vg]] w (RcA X db M D i s w):=by
 have hst:=h.st i hi;rw[hm]at hst;obtain⟨q0,vt0,vg0,q1,q2,t1,t2⟩:=hst;have hP:w.heap[X.P]? =_:=h.pc;have c11:w.cell? ⟨X.P,11,none⟩=some (.slice (some ⟨X.SB,0,none⟩) X.d.n X.d.n):=cell_of hP rfl;have kA:=λo=>kb_alloc 0 w o;have q0a:∀o,(w.alloc o).cell? ⟨X.SB,i*3,none⟩=some (.bool true):=λo=>(kA o).cell q0;have q1a:∀o,(w.alloc o).cell? ⟨X.SB,i*3+1,none⟩=some vt0:=λo=>(kA o).cell q1;have q2a:∀o,(w.alloc o).cell? ⟨X.SB,i*3+2,none⟩=some vg0:=λo=>(kA o).cell q2;have c11a:∀o,(w.alloc o).cell? ⟨X.P,11,none⟩=some (.slice (some ⟨X.SB,0,none⟩) X.d.n X.d.n):=λo=>(kA o).cell c11;have iI:(i:Int)<(X.d.n:Int):=by omega
 have nI:(X.d.n:Int)<=6000:=by omega
 have HEI:Hid (∀W,Kb 0 w W->Calls Tryz.prog 77 #[vt0,vt] W λe w'=>e=.returned (.bool (dc (s0.1=s.1)))/\Kb 0 W w'):=(λW k=>im_eqi W (t1.kb k) (r1.kb k) ⟨hs0.1,hs.1⟩:∀W,_)
 have HEG:Hid (∀W,Kb 0 w W->Calls Tryz.prog 78 #[vg0,vg] W λe w'=>e=.returned (.bool (dc (s0.2=s.2)))/\Kb 0 W w'):=(λW k=>im_eqg W (t2.kb k) (r2.kb k) ⟨hs0.2,hs.2⟩:∀W,_)
 have HYS:Hid (∀W,Kb 0 w W->s0=s->RcA X db M D i s w (.returned (.bool true)) W):=(λW k e=>.inl ⟨rfl,db,vd,M,D,by unfold adv;dsimp only;rw[hm];dsimp only;rw[if_pos e],h.kb k,KR.of k⟩:∀W,_)
 have HNO:Hid (∀W,Kb 0 w W->s0≠s->RcA X db M D i s w (.returned (.bool false)) W):=(λW k e=>.inr ⟨rfl,by unfold adv;dsimp only;rw[hm];dsimp only;rw[if_neg e],(h.kb k).pg⟩:∀W,_)
 obtain⟨w3,hw3⟩:∃w3,w3=(w.alloc (.cells #[.bool true,vt,vg] 58)).alloc (.cells #[.bool true,vt0,vg0] 58):=⟨_,rfl⟩
 obtain⟨b0,b1,bs,k3⟩:=two_new' w _ _ _ _ w3 hw3;have HW3:Hid (w3=(w.alloc (.cells #[.bool true,vt,vg] 58)).alloc (.cells #[.bool true,vt0,vg0] 58)):=hw3;have HB:Hid (∀W,Kb 0 w3 W->W.cell? ⟨w.heap.size,2,none⟩=some vg/\W.cell? ⟨w.heap.size+1,2,none⟩=some vg0/\Kb 0 w W):=(λW k=>⟨k.cell (cell_of b0 rfl),k.cell (cell_of b1 rfl),k3.trans k⟩:∀W,_)
 have e01:w3.cell? ⟨w.heap.size,1,none⟩=some vt:=cell_of b0 rfl;have e10:w3.cell? ⟨w.heap.size+1,0,none⟩=some (.bool true):=cell_of b1 rfl;have e11:w3.cell? ⟨w.heap.size+1,1,none⟩=some vt0:=cell_of b1 rfl;have HK3:Hid (Kb 0 w w3):=k3;obtain⟨p1,z1,rfl,-,-⟩:=r1;obtain⟨p2,z2,rfl,-,-⟩:=r2;obtain⟨p3,z3,rfl,-,-⟩:=t1;obtain⟨p4,z4,rfl,-,-⟩:=t2;clear h hm hi hn hs hs0 hP kA hw3 b0 b1 bs k3;go_enter Tryz.func43,Tryz.ntmps43;go_upto_region 2 with fail;rw[<-(uh HW3)];clear HW3 q0 q1 q2 c11 q0a q1a q2a c11a;go_wp2_with fail;refine((uh HEI) w3 HK3).mono ?_;rintro e w4 ⟨rfl,k4⟩;obtain⟨f02,f12,kw4⟩:=(uh HB) w4 k4;by_cases h1:s0.1=s.1
 ·rw[dc_t h1];have HG4:=(uh HEG) w4 kw4;by_cases h2:s0.2=s.2
  ·rw[dc_t h2]at HG4;have HZ:Hid (∀W,Kb 0 w W->RcA X db M D i s w (.returned (.bool true)) W):=(λW k=>(uh HYS) W k (Prod.ext h1 h2):∀W,_)
   have HK4:Hid (Kb 0 w w4):=kw4;clear HEI HEG HYS HNO HB HK3 h1 h2 kw4 k4 e01 e10 e11;go_wp2_with fail;refine HG4.mono ?_;rintro e w5 ⟨rfl,k5⟩;have HZ5:=(uh HZ) w5 ((uh HK4).trans k5);clear HZ HK4 k5 HG4;go_wp2_with fail;go_ret;exact HZ5
  ·rw[dc_f h2]at HG4;have HZ:Hid (∀W,Kb 0 w W->RcA X db M D i s w (.returned (.bool false)) W):=(λW k=>(uh HNO) W k (λe=>h2 (by rw[e])):∀W,_)
   have HK4:Hid (Kb 0 w w4):=kw4;clear HEI HEG HYS HNO HB HK3 h1 h2 kw4 k4 e01 e10 e11;go_wp2_with fail;refine HG4.mono ?_;rintro e w5 ⟨rfl,k5⟩;have HZ5:=(uh HZ) w5 ((uh HK4).trans k5);clear HZ HK4 k5 HG4;go_wp2_with fail;go_ret;exact HZ5
 ·rw[dc_f h1];have HZ4:=(uh HNO) w4 kw4 (λe=>h1 (by rw[e]));clear HEI HEG HYS HNO HB HK3 h1 kw4 k4 e01 e10 e11;go_wp2_with fail;go_ret;exact HZ4
theorem KR.set3 {X:PX} {db:Nat} {W:World} {x:Nat} {vt vg:Value}:KR X db db W (set3 W X.SB x vt vg):=by
 have eb:∀b,b≠X.SB->(Fo.set3 W X.SB x vt vg).heap[b]? =W.heap[b]?:=λb hb=>((Below.heap_setCell _ _ _ _ hb).trans (Below.heap_setCell _ _ _ _ hb)).trans (Below.heap_setCell _ _ _ _ hb);exact⟨by unfold Fo.set3;simp,λb a _=>eb b a.1,.inl rfl⟩
theorem ins_pc{X:PX}(h:PW X db M D vd W)(hk:(db'=db/\Kx db W W1/\vd≠ .slice none 0 0)\/(db'=W.heap.size/\Kb 0 W W1)):PsB X vd W1:=by
 have h2:=h.pl;have hs:=h.pf.size;rcases hk with⟨_,k,q⟩|⟨_,k⟩
 ·refine(k.block X.P (by omega) ?_).trans h.pc;rcases h.dn with z|z
  ·exact absurd z.2 q
  ·omega
 ·exact(k.block X.P zq (by omega)).trans h.pc
theorem ins_kr{X:PX}(hk:(db'=db/\Kx db W W1/\vd≠ .slice none 0 0)\/(db'=W.heap.size/\Kb 0 W W1)):KR X db db' W (W1.setCell ⟨X.P,12,none⟩ v):=by
 rcases hk with⟨e,k,_⟩|⟨e,k⟩
 ·exact⟨by simpa using k.size,λb a hb=>(Below.heap_setCell _ _ _ _ a.2.1).trans (k.block b hb a.2.2),.inl e⟩
 ·exact⟨by simpa using k.size,λb a hb=>(Below.heap_setCell _ _ _ _ a.2.1).trans (k.block b zq hb),.inr (by omega)⟩
theorem im_reach_none{X:PX}(w:World)(h:PW X db M D vd w)(hi:i<X.d.n)(hn:X.d.n<=6000)(r1:Rz (AvP X db) w vt s.1)(r2:Rg (AvP X db) w vg s.2)(hD:D.Pairwise (· < ·))(hDn:D.length<=6000)(hm:M i=none):
  Calls Tryz.prog 43 #[.pointer (some ⟨X.P,0,none⟩),.int .i64 i,.agg #[.bool true,vt,vg]] w (RcA X db M D i s w):=by
 have hst:=h.st i hi;rw[hm]at hst;have q0:=hst.1;obtain⟨q1,q2⟩:=h.ns i hi hm;have hP:w.heap[X.P]? =_:=h.pc;have c11:w.cell? ⟨X.P,11,none⟩=some (.slice (some ⟨X.SB,0,none⟩) X.d.n X.d.n):=cell_of hP rfl;have kA:=λo=>kb_alloc 0 w o;have q0a:∀o,(w.alloc o).cell? ⟨X.SB,i*3,none⟩=some (.bool false):=λo=>(kA o).cell q0;have q1a:∀o,(w.alloc o).cell? ⟨X.SB,i*3+1,none⟩=some (.slice none 0 0):=λo=>(kA o).cell q1;have q2a:∀o,(w.alloc o).cell? ⟨X.SB,i*3+2,none⟩=some (.slice none 0 0):=λo=>(kA o).cell q2;have c11a:∀o,(w.alloc o).cell? ⟨X.P,11,none⟩=some (.slice (some ⟨X.SB,0,none⟩) X.d.n X.d.n):=λo=>(kA o).cell c11;have iI:(i:Int)<(X.d.n:Int):=by omega
 have nI:(X.d.n:Int)<=6000:=by omega
 obtain⟨w3,hw3⟩:∃w3,w3=(w.alloc (.cells #[.bool true,vt,vg] 58)).alloc (.cells #[.bool false,.slice none 0 0,.slice none 0 0] 58):=⟨_,rfl⟩
 obtain⟨b0,b1,bs,k3⟩:=two_new' w _ _ _ _ w3 hw3;have HW3:Hid (w3=(w.alloc (.cells #[.bool true,vt,vg] 58)).alloc (.cells #[.bool false,.slice none 0 0,.slice none 0 0] 58)):=hw3;have e00:w3.cell? ⟨w.heap.size,0,none⟩=some (.bool true):=cell_of b0 rfl;have e01:w3.cell? ⟨w.heap.size,1,none⟩=some vt:=cell_of b0 rfl;have e02:w3.cell? ⟨w.heap.size,2,none⟩=some vg:=cell_of b0 rfl;have e10:w3.cell? ⟨w.heap.size+1,0,none⟩=some (.bool false):=cell_of b1 rfl;have p3:=h.kb k3;have y0:=k3.cell q0;have y1:=k3.cell q1;have y2:=k3.cell q2;have y11:=k3.cell c11;have yf:∀j,w3.frozen? ⟨X.SB,j,none⟩=false:=p3.sz;have y1':∀a,(w3.setCell ⟨X.SB,i*3,none⟩ a).cell? ⟨X.SB,i*3+1,none⟩=some (.slice none 0 0):=λa=>(set_ne _ X.SB _ _ _ (by omega)).trans y1;have y2':∀a b,((w3.setCell ⟨X.SB,i*3,none⟩ a).setCell ⟨X.SB,i*3+1,none⟩ b).cell? ⟨X.SB,i*3+2,none⟩=some (.slice none 0 0):=λa b=>(set_ne _ X.SB _ _ _ (by omega)).trans ((set_ne _ X.SB _ _ _ (by omega)).trans y2);have yf1:∀a,(w3.setCell ⟨X.SB,i*3,none⟩ a).frozen? ⟨X.SB,i*3+1,none⟩=false:=λa=>(set_fz _ X.SB _ _ _).trans (yf _);have yf2:∀a b,((w3.setCell ⟨X.SB,i*3,none⟩ a).setCell ⟨X.SB,i*3+1,none⟩ b).frozen? ⟨X.SB,i*3+2,none⟩=false:=λa b=>(set_fz _ X.SB _ _ _).trans ((set_fz _ X.SB _ _ _).trans (yf _));have p4:=p3.new (x:=i) (s:=s) hi (r1.kb k3) (r2.kb k3);have HP4:Hid (PW X db (upd M i s) D vd (set3 w3 X.SB i vt vg)/\KR X db db w (set3 w3 X.SB i vt vg)):=(⟨p4,(KR.of k3).trans KR.set3⟩:_/\_)
 have HX:Hid (D.Pairwise (· < ·)/\D.length<=6000/\M i=none):=(⟨hD,hDn,hm⟩:_/\_)
 obtain⟨p1,z1,rfl,-,-⟩:=r1;obtain⟨p2,z2,rfl,-,-⟩:=r2;clear h hm hi hn hP kA hw3 b0 b1 bs k3 p3 p4 hD hDn;go_enter Tryz.func43,Tryz.ntmps43;go_upto_region 2 with fail;rw[<-(uh HW3)];clear HW3 q0 q1 q2 c11 q0a q1a q2a c11a;go_upto_region 4 with fail
 go_region
 obtain⟨w5,hw5⟩:∃w5,w5=(((w3.setCell ⟨X.SB,i*3,none⟩ (.bool true)).setCell ⟨X.SB,i*3+1,none⟩ (.slice p1 s.1.length z1)).setCell ⟨X.SB,i*3+2,none⟩ (.slice p2 s.2.length z2)).drew:=⟨_,rfl⟩
 rw[<-hw5];obtain⟨p4,kr4⟩:=(uh HP4)
 obtain⟨hD,hDn,hm⟩:=(uh HX)
 have k45:Kb 0 (set3 w3 X.SB i (.slice p1 s.1.length z1) (.slice p2 s.2.length z2)) w5:=by rw[hw5];exact kb_drew _
 have p5:=p4.kb k45;have kr5:=kr4.kb k45;have hP5:w5.heap[X.P]? =_:=p5.pc;have c12:w5.cell? ⟨X.P,12,none⟩=some vd:=cell_of hP5 rfl;have HS:=im_search p5.du (by omega) hD i;have HY:Hid (PW X db (upd M i s) D vd w5/\KR X db db w w5/\D.length<=6000/\M i=none):=(⟨p5,kr5,hDn,hm⟩:_/\_)
 obtain⟨ct,hct⟩:∃ct,ct=D.countP (· <i):=⟨_,rfl⟩
 have hcl:ct<=D.length:=by rw[hct];exact List.countP_le_length
 rw[<-hct]at HS;have HCT:Hid (ct=D.countP (· <i)/\ct<=D.length):=(⟨hct,hcl⟩:_/\_)
 clear hw5 p4 kr4 hD hDn hm k45 p5 kr5 hP5 HP4 HX e00 e01 e02 e10 y0 y1 y2 y11 yf y1' y2' yf1 yf2 hct hcl;obtain⟨vd0,hvd0⟩:∃vd0,vd0=vd:=⟨_,rfl⟩
 go_wp2_with fail;refine HS.mono ?_;rintro e w6 ⟨bb,rfl,k6⟩;obtain⟨p5,kr5,hDn,hm⟩:=(uh HY)
 obtain⟨hct,hcl⟩:=(uh HCT)
 have c126:=k6.cell c12;have c126a:∀o,(w6.alloc o).cell? ⟨X.P,12,none⟩=some vd:=λo=>(kb_alloc 0 w6 o).cell c126;obtain⟨w7,hw7⟩:∃w7,w7=w6.alloc (.cells #[.int .i64 i] 3):=⟨_,rfl⟩
 have k7:Kb 0 w6 w7:=by rw[hw7];exact kb_alloc _ _ _
 have b7:w7.heap[w6.heap.size]? =some (.cells #[.int .i64 i] 3 (0,0)):=by rw[hw7];exact alloc_new _ _ _
 have p6:=p5.kb k6;have p7:=p6.kb k7;have kr7:=(kr5.kb k6).kb k7
 have hvb:w6.heap.size≠db:=by
  have:=p6.pl;have:=p6.pf.size;rcases p6.dn with z|z<;>omega
 have HI:=im_insert p7.du (by omega) i w6.heap.size hvb b7 ct hcl
 have HZ:Hid (∀vd' db' w8,Dul w8 db' vd' (D.take ct++i::D.drop ct)->((db'=db/\Kx db w7 w8/\vd≠ .slice none 0 0)\/(db'=w7.heap.size/\Kb 0 w7 w8))->RcA X db M D i s w (.returned (.bool true)) (w8.setCell ⟨X.P,12,none⟩ vd')/\w8.cell? ⟨X.P,12,none⟩=some vd/\w8.frozen? ⟨X.P,12,none⟩=false/\∃pd nd cd,vd'=.slice pd nd cd):=(λvd' db' w8 hd hk=>by
  have hP8:w8.heap[X.P]? =_:=ins_pc p7 hk
  have hsl:db'<w8.heap.size/\∃pd nd cd,vd'=.slice pd nd cd:=by
   rcases hd with⟨-,q⟩|⟨off,c,e,-,-,-,-,-,h7⟩
   ·simp at q
   ·exact⟨h7,_,_,_,e⟩
  refine⟨.inl ⟨rfl,db',vd',upd M i s,insD D i,?_,p7.due (by unfold insD;rw[<-hct];exact hd) hk hsl.1,kr7.trans (ins_kr hk)⟩,cell_of hP8 rfl,frozen_of hP8,hsl.2⟩;unfold adv;dsimp only
  rw[hm]:∀vd',_)
 have HW7:Hid (w7=w6.alloc (.cells #[.int .i64 i] 3)):=hw7;clear p5 kr5 hDn hm hct hcl c12 HS HY HCT k6 k7 hw7 b7 p6 p7 kr7 hvb;go_wp2_with fail;rw[<-(uh HW7)];refine HI.mono ?_;rintro e w8 ⟨vd',db',rfl,hd,hk⟩;obtain⟨hz,c128,f128,pd,nd,cd,rfl⟩:=(uh HZ) vd' db' w8 hd hk;have HZ8:Hid (RcA X db M D i s w (.returned (.bool true)) (w8.setCell ⟨X.P,12,none⟩ (.slice pd nd cd))):=hz;clear HI HZ hd hk hz c126 c126a HW7;go_wp2_with fail;go_ret;exact HZ8
theorem im_reach{X:PX}(w:World)(h:PW X db M D vd w)(hi:i<X.d.n)(hn:X.d.n<=6000)(r1:Rz (AvP X db) w vt s.1)(r2:Rg (AvP X db) w vg s.2)(hD:D.Pairwise (· < ·))(hDn:D.length<=6000)(hs:s.1.length<=1000/\s.2.length<=1000)(hs0:∀s0,M i=some s0->s0.1.length<=1000/\s0.2.length<=1000):
  Calls Tryz.prog 43 #[.pointer (some ⟨X.P,0,none⟩),.int .i64 i,.agg #[.bool true,vt,vg]] w (RcA X db M D i s w):=by
 cases hm:M i with
 |none=>exact im_reach_none w h hi hn r1 r2 hD hDn hm
 |some s0=>exact im_reach_some w h hi hn r1 r2 hs (hs0 s0 hm) hm
