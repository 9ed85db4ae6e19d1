import Derived.Test.YtohbcpfjjimdnaaGreatDoorMTpf0
set_option maxHeartbeats 32000000
namespace Go.Proofs.YtohbcpfjjimdnaaGreatDoor.Fo
open Go.ChangeShapes Go.WideShapes Go.ChangeAt Go.RowKit Go.Shelf
set_option linter.unusedVariables false
set_option maxRecDepth 100000
theorem im_go{X:PX}{F:Nat->Pd}{w0:World}{db:Nat}{M:Nat->Option Sv}{D:List Nat}{vd:Value}(w:World)(hX:PCx X F w0)(h:PW X db M D vd w)(hI:Inv X.d M D){i:Nat}{s:Sv}(hi:i<X.d.n)(hm:M i=some s):
  Calls Tryz.prog 45 #[.pointer (some ⟨X.P,0,none⟩),.int .i64 i] w (GoA X F M D i s):=by
 have hst:=h.st i hi;rw[hm]at hst;obtain⟨q0,vt,vg,q1,q2,r1,r2⟩:=hst;have hP:w.heap[X.P]? =_:=h.pc;obtain⟨hsl,hsg⟩:=(hI.st i s hm).2;have hok:=hX.I i hi;have hd:=hX.hd;have nn:=hX.nn;have kw0:Kb 0 w0 w:=h.pf.old hX.k hX.hS hX.hP;obtain⟨pI,cn,hv7,hrow⟩:=hX.row;obtain⟨B7,rfl,hcn,-,hrow⟩:=hrow (by omega);have c7:w.cell? ⟨X.P,7,none⟩=some (.slice (some B7) X.d.n cn):=by rw[<-hv7];exact cell_of hP rfl
 have c11:w.cell? ⟨X.P,11,none⟩=some (.slice (some ⟨X.SB,0,none⟩) X.d.n X.d.n):=cell_of hP rfl;obtain⟨z0,z1,z2,z3,z4⟩:=(hrow i hi).keep zq kw0;have iI:(i:Int)<(X.d.n:Int):=by omega
 have nI:(X.d.n:Int)<=6000:=by omega
 obtain⟨a,ha⟩:∃a,a=X.d.N i:=⟨_,rfl⟩
 rw[<-ha]at z0 z1 z2 z3 z4;obtain⟨p1,t1,rfl,-,-⟩:=id r1;obtain⟨p2,t2,rfl,-,-⟩:=id r2;obtain⟨w1,hw1⟩:∃w1,w1=w.alloc (.cells #[.int .i64 a.o,.int .i64 a.a,.int .i64 a.b,.int .i64 a.c,.int .i64 a.d] 79):=⟨_,rfl⟩
 have k1:Kb 0 w w1:=by rw[hw1];exact kb_alloc _ _ _
 have b1:InB w.heap.size a w1:=by rw[hw1];exact alloc_new _ _ _
 have HCL:Hid (∀W,Kb 0 w W->Calls Tryz.prog 20 #[.slice p1 s.1.length t1] W λe w'=>∃v,e=.returned v/\OwI W.heap.size w' v s.1/\Kb 0 W w'):=(λW k=>im_clone W (r1.kb k) (by have:=hd.2.2.1.2;omega):∀W,_)
 have HC:Hid (∀W,Kb 0 w1 W->W.cell? ⟨w.heap.size,0,none⟩=some (.int .i64 a.o)/\W.cell? ⟨w.heap.size,1,none⟩=some (.int .i64 a.a)/\W.cell? ⟨w.heap.size,2,none⟩=some (.int .i64 a.b)/\W.cell? ⟨w.heap.size,3,none⟩=some (.int .i64 a.c)/\W.cell? ⟨w.heap.size,4,none⟩=some (.int .i64 a.d)/\W.cell? ⟨X.P,11,none⟩=some (.slice (some ⟨X.SB,0,none⟩) X.d.n X.d.n)/\W.cell? ⟨X.SB,i*3,none⟩=some (.bool true)/\W.cell? ⟨X.SB,i*3+1,none⟩=some (.slice p1 s.1.length t1)/\W.cell? ⟨X.SB,i*3+2,none⟩=some (.slice p2 s.2.length t2)):=(λW k=>⟨k.cell (cell_of (show w1.heap[_]? =_ from b1) rfl),k.cell (cell_of (show w1.heap[_]? =_ from b1) rfl),k.cell (cell_of (show w1.heap[_]? =_ from b1) rfl),k.cell (cell_of (show w1.heap[_]? =_ from b1) rfl),k.cell (cell_of (show w1.heap[_]? =_ from b1) rfl),(k1.trans k).cell c11,(k1.trans k).cell q0,(k1.trans k).cell q1,(k1.trans k).cell q2⟩:∀W,_)
 obtain⟨x0,x1,x2,x3,x4,x5,x6,x7,x8⟩:=(uh HC) w1 (Kb.refl _ _);have HW1:Hid (w1=w.alloc (.cells #[.int .i64 a.o,.int .i64 a.a,.int .i64 a.b,.int .i64 a.c,.int .i64 a.d] 79)):=hw1;have HY:Hid (PCx X F w0/\PW X db M D vd w/\Inv X.d M D/\i<X.d.n/\M i=some s/\a=X.d.N i/\Rz (AvP X db) w (.slice p1 s.1.length t1) s.1/\Rg (AvP X db) w (.slice p2 s.2.length t2) s.2/\Kb 0 w0 w):=(⟨hX,h,hI,hi,hm,ha,r1,r2,kw0⟩:_/\_)
 have HB1:Hid (Kb 0 w w1/\InB w.heap.size a w1/\w1.heap.size=w.heap.size+1):=(⟨k1,b1,by rw[hw1];exact World.size_alloc _ _⟩:_/\_)
 clear hX h hI hi hm ha r1 r2 kw0 hw1 k1 b1 hP hsl hsg hok hd nn hv7 hrow hcn q0 q1 q2 c11;go_enter Tryz.func45,Tryz.ntmps45;go_upto_region 2 with fail;rw[<-(uh HW1)];clear HW1 z0 z1 z2 z3 z4 c7
 go_cut [7]from 18 to 36 (λs7 wx=>∃(C:Nat) (v8:Value),s7=.pointer (some ⟨C,0,none⟩)/\Hid (Cg0 a s (.slice p1 s.1.length t1) (.slice p2 s.2.length t2) w w.heap.size C v8 wx))
 case first=>
  have kz:Kb 0 w1 w1.drew:=kb_drew _;have kzw:Kb 0 w w1.drew:=(uh HB1).1.trans kz
  go_region_held_law (λW'=>W'.cell? ⟨w.heap.size,0,none⟩=some (.int .i64 a.o)/\W'.cell? ⟨w.heap.size,1,none⟩=some (.int .i64 a.a)/\W'.cell? ⟨w.heap.size,2,none⟩=some (.int .i64 a.b)/\W'.cell? ⟨w.heap.size,3,none⟩=some (.int .i64 a.c)/\W'.cell? ⟨w.heap.size,4,none⟩=some (.int .i64 a.d)/\W'.cell? ⟨X.P,11,none⟩=some (.slice (some ⟨X.SB,0,none⟩) X.d.n X.d.n)/\W'.cell? ⟨X.SB,i*3,none⟩=some (.bool true)/\W'.cell? ⟨X.SB,i*3+1,none⟩=some (.slice p1 s.1.length t1)/\W'.cell? ⟨X.SB,i*3+2,none⟩=some (.slice p2 s.2.length t2)) (first|exact sV|exact s5|exact⟨x0,x1,x2,x3,x4,x5,x6,x7,x8⟩|exact(uh HC) _ (by first|exact kz|exact kz.alloc _|exact K5|exact K5.alloc _)|trace_state)
   (first
    |(go_at_call 20;refine((uh HCL) _ kzw).mono ?_;rintro e w5 ⟨v5,rfl,ho5,k5⟩;have K5:Kb 0 w1 w5:=kz.trans k5;obtain⟨ad5,cap5,rfl⟩:=own_shape ho5;have s5:=(uh HC) w5 K5)
    |(go_at_call 20;refine((uh HCL) _ (kzw.alloc _)).mono ?_;rintro e w5 ⟨v5,rfl,ho5,k5⟩;have K5:Kb 0 w1 w5:=(kz.alloc _).trans k5;obtain⟨ad5,cap5,rfl⟩:=own_shape ho5;have s5:=(uh HC) w5 K5;have hb5:w5.heap[w1.heap.size]? =some (.cells #[.int .i64 0,.int .i64 0,.int .i64 0,.int .i64 0,.int .i64 0,.bool false,.slice none 0 0,.slice none 0 0,.slice none 0 0,.slice none 0 0] 133 (0,0)):=(k5.block w1.heap.size zq (by rw[World.size_alloc];exact Nat.lt_succ_self _)).trans (alloc_new w1.drew _ _);obtain⟨V1,V2,V3,V4,V5,V6,V7,V8,V9,V10,⟨st0,st1,st2,st3,st4,st5,st6,st7,st8,st9⟩,⟨ce0,fr0,ce1,fr1,ce2,fr2,ce3,fr3,ce4,fr4,ce5,fr5,ce6,fr6,ce7,fr7,ce8,fr8,ce9,fr9⟩,hV,kV,zV⟩:=chain10 w5 w1.heap.size 133 _ _ _ _ _ _ _ _ _ _ (.int .i64 a.o) (.int .i64 a.a) (.int .i64 a.b) (.int .i64 a.c) (.int .i64 a.d) (.bool true) (.slice p1 s.1.length t1) (.slice p2 s.2.length t2) (.slice ad5 s.1.length cap5) (.slice none 0 0) hb5;have sV:=(uh HC) V10 ⟨kV.os.trans K5.os,kV.output.trans K5.output,(by rw[zV];exact K5.size),λb _ hb=>(kV.block b (Nat.lt_of_lt_of_le hb K5.size) (Nat.ne_of_lt hb)).trans (K5.block b zq hb)⟩))
  ·obtain⟨k1,b1,z1⟩:=(uh HB1)
   have HN:Hid (Cg0 a s (.slice p1 s.1.length t1) (.slice p2 s.2.length t2) w w.heap.size w5.heap.size (.slice ad5 s.1.length cap5) (w5.alloc (.cells #[.int .i64 a.o,.int .i64 a.a,.int .i64 a.b,.int .i64 a.c,.int .i64 a.d,.bool true,.slice p1 s.1.length t1,.slice p2 s.2.length t2,.slice ad5 s.1.length cap5,.slice none 0 0] 133))):=cg0_a k1 b1 z1 K5 ho5 ⟨_,_,_,rfl⟩;go_wp2_with fail
   go_meet
   case rel=>exact⟨_,_,rfl,HN⟩
  ·obtain⟨k1,b1,z1⟩:=(uh HB1)
   have HN:Hid (Cg0 a s (.slice p1 s.1.length t1) (.slice p2 s.2.length t2) w w.heap.size w1.heap.size (.slice ad5 s.1.length cap5) V10):=cg0_b k1 b1 z1 K5 ho5 ⟨_,_,_,rfl⟩ hV kV zV;clear st0 st1 st2 st3 st4 st5 st6 st7 st8 st9 ce0 fr0 ce1 fr1 ce2 fr2 ce3 fr3 ce4 fr4 ce5 fr5 ce6 fr6 ce7 fr7 ce8 fr8 ce9 fr9 sV s5;go_wp2_with fail
   go_meet
   case rel=>exact⟨_,_,rfl,HN⟩
 case rest=>
  obtain⟨C,v8,rfl,HG⟩:=hcut;clear HCL HC HB1 x0 x1 x2 x3 x4 x5 x6 x7 x8;obtain⟨kw,hI1,hC1,hIC,hIB,hCB,hO,ho1,ho2,hIl,pv,nv,cv,rfl⟩:=(uh HG)
  obtain⟨hX,h,hI,hi,hm,ha,r1,r2,kw0⟩:=(uh HY)
  have hok:=hX.I i hi;have hTok:Tok X.np X.d a:=by rw[ha];exact hok.1
  obtain⟨hsl,hsg⟩:=(hI.st i s hm).2;have hg0:=hX.hd.2.2.1.1;have hg1:=hX.hd.2.2.1.2;have hGl:=gd_lt hX.gd;have hw0s:=kw0.size;have hwcs:=kw.size;have hS1:=h.sl;have hP1:=h.pl;have hws:=h.pf.size;have hS0:=hX.hS;have hP0:=hX.hP;have hdbl:db<w.heap.size:=by rcases h.dn with z|z<;>omega
  have hnv:nv=s.1.length:=by
   obtain⟨a',c',e,-⟩:=hO.rz;exact(Value.slice.inj e).2.1
  subst hnv
  obtain⟨q,hqq,hqC,hqG,hql⟩:∃q,(∀g,(Value.slice pv s.1.length cv).ownBlock=some g->g=q)/\q≠C/\q≠0/\q<wc.heap.size:=by
   cases hv:(Value.slice pv s.1.length cv).ownBlock with
   |none=>exact⟨X.SB,λg e=>(by cases e),by omega,by omega,by omega⟩
   |some g=>
    have:=hO.lt g hv;exact⟨g,λg' e=>by simpa using e.symm,λe=>ho2 (by rw[hv,e]),by omega,this.2⟩
  have HFL:Hid (∀c:Nat,c≠0->nxt F X.d M D i s=.bad c i->∀W,Kb 0 w W->GoA X F M D i s (.returned (.tuple #[.int .i64 c,.int .i64 i])) W):=(λc hc hn W k=>⟨c,i,rfl,.inr ⟨hc,hn,(h.kb k).pg⟩⟩:∀c:Nat,_)
  have hIB':wc.heap[w.heap.size]? =_:=hIB;have x0:wc.cell? ⟨w.heap.size,0,none⟩=some (.int .i64 a.o):=cell_of hIB' rfl;have x1:wc.cell? ⟨w.heap.size,1,none⟩=some (.int .i64 a.a):=cell_of hIB' rfl;have x2:wc.cell? ⟨w.heap.size,2,none⟩=some (.int .i64 a.b):=cell_of hIB' rfl;have x3:wc.cell? ⟨w.heap.size,3,none⟩=some (.int .i64 a.c):=cell_of hIB' rfl;have x4:wc.cell? ⟨w.heap.size,4,none⟩=some (.int .i64 a.d):=cell_of hIB' rfl;have hCB':wc.heap[C]? =_:=hCB;have c8:wc.cell? ⟨C,8,none⟩=some (.slice pv s.1.length cv):=cell_of hCB' rfl;have hPw:w.heap[X.P]? =_:=h.pc
  have HBX:=im_boxes (C:=X.P) (v:=a) wc (kw.cell (cell_of hPw rfl)) (hX.pro.keep (kw0.trans kw)) hX.np hO.rz (by omega) (λho=>by
   have hb:=hTok.2.2 1 (by omega);rw[show a.o.toNat=11 by omega]at hb;have hb:0<=a.b/\a.b<=(X.np:Int)-1:=hb;obtain⟨u1,u2⟩:=hX.U i hi (by rw[<-ha];exact ho);rw[<-ha]at u1 u2;refine⟨⟨hb.1,by omega⟩,u1,λj hj hl=>?_⟩;have:=u2 j hj;rw[if_pos hl]at this
   exact⟨this.1,by omega⟩)
  by_cases hbx:bx F a s.1
  rotate_left
  ·have HZ:=(uh HFL) 10 (by decide) (nxt_b (l:=[]) (by rw[<-ha];exact stp_10a hbx) (by decide));have HZh:Hid (∀W,Kb 0 wc W->GoA X F M D i s (.returned (.tuple #[.int .i64 10,.int .i64 i])) W):=(λW k=>HZ W (kw.trans k):∀W,_)
   rw[dc_f hbx]at HBX;clear HZ kw hI1 hC1 hIC hIB hCB hO ho1 ho2 hIl hX h hI hi hm ha r1 r2 kw0 hok hTok hsl hsg hg0 hg1 hGl hw0s hwcs hS1 hP1 hws hS0 hP0 hdbl hqq hqC hqG hql HFL hIB' hCB' hPw HG HY hbx;go_wp2_with (go_at_call 81;refine HBX.mono ?_;rintro e w6 ⟨rfl,k6⟩;have HZ6:=(uh HZh) w6 k6;clear k6 HBX HZh);refine bodyPost_ret (by simp[results,Tryz.results45,go_sem];rfl) rfl ?_;exact HZ6
  rw[dc_t hbx]at HBX;have hCG:C≠0:=by omega
  have HCS:Hid (w.heap.size<=C):=hC1;have hvw:∀g,(Value.slice pv s.1.length cv).ownBlock=some g->w.heap.size<=g:=λg e=>(hO.lt g e).1;have HRE:Hid (∀W,Kb 0 wc W->Calls Tryz.prog 82 #[.pointer (some ⟨C,0,none⟩)] W (ReA a s.1 w.heap.size q C (.slice p1 s.1.length t1) (.slice p2 s.2.length t2) (.slice pv s.1.length cv) W)):=(λW k=>im_read W ((k.block C zq (Array.getElem?_eq_some_iff.1 hCB).1).trans hCB) (hX.gd.keep ((kw0.trans kw).trans k)) (hO.kb k) hqq hqC hqG hCG (Nat.lt_of_lt_of_le hql k.size) hTok hsl hg1:∀W,_)
  have hrl:∀r,rd a s.1=some r->r.T.length=s.1.length/\r.K.length<=4:=λr hr=>by
   have:=rdn_len 4 r hr;exact⟨this.1,this.2.2⟩
  have HPU:Hid (∀W r vk,Kb 0 w W->ChB C a (.slice p1 s.1.length t1) (.slice p2 s.2.length t2) (.slice pv s.1.length cv) vk W->OwI w.heap.size W (.slice pv s.1.length cv) r.T->rd a s.1=some r->Calls Tryz.prog 83 #[.pointer (some ⟨C,0,none⟩)] W (PuA a r.T w.heap.size q C (.slice p1 s.1.length t1) (.slice p2 s.2.length t2) (.slice pv s.1.length cv) vk W)):=(λW r vk k hc ho hr=>im_put W hc (hX.gd.keep (kw0.trans k)) ho hqq hqC hqG hTok (by rw[(hrl r hr).1];exact hsl) hg1:∀W r vk,_)
  have HFT:Hid (∀W r vk,Cg1 a s r (.slice p1 s.1.length t1) (.slice p2 s.2.length t2) w w.heap.size C (.slice pv s.1.length cv) vk W->Calls Tryz.prog 84 #[.pointer (some ⟨C,0,none⟩)] W λe w'=>e=.returned (.bool (dc (gfit a s.2)))/\Kb 0 W w'):=(λW r vk c=>im_fits W c.c (r2.kb c.k) hsg.1 (λg hg=>⟨(hsg.2 g hg).1,by have:=(hsg.2 g hg).2;omega⟩):∀W r vk,_)
  have HSP:Hid (∀W r vk,rd a s.1=some r->Cg1 a s r (.slice p1 s.1.length t1) (.slice p2 s.2.length t2) w w.heap.size C (.slice pv s.1.length cv) vk W->Calls Tryz.prog 85 #[.pointer (some ⟨C,0,none⟩)] W λe w'=>e=.returned (.bool (dc (spr a s.2 s.1 (put a r.T) r.K)))/\Kb 0 W w'):=(λW r vk hr c=>im_spares W c.c (r2.kb c.k) (r1.kb c.k) c.t.rz c.u hsg.1 (λg hg=>⟨(hsg.2 g hg).1,by have:=(hsg.2 g hg).2;omega⟩) ⟨by omega,by rw[put_len];exact(hrl r hr).1,by have:=(hrl r hr).2;omega⟩:∀W r vk,_)
  have HGB:Hid (∀W r vk,gfit a s.2->Cg1 a s r (.slice p1 s.1.length t1) (.slice p2 s.2.length t2) w w.heap.size C (.slice pv s.1.length cv) vk W->Calls Tryz.prog 86 #[.pointer (some ⟨C,0,none⟩)] W (GbA a s.2 W)):=(λW r vk hf c=>im_gbh W c.c (r2.kb c.k) hsg.1 hf:∀W r vk,_)
  have HFR:Hid (∀W w',Kb 0 wc W->K2v C q (.slice pv s.1.length cv) W w'->Kb 0 w w'/\InB w.heap.size a w'):=(λW w' k h2=>⟨kb_k2v (kw.trans k) h2 hqq hC1 hvw,(h2.far hqq hIC (λg e=>λz=>ho1 (by rw[e,z])) (Nat.lt_of_lt_of_le hIl k.size)).trans ((k.block _ zq hIl).trans hIB)⟩:∀W w',_)
  have HFP:Hid (∀W1 W r vk w',Kb 0 w W->InB w.heap.size a W->OwI W1.heap.size W vk r.K->Kb 0 wc W1->PuA a r.T w.heap.size q C (.slice p1 s.1.length t1) (.slice p2 s.2.length t2) (.slice pv s.1.length cv) vk W (.returned (.tuple #[])) w'->Cg1 a s r (.slice p1 s.1.length t1) (.slice p2 s.2.length t2) w w.heap.size C (.slice pv s.1.length cv) vk w'):=(λW1 W r vk w' k hi1 hk1 k1 hp=>by
   obtain⟨-,hp1,hp2,hp3⟩:=hp;have hz:=k1.size;refine⟨kb_kv k hp3 hqq hvw,(hp3.far hqq (λg e=>λz=>ho1 (by rw[e,z])) (Array.getElem?_eq_some_iff.1 hi1).1).trans hi1,hp2,hp1,?_⟩;have:=rowBlk' hk1 (λg e=>hp3.far hqq (λg' e'=>by have h1:=(hk1.lt g e).1;have h2:=(hO.lt g' e').2;omega) (hk1.lt g e).2)
   exact(OwI.rz this).imp (λb _ hb=>by omega):∀W1 W r vk w',_)
  have hr12:Hid (∀r,rd a s.1=some r->(¬gfit a s.2->nxt F X.d M D i s=.bad 11 i)/\(gfit a s.2->¬spr a s.2 s.1 (put a r.T) r.K->nxt F X.d M D i s=.bad 12 i)/\(gfit a s.2->spr a s.2 s.1 (put a r.T) r.K->nxt F X.d M D i s=(fol a i s (put a r.T) (gbh a s.2)).foldl adv (.ok M D))):=(λr hr=>⟨λhf=>nxt_b (l:=[]) (by rw[<-ha];exact stp_11 hbx hr hf) (by decide),λhf hp=>nxt_b (l:=[]) (by rw[<-ha];exact stp_12 hbx hr hf hp) (by decide),λhf hp=>nxt_o (by rw[<-ha];exact stp_0 hbx hr hf hp)⟩:∀r,_)
  have h10:Hid (rd a s.1=none->nxt F X.d M D i s=.bad 10 i):=(λhr=>nxt_b (l:=[]) (by rw[<-ha];exact stp_10b hbx hr) (by decide):_->_)
  clear kw hI1 hC1 hIC hIB hCB hO ho1 ho2 hIl hX h hI hi hm ha r1 r2 kw0 hok hTok hsl hsg hg0 hg1 hGl hw0s hwcs hS1 hP1 hws hS0 hP0 hdbl hqq hqC hqG hql hIB' hCB' hPw HG hbx hCG hvw hrl;go_wp2_with (go_at_call 81;refine HBX.mono ?_;rintro e w6 ⟨rfl,k6⟩;have HK6:Hid (Kb 0 wc w6):=k6;have HR6:=(uh HRE) w6 k6;clear k6 HBX HRE x0 x1 x2 x3 x4 c8);refine HR6.mono ?_;rintro e w7 ⟨k2v,hre⟩;obtain⟨kw7,hi7⟩:=(uh HFR) w6 w7 HK6 k2v;rcases hre with⟨hrn,rfl⟩|⟨r,vk,hr,rfl,hC7,hO7,hK7⟩
  ·have HZ:=(uh HFL) 10 (by decide) ((show _->_ from h10) hrn) w7 kw7;clear HR6 HK6 k2v kw7 hi7 hrn HPU HFT HSP HGB HFR HFP hr12 h10 HFL;go_wp2_with fail;refine bodyPost_ret (by simp[results,Tryz.results45,go_sem];rfl) rfl ?_;exact HZ
  have HPU7:=(uh HPU) w7 r vk kw7 hC7 hO7 hr;have HP7:Hid (∀w',PuA a r.T w.heap.size q C (.slice p1 s.1.length t1) (.slice p2 s.2.length t2) (.slice pv s.1.length cv) vk w7 (.returned (.tuple #[])) w'->Cg1 a s r (.slice p1 s.1.length t1) (.slice p2 s.2.length t2) w w.heap.size C (.slice pv s.1.length cv) vk w'):=(λw' hp=>(uh HFP) w6 w7 r vk w' kw7 hi7 hK7 HK6 hp:∀w',_)
  have HRR:Hid (rd a s.1=some r):=hr;clear HR6 HK6 k2v kw7 hi7 hC7 hO7 hK7 hr HPU HFR HFP h10;go_wp2_with fail;refine HPU7.mono ?_;rintro e w8 hp8;obtain rfl:=hp8.1;have c8:=(uh HP7) w8 hp8;have HF8:=(uh HFT) w8 r vk c8;have HC8:Hid (Cg1 a s r (.slice p1 s.1.length t1) (.slice p2 s.2.length t2) w w.heap.size C (.slice pv s.1.length cv) vk w8):=c8;clear HPU7 HP7 hp8 c8 HFT;by_cases hf:gfit a s.2
  rotate_left
  ·rw[dc_f hf]at HF8;have HZ:=(uh HFL) 11 (by decide) (((show ∀r,_ from hr12) r HRR).1 hf);have HZh:Hid (∀W,Kb 0 w8 W->GoA X F M D i s (.returned (.tuple #[.int .i64 11,.int .i64 i])) W):=(λW k=>HZ W ((uh HC8).k.trans k):∀W,_)
   clear HZ hf HSP HGB hr12 HFL HC8 HRR;go_wp2_with fail;refine HF8.mono ?_;rintro e w9 ⟨rfl,k9⟩;have HZ9:=(uh HZh) w9 k9;clear HF8 k9 HZh;go_wp2_with fail;refine bodyPost_ret (by simp[results,Tryz.results45,go_sem];rfl) rfl ?_;exact HZ9
  rw[dc_t hf]at HF8;have HSP2:Hid (∀W,Kb 0 w8 W->Calls Tryz.prog 85 #[.pointer (some ⟨C,0,none⟩)] W λe w'=>e=.returned (.bool (dc (spr a s.2 s.1 (put a r.T) r.K)))/\Kb 0 W w'):=(λW k=>(uh HSP) W r vk HRR ((uh HC8).kb k):∀W,_)
  clear HSP;go_wp2_with fail;refine HF8.mono ?_;rintro e w9 ⟨rfl,k9⟩;have HS9:=(uh HSP2) w9 k9;have HC9:Hid (Cg1 a s r (.slice p1 s.1.length t1) (.slice p2 s.2.length t2) w w.heap.size C (.slice pv s.1.length cv) vk w9):=(uh HC8).kb k9;clear HF8 k9 HC8 HSP2;by_cases hp:spr a s.2 s.1 (put a r.T) r.K
  rotate_left
  ·rw[dc_f hp]at HS9;have HZ:=(uh HFL) 12 (by decide) (((show ∀r,_ from hr12) r HRR).2.1 hf hp);have HZh:Hid (∀W,Kb 0 w9 W->GoA X F M D i s (.returned (.tuple #[.int .i64 12,.int .i64 i])) W):=(λW k=>HZ W ((uh HC9).k.trans k):∀W,_)
   clear HZ hf hp HGB hr12 HFL HC9 HRR;go_wp2_with fail;refine HS9.mono ?_;rintro e w10 ⟨rfl,k10⟩;have HZ10:=(uh HZh) w10 k10;clear HS9 k10 HZh;go_wp2_with fail;refine bodyPost_ret (by simp[results,Tryz.results45,go_sem];rfl) rfl ?_;exact HZ10
  rw[dc_t hp]at HS9;have HNX:Hid (nxt F X.d M D i s=(fol a i s (put a r.T) (gbh a s.2)).foldl adv (.ok M D)):=((show ∀r,_ from hr12) r HRR).2.2 hf hp;have HGB2:Hid (∀W,Kb 0 w9 W->Calls Tryz.prog 86 #[.pointer (some ⟨C,0,none⟩)] W (GbA a s.2 W)):=(λW k=>(uh HGB) W r vk hf ((uh HC9).kb k):∀W,_)
  have HHF:Hid (gfit a s.2):=hf;clear HGB hr12 HFL hf hp;go_upto_region 10 with(go_at_call 85;refine HS9.mono ?_;rintro e w10 ⟨rfl,k10⟩;have HK10:Hid (Kb 0 w9 w10):=k10;clear k10 HS9);obtain⟨w11,hw11⟩:∃w11,w11=w10:=⟨_,rfl⟩
  have c10:=(uh HC9).kb HK10;have hC10:w10.heap[C]? =_:=c10.c;have y8:w10.cell? ⟨C,8,none⟩=some (.slice pv s.1.length cv):=cell_of hC10 rfl;have HC10:Hid (Cg1 a s r (.slice p1 s.1.length t1) (.slice p2 s.2.length t2) w w.heap.size C (.slice pv s.1.length cv) vk w10):=c10;have HG10:Hid (∀W,Kb 0 w10 W->Calls Tryz.prog 86 #[.pointer (some ⟨C,0,none⟩)] W (GbA a s.2 W)):=(λW k=>(uh HGB2) W ((uh HK10).trans k):∀W,_)
  have HY8:Hid (∀W,Kb 0 w10 W->W.cell? ⟨C,8,none⟩=some (.slice pv s.1.length cv)):=(λW k=>k.cell y8:∀W,_)
  clear c10 hC10 HC9 HK10 HGB2 hw11 w11
  go_cut [8]from 54 to 58 (λs8 wx=>∃(B:Nat) (vgb:Value),s8=.pointer (some ⟨B,0,none⟩)/\Hid (Cg2 a s r (.slice p1 s.1.length t1) (.slice p2 s.2.length t2) w w.heap.size C (.slice pv s.1.length cv) vk B vgb wx))
  case first=>
   have kz:Kb 0 w10 w10.drew:=kb_drew _
   go_region_held_law (λW'=>W'.cell? ⟨C,8,none⟩=some (.slice pv s.1.length cv)) (first|exact sV|exact s5|exact y8|exact(uh HY8) _ (by first|exact kz|exact kz.alloc _|exact K5|exact K5.alloc _))
    (first
     |(go_at_call 86;refine((uh HG10) _ kz).mono ?_;rintro e w5 ⟨v5,rfl,ho5,k5⟩;have K5:Kb 0 w10 w5:=kz.trans k5;obtain⟨ad5,cap5,e5,he5,hf5⟩:=id ho5;subst e5;have s5:=(uh HY8) w5 K5)
     |(go_at_call 86;refine((uh HG10) _ (kz.alloc _)).mono ?_;rintro e w5 ⟨v5,rfl,ho5,k5⟩;have K5:Kb 0 w10 w5:=(kz.alloc _).trans k5;obtain⟨ad5,cap5,e5,he5,hf5⟩:=id ho5;subst e5;have s5:=(uh HY8) w5 K5;have hb5:w5.heap[w10.heap.size]? =some (.cells #[.bool false,.slice none 0 0,.slice none 0 0] 58 (0,0)):=(k5.block w10.heap.size zq (by rw[World.size_alloc];exact Nat.lt_succ_self _)).trans (alloc_new w10.drew _ _);obtain⟨V1,V2,V3,⟨st0,st1,st2⟩,⟨ce0,fr0,ce1,fr1,ce2,fr2⟩,hV,kV,zV⟩:=chain3 w5 w10.heap.size 58 _ _ _ (.bool true) (.slice pv s.1.length cv) (.slice ad5 (gbh a s.2).length cap5) hb5;have sV:=(uh HY8) V3 ⟨kV.os.trans K5.os,kV.output.trans K5.output,(by rw[zV];exact K5.size),λb _ hb=>(kV.block b (Nat.lt_of_lt_of_le hb K5.size) (Nat.ne_of_lt hb)).trans (K5.block b zq hb)⟩))
   ·have HN:Hid (Cg2 a s r (.slice p1 s.1.length t1) (.slice p2 s.2.length t2) w w.heap.size C (.slice pv s.1.length cv) vk w5.heap.size (.slice ad5 (gbh a s.2).length cap5) (w5.alloc (.cells #[.bool true,(.slice pv s.1.length cv),.slice ad5 (gbh a s.2).length cap5] 58))):=cg2_a HC10 K5 ho5 ⟨_,_,_,rfl⟩;clear ho5 k5 K5 s5 he5 hf5;go_wp2_with fail
    go_meet
    case rel=>exact⟨_,_,rfl,HN⟩
   ·have HN:Hid (Cg2 a s r (.slice p1 s.1.length t1) (.slice p2 s.2.length t2) w w.heap.size C (.slice pv s.1.length cv) vk w10.heap.size (.slice ad5 (gbh a s.2).length cap5) V3):=cg2_b HC10 K5 ho5 ⟨_,_,_,rfl⟩ hV kV zV;clear ho5 k5 K5 s5 he5 hf5 st0 st1 st2 ce0 fr0 ce1 fr1 ce2 fr2 sV hV kV zV;go_wp2_with fail
    go_meet
    case rel=>exact⟨_,_,rfl,HN⟩
  case rest=>
   obtain⟨B,vgb,rfl,HG2⟩:=hcut;clear HC10 HG10 HY8 y8
   rename World=>wd
   have hCs:w.heap.size<=C:=HCS;obtain⟨cg,hBs,hBB,hgr,pz,nz,cz,rfl⟩:=(uh HG2)
   obtain⟨pz',cz',ez,-,-⟩:=id hgr;have hnz:nz=(gbh a s.2).length:=(Value.slice.inj ez).2.1;subst hnz;clear ez;obtain⟨hX,h,hI,hi,hm,ha,r1,r2,kw0⟩:=(uh HY)
   have hok:=hX.I i hi;have hTok:Tok X.np X.d a:=by rw[ha];exact hok.1
   obtain⟨hsl,hsg⟩:=(hI.st i s hm).2;have hS1:=h.sl;have hP1:=h.pl;have hws:=h.pf.size;have hdbl:db<w.heap.size:=by rcases h.dn with z|z<;>omega
   have hav:∀b,b<wd.heap.size->w.heap.size<=b->AvP X db b:=λb _ hb=>⟨by omega,by omega,by omega⟩
   have ra:=r1.kb cg.k;have rb:=r2.kb cg.k;have rc:Rz (AvP X db) wd (.slice pv s.1.length cv) (put a r.T):=cg.t.rz.imp hav;have rd':Rg (AvP X db) wd (.slice pz (gbh a s.2).length cz) (gbh a s.2):=hgr.imp hav;have pwd:=h.kb cg.k;have hIl:w.heap.size<wd.heap.size:=(Array.getElem?_eq_some_iff.1 cg.i).1;have hCl:C<wd.heap.size:=(Array.getElem?_eq_some_iff.1 cg.c).1;have hBl:B<wd.heap.size:=(Array.getElem?_eq_some_iff.1 hBB).1;have hIB':wd.heap[w.heap.size]? =_:=cg.i;have x0:wd.cell? ⟨w.heap.size,0,none⟩=some (.int .i64 a.o):=cell_of hIB' rfl;have b0:wd.cell? ⟨B,0,none⟩=some (.bool true):=cell_of hBB rfl;have b1:wd.cell? ⟨B,1,none⟩=some (.slice pv s.1.length cv):=cell_of hBB rfl;have b2:wd.cell? ⟨B,2,none⟩=some (.slice pz (gbh a s.2).length cz):=cell_of hBB rfl;have HEN:=im_ends a.o wd;by_cases hE:Ends a.o
   ·rw[dc_t hE]at HEN
    have HFOL0:tgt a=none->(fol a i s (put a r.T) (gbh a s.2)).foldl adv (.ok M D)=.ok M D:=λq=>by
     unfold fol;rw[if_pos hE,q];rfl
    have HFOL1:∀tn:Nat,tgt a=some (tn:Int)->(fol a i s (put a r.T) (gbh a s.2)).foldl adv (.ok M D)=adv (.ok M D) (tn,att a s (put a r.T) (gbh a s.2)):=λtn q=>by
     unfold fol;rw[if_pos hE,q];rfl
    have HFX:Hid ((tgt a=none->(fol a i s (put a r.T) (gbh a s.2)).foldl adv (.ok M D)=.ok M D)/\∀tn:Nat,tgt a=some (tn:Int)->(fol a i s (put a r.T) (gbh a s.2)).foldl adv (.ok M D)=adv (.ok M D) (tn,att a s (put a r.T) (gbh a s.2))):=(⟨HFOL0,HFOL1⟩:_/\_)
    have HTP:Hid (InB w.heap.size a wd/\ChB C a (.slice p1 s.1.length t1) (.slice p2 s.2.length t2) (.slice pv s.1.length cv) vk wd/\wd.heap[B]? =some (.cells #[.bool true,(.slice pv s.1.length cv),(.slice pz (gbh a s.2).length cz)] 58 (0,0))/\KR X db db wd wd/\PW X db M D vd wd/\Inv X.d M D/\Rz (AvP X db) wd (.slice p1 s.1.length t1) s.1/\Rg (AvP X db) wd (.slice p2 s.2.length t2) s.2/\Rz (AvP X db) wd (.slice pv s.1.length cv) (put a r.T)/\Rg (AvP X db) wd (.slice pz (gbh a s.2).length cz) (gbh a s.2)):=(⟨cg.i,cg.c,hBB,KR.of (Kb.refl _ _),pwd,hI,ra,rb,rc,rd'⟩:_/\_)
    clear cg hBs hBB hgr hX h hI hi hm ha r1 r2 kw0 hok hTok hsl hsg hS1 hP1 hws hdbl hav ra rb rc rd' pwd hIl hCl hBl hIB' hE HG2 HFOL0 HFOL1;go_upto_region 13 with(go_at_call 87;refine HEN.mono ?_;rintro e wt ⟨rfl,hwt⟩;rw[hwt];clear hwt wt HEN x0 b0 b1 b2);obtain⟨HFOL0,HFOL1⟩:=(uh HFX)
    clear HFX;have hTP:=(uh HTP)
    obtain⟨tI,tC,tB,-,tP,tV,ta,tb,tc,td⟩:=hTP;obtain⟨hX,h,hI,hi,hm,ha,r1,r2,kw0⟩:=(uh HY)
    have hok:=hX.I i hi;have hTok:Tok X.np X.d a:=by rw[ha];exact hok.1
    obtain⟨hsl,hsg⟩:=(hI.st i s hm).2;have hg0:=hX.hd.2.2.1.1;have hg1:=hX.hd.2.2.1.2;have tI':wd.heap[w.heap.size]? =_:=tI;have x0:wd.cell? ⟨w.heap.size,0,none⟩=some (.int .i64 a.o):=cell_of tI' rfl;have x1:wd.cell? ⟨w.heap.size,1,none⟩=some (.int .i64 a.a):=cell_of tI' rfl;have x2:wd.cell? ⟨w.heap.size,2,none⟩=some (.int .i64 a.b):=cell_of tI' rfl;have x3:wd.cell? ⟨w.heap.size,3,none⟩=some (.int .i64 a.c):=cell_of tI' rfl;have x4:wd.cell? ⟨w.heap.size,4,none⟩=some (.int .i64 a.d):=cell_of tI' rfl;have HTG:=im_target a wd (hX.gd.keep (tP.pf.old hX.k hX.hS hX.hP)) hTok.1 hTok.2.1;have hmem:=fol_okk hok hi ⟨hsl,hsg⟩ (T:=put a r.T) (G:=gbh a s.2) (by rw[put_len];exact(rdn_len 4 r HRR).1) (gok_bh hTok hsg HHF);rw[<-ha]at hmem;cases htg:tgt a with
    |none=>
     have htn:tgi a=-1:=by unfold tgi;rw[htg]
     rw[htn]at HTG;have HZ:Hid (∀W,Kb 0 wd W->GoA X F M D i s (.returned (.tuple #[.int .i64 0,.int .i64 0])) W):=(λW k=>⟨0,0,rfl,.inl ⟨rfl,rfl,db,vd,M,D,by rw[(uh HNX)];exact HFOL0 htg,tP.kb k⟩⟩:∀W,_)
     clear hX h hI hi hm ha r1 r2 kw0 hok hTok hsl hsg hg0 hg1 tI tC tB tP tV ta tb tc td tI' hmem htg htn HFOL0 HFOL1 HTP;go_wp2_with (go_at_call 88;refine HTG.mono ?_;rintro e wu ⟨rfl,ku⟩;have HZu:=(uh HZ) wu ku;clear ku HTG HZ x0 x1 x2 x3 x4);refine bodyPost_ret (by simp[results,Tryz.results45,go_sem];rfl) rfl ?_;exact HZu
    |some t=>
     have htn:tgi a=t:=by unfold tgi;rw[htg]
     rw[htn]at HTG
     have hmt:(t.toNat,att a s (put a r.T) (gbh a s.2))∈ fol a i s (put a r.T) (gbh a s.2):=by
      unfold fol;rw[htg];exact List.mem_append_right _ (by simp)
     obtain⟨hm1,hm2,hm3⟩:=hmem _ hmt;have ht0:0<=t:=tgt_nn hTok htg;obtain⟨tn,htt⟩:∃tn:Nat,t=(tn:Int):=⟨t.toNat,by omega⟩
     subst htt;rw[Int.toNat_natCast]at hm1;have hm1:tn<X.d.n:=hm1
     have hb31:a.o=31->(0<=a.b/\a.b+2<=(s.1.length:Int)):=λho=>by
      have hb:=hTok.2.2 1 (by omega);rw[show a.o.toNat=31 by omega]at hb;have hb:0<=a.b/\a.b<=X.d.g-2:=hb;omega
     have tB':wd.heap[B]? =_:=tB;have HBC:Hid (∀W,Kb 0 wd W->W.cell? ⟨B,0,none⟩=some (.bool true)/\W.cell? ⟨B,1,none⟩=some (.slice pv s.1.length cv)/\W.cell? ⟨B,2,none⟩=some (.slice pz (gbh a s.2).length cz)):=(λW k=>⟨k.cell (cell_of tB' rfl),k.cell (cell_of tB' rfl),k.cell (cell_of tB' rfl)⟩:∀W,_)
     have HAT:Hid (∀W,Kb 0 wd W->Calls Tryz.prog 89 #[.pointer (some ⟨C,0,none⟩),.agg #[.bool true,(.slice pv s.1.length cv),(.slice pz (gbh a s.2).length cz)]] W (AtA (AvP X db) (AvP X db) a s (put a r.T) (gbh a s.2) W)):=(λW k=>im_att W ((k.block C zq (Array.getElem?_eq_some_iff.1 tC).1).trans tC) (ta.kb k) (tb.kb k) (tc.kb k) (td.kb k) hb31 (by omega):∀W,_)
     have hdb1:db<wd.heap.size:=by
      have:=tP.pl;have:=tP.pf.size;rcases tP.dn with z|z<;>omega
     have HRC:Hid (∀W W' v1 v2,Kb 0 wd W->Kb 0 W W'->Rz (λk=>AvP X db k\/AvP X db k\/W.heap.size<=k) W' v1 (att a s (put a r.T) (gbh a s.2)).1->Rg (λk=>AvP X db k\/AvP X db k\/W.heap.size<=k) W' v2 (att a s (put a r.T) (gbh a s.2)).2->Calls Tryz.prog 43 #[.pointer (some ⟨X.P,0,none⟩),.int .i64 tn,.agg #[.bool true,v1,v2]] W' (RcA X db M D tn (att a s (put a r.T) (gbh a s.2)) W')):=(λW W' v1 v2 k k' q1 q2=>by
      have z1:=k.size;have z2:=tP.sl;have z3:=tP.pl;have z4:=tP.pf.size
      have hav:∀b,b<W'.heap.size->(AvP X db b\/AvP X db b\/W.heap.size<=b)->AvP X db b:=λb _ hb=>by
       rcases hb with hb|hb|hb
       ·exact hb
       ·exact hb
       ·exact⟨by omega,by omega,by omega⟩
      refine im_reach W' ((tP.kb k).kb k') hm1 hX.nn (q1.imp hav) (q2.imp hav) tV.so ?_ ⟨?_,?_⟩ (λs0 h0=>?_)
      ·have:=so_len D X.d.n tV.so (λx hx=>(tV.du x hx).1);have:=hX.nn;omega
      ·have:((att a s (put a r.T) (gbh a s.2)).1.length:Int)=X.d.g:=hm2;omega
      ·have:=hm3.1;show(att a s (put a r.T) (gbh a s.2)).2.length<=1000;have h3:(att a s (put a r.T) (gbh a s.2)).2.length<=50:=this;omega
      ·obtain⟨-,y1,y2⟩:=tV.st tn s0 h0
       exact⟨by omega,by have:=y2.1;omega⟩:∀W W' v1 v2,_)
     have HZ:Hid (∀W e w',RcA X db M D tn (att a s (put a r.T) (gbh a s.2)) W e w'->(e=.returned (.bool true)/\GoA X F M D i s (.returned (.tuple #[.int .i64 0,.int .i64 0])) w')\/(e=.returned (.bool false)/\GoA X F M D i s (.returned (.tuple #[.int .i64 13,.int .i64 tn])) w')):=(λW e w' hr=>by
      rcases hr with⟨rfl,db2,vd2,M2,D2,e2,p2',-⟩|⟨rfl,e2,p2'⟩
      ·exact .inl ⟨rfl,0,0,rfl,.inl ⟨rfl,rfl,db2,vd2,M2,D2,by rw[(uh HNX)];exact(HFOL1 tn htg).trans e2,p2'⟩⟩
      ·exact .inr ⟨rfl,13,tn,rfl,.inr ⟨by decide,by rw[(uh HNX)];exact(HFOL1 tn htg).trans e2,p2'⟩⟩:∀W e w',_)
     have tnI:(0:Int)<=(tn:Int):=by omega
     clear hX h hI hi hm ha r1 r2 kw0 hok hTok hsl hsg hg0 hg1 tI tC tB tP tV ta tb tc td tI' hmem htg htn HFOL0 HFOL1 HTP hmt hm1 hm2 hm3 ht0 hb31 tB' hdb1;go_wp2_with (go_at_call 88;refine HTG.mono ?_;rintro e wu ⟨rfl,ku⟩;have HKu:Hid (Kb 0 wd wu):=ku;obtain⟨n0,n1,n2⟩:=(uh HBC) wu ku;have HAu:=(uh HAT) wu ku;clear ku HTG x0 x1 x2 x3 x4 HBC HAT);refine HAu.mono ?_;rintro e wv ⟨v1,v2,rfl,q1,q2,kv⟩;have HRv:=(uh HRC) wu wv v1 v2 HKu kv q1 q2;obtain⟨o1,l1,e1,-,-⟩:=id q1;obtain⟨o2,l2,e2,-,-⟩:=id q2;subst e1 e2;clear HAu HRC q1 q2 kv HKu n0 n1 n2;go_wp2_with fail;refine HRv.mono ?_;intro e wz hz;rcases(uh HZ) _ e wz hz with⟨rfl,hg⟩|⟨rfl,hg⟩
     ·have HGz:Hid (GoA X F M D i s (.returned (.tuple #[.int .i64 0,.int .i64 0])) wz):=hg;clear HZ hz hg HRv;go_wp2_with fail;refine bodyPost_ret (by simp[results,Tryz.results45,go_sem];rfl) rfl ?_;exact HGz
     ·have HGz:Hid (GoA X F M D i s (.returned (.tuple #[.int .i64 13,.int .i64 tn])) wz):=hg;clear HZ hz hg HRv;go_wp2_with fail;refine bodyPost_ret (by simp[results,Tryz.results45,go_sem];rfl) rfl ?_;exact HGz
   ·rw[dc_f hE]at HEN
    have hi1:i+1<X.d.n:=by
     have:i+1≠X.d.n:=λe=>hE (by rw[ha];exact hok.2 e);omega
    have hgk:=gok_bh hTok hsg HHF;have hpl:((put a r.T).length:Int)=X.d.g:=by rw[put_len,(rdn_len 4 r HRR).1];exact hsl
    have hg1:=hX.hd.2.2.1.2
    have HRC:=im_reach (s:=(put a r.T,gbh a s.2)) wd pwd hi1 hX.nn rc rd' hI.so (by
     have:=so_len D X.d.n hI.so (λx hx=>(hI.du x hx).1);have:=hX.nn
     omega) ⟨by show(put a r.T).length<=1000;omega,by have:=hgk.1;show(gbh a s.2).length<=1000;omega⟩ (λs0 h0=>by
     obtain⟨-,y1,y2⟩:=hI.st (i+1) s0 h0
     exact⟨by omega,by have:=y2.1;omega⟩)
    have HZ:Hid (∀e wt,RcA X db M D (i+1) (put a r.T,gbh a s.2) wd e wt->(e=.returned (.bool false)/\GoA X F M D i s (.returned (.tuple #[.int .i64 13,.int .i64 ((i:Int)+1)])) wt)\/(e=.returned (.bool true)/\∃db1 vd1 M1 D1,((tgt a=none->(fol a i s (put a r.T) (gbh a s.2)).foldl adv (.ok M D)=.ok M1 D1)/\∀tn:Nat,tgt a=some (tn:Int)->(fol a i s (put a r.T) (gbh a s.2)).foldl adv (.ok M D)=adv (.ok M1 D1) (tn,att a s (put a r.T) (gbh a s.2)))/\(InB w.heap.size a wt/\ChB C a (.slice p1 s.1.length t1) (.slice p2 s.2.length t2) (.slice pv s.1.length cv) vk wt/\wt.heap[B]? =some (.cells #[.bool true,(.slice pv s.1.length cv),(.slice pz (gbh a s.2).length cz)] 58 (0,0))/\KR X db db1 wd wt/\PW X db1 M1 D1 vd1 wt/\Inv X.d M1 D1/\Rz (AvP X db1) wt (.slice p1 s.1.length t1) s.1/\Rg (AvP X db1) wt (.slice p2 s.2.length t2) s.2/\Rz (AvP X db1) wt (.slice pv s.1.length cv) (put a r.T)/\Rg (AvP X db1) wt (.slice pz (gbh a s.2).length cz) (gbh a s.2)))):=(λe wt hr=>by
     rcases hr with⟨rfl,db1,vd1,M1,D1,e1,p1',kr⟩|⟨rfl,e1,p1'⟩
     ·have hso:=adv_ok (d:=X.d) (st:=.ok M D) (x:=(i+1,(put a r.T,gbh a s.2))) hI ⟨hi1,hpl,hgk⟩;rw[e1]at hso;refine .inr ⟨rfl,db1,vd1,M1,D1,⟨λq=>?_,λtn q=>?_⟩,(kr.block _ (hav _ hIl (Nat.le_refl _)) hIl).trans cg.i,(kr.block _ (hav _ hCl hCs) hCl).trans cg.c,(kr.block _ (hav _ hBl hBs) hBl).trans hBB,kr,p1',hso,ra.kr kr,rb.kr kr,rc.kr kr,rd'.kr kr⟩
      ·unfold fol;rw[if_neg hE,q];exact e1
      ·unfold fol;rw[if_neg hE,q];exact congrArg (λz=>adv z (tn,att a s (put a r.T) (gbh a s.2))) e1
     ·refine .inl ⟨rfl,13,i+1,by rfl,.inr ⟨by decide,?_,p1'⟩⟩;rw[(uh HNX)];unfold fol;rw[if_neg hE,List.foldl_append];have:([(i+1,((put a r.T,gbh a s.2):Sv))]:List (Nat×Sv)).foldl adv (.ok M D)=.bad 13 (i+1):=e1;rw[this]
      exact fold_bad:∀e wt,_)
    have iI2:(i:Int)+1<=6000:=by omega
    clear cg hBs hBB hgr hX h hI hi hm ha r1 r2 kw0 hok hTok hsl hsg hS1 hP1 hws hdbl hav ra rb rc rd' pwd hIl hCl hBl hIB' hE HG2 hi1 hgk hpl hg1;go_wp2_with (go_at_call 87;refine HEN.mono ?_;rintro e wt ⟨rfl,hwt⟩;rw[hwt];clear hwt wt HEN);refine HRC.mono ?_;intro e wt hz;rcases(uh HZ) e wt hz with⟨rfl,hg⟩|⟨rfl,db1,vd1,M1,D1,⟨HFOL0,HFOL1⟩,htp⟩
    ·have HGz:Hid (GoA X F M D i s (.returned (.tuple #[.int .i64 13,.int .i64 ((i:Int)+1)])) wt):=hg;clear HZ hz hg HRC x0 b0 b1 b2;go_wp2_with fail;refine bodyPost_ret (by simp[results,Tryz.results45,go_sem];rfl) rfl ?_;exact HGz
    have HTP:Hid (InB w.heap.size a wt/\ChB C a (.slice p1 s.1.length t1) (.slice p2 s.2.length t2) (.slice pv s.1.length cv) vk wt/\wt.heap[B]? =some (.cells #[.bool true,(.slice pv s.1.length cv),(.slice pz (gbh a s.2).length cz)] 58 (0,0))/\KR X db db1 wd wt/\PW X db1 M1 D1 vd1 wt/\Inv X.d M1 D1/\Rz (AvP X db1) wt (.slice p1 s.1.length t1) s.1/\Rg (AvP X db1) wt (.slice p2 s.2.length t2) s.2/\Rz (AvP X db1) wt (.slice pv s.1.length cv) (put a r.T)/\Rg (AvP X db1) wt (.slice pz (gbh a s.2).length cz) (gbh a s.2)):=htp;have HFX:Hid ((tgt a=none->(fol a i s (put a r.T) (gbh a s.2)).foldl adv (.ok M D)=.ok M1 D1)/\∀tn:Nat,tgt a=some (tn:Int)->(fol a i s (put a r.T) (gbh a s.2)).foldl adv (.ok M D)=adv (.ok M1 D1) (tn,att a s (put a r.T) (gbh a s.2))):=(⟨HFOL0,HFOL1⟩:_/\_)
    clear HZ hz htp HRC x0 b0 b1 b2 HFOL0 HFOL1;go_upto_region 13 with fail;obtain⟨HFOL0,HFOL1⟩:=(uh HFX)
    clear HFX;have hTP:=(uh HTP)
    obtain⟨tI,tC,tB,-,tP,tV,ta,tb,tc,td⟩:=hTP;obtain⟨hX,h,hI,hi,hm,ha,r1,r2,kw0⟩:=(uh HY)
    have hok:=hX.I i hi;have hTok:Tok X.np X.d a:=by rw[ha];exact hok.1
    obtain⟨hsl,hsg⟩:=(hI.st i s hm).2;have hg0:=hX.hd.2.2.1.1;have hg1:=hX.hd.2.2.1.2;have tI':wt.heap[w.heap.size]? =_:=tI;have x0:wt.cell? ⟨w.heap.size,0,none⟩=some (.int .i64 a.o):=cell_of tI' rfl;have x1:wt.cell? ⟨w.heap.size,1,none⟩=some (.int .i64 a.a):=cell_of tI' rfl;have x2:wt.cell? ⟨w.heap.size,2,none⟩=some (.int .i64 a.b):=cell_of tI' rfl;have x3:wt.cell? ⟨w.heap.size,3,none⟩=some (.int .i64 a.c):=cell_of tI' rfl;have x4:wt.cell? ⟨w.heap.size,4,none⟩=some (.int .i64 a.d):=cell_of tI' rfl;have HTG:=im_target a wt (hX.gd.keep (tP.pf.old hX.k hX.hS hX.hP)) hTok.1 hTok.2.1;have hmem:=fol_okk hok hi ⟨hsl,hsg⟩ (T:=put a r.T) (G:=gbh a s.2) (by rw[put_len];exact(rdn_len 4 r HRR).1) (gok_bh hTok hsg HHF);rw[<-ha]at hmem;cases htg:tgt a with
    |none=>
     have htn:tgi a=-1:=by unfold tgi;rw[htg]
     rw[htn]at HTG;have HZ:Hid (∀W,Kb 0 wt W->GoA X F M D i s (.returned (.tuple #[.int .i64 0,.int .i64 0])) W):=(λW k=>⟨0,0,rfl,.inl ⟨rfl,rfl,db1,vd1,M1,D1,by rw[(uh HNX)];exact HFOL0 htg,tP.kb k⟩⟩:∀W,_)
     clear hX h hI hi hm ha r1 r2 kw0 hok hTok hsl hsg hg0 hg1 tI tC tB tP tV ta tb tc td tI' hmem htg htn HFOL0 HFOL1 HTP;go_wp2_with (go_at_call 88;refine HTG.mono ?_;rintro e wu ⟨rfl,ku⟩;have HZu:=(uh HZ) wu ku;clear ku HTG HZ x0 x1 x2 x3 x4);refine bodyPost_ret (by simp[results,Tryz.results45,go_sem];rfl) rfl ?_;exact HZu
    |some t=>
     have htn:tgi a=t:=by unfold tgi;rw[htg]
     rw[htn]at HTG
     have hmt:(t.toNat,att a s (put a r.T) (gbh a s.2))∈ fol a i s (put a r.T) (gbh a s.2):=by
      unfold fol;rw[htg];exact List.mem_append_right _ (by simp)
     obtain⟨hm1,hm2,hm3⟩:=hmem _ hmt;have ht0:0<=t:=tgt_nn hTok htg;obtain⟨tn,htt⟩:∃tn:Nat,t=(tn:Int):=⟨t.toNat,by omega⟩
     subst htt;rw[Int.toNat_natCast]at hm1;have hm1:tn<X.d.n:=hm1
     have hb31:a.o=31->(0<=a.b/\a.b+2<=(s.1.length:Int)):=λho=>by
      have hb:=hTok.2.2 1 (by omega);rw[show a.o.toNat=31 by omega]at hb;have hb:0<=a.b/\a.b<=X.d.g-2:=hb;omega
     have tB':wt.heap[B]? =_:=tB;have HBC:Hid (∀W,Kb 0 wt W->W.cell? ⟨B,0,none⟩=some (.bool true)/\W.cell? ⟨B,1,none⟩=some (.slice pv s.1.length cv)/\W.cell? ⟨B,2,none⟩=some (.slice pz (gbh a s.2).length cz)):=(λW k=>⟨k.cell (cell_of tB' rfl),k.cell (cell_of tB' rfl),k.cell (cell_of tB' rfl)⟩:∀W,_)
     have HAT:Hid (∀W,Kb 0 wt W->Calls Tryz.prog 89 #[.pointer (some ⟨C,0,none⟩),.agg #[.bool true,(.slice pv s.1.length cv),(.slice pz (gbh a s.2).length cz)]] W (AtA (AvP X db1) (AvP X db1) a s (put a r.T) (gbh a s.2) W)):=(λW k=>im_att W ((k.block C zq (Array.getElem?_eq_some_iff.1 tC).1).trans tC) (ta.kb k) (tb.kb k) (tc.kb k) (td.kb k) hb31 (by omega):∀W,_)
     have hdb1:db1<wt.heap.size:=by
      have:=tP.pl;have:=tP.pf.size;rcases tP.dn with z|z<;>omega
     have HRC:Hid (∀W W' v1 v2,Kb 0 wt W->Kb 0 W W'->Rz (λk=>AvP X db1 k\/AvP X db1 k\/W.heap.size<=k) W' v1 (att a s (put a r.T) (gbh a s.2)).1->Rg (λk=>AvP X db1 k\/AvP X db1 k\/W.heap.size<=k) W' v2 (att a s (put a r.T) (gbh a s.2)).2->Calls Tryz.prog 43 #[.pointer (some ⟨X.P,0,none⟩),.int .i64 tn,.agg #[.bool true,v1,v2]] W' (RcA X db1 M1 D1 tn (att a s (put a r.T) (gbh a s.2)) W')):=(λW W' v1 v2 k k' q1 q2=>by
      have z1:=k.size;have z2:=tP.sl;have z3:=tP.pl;have z4:=tP.pf.size
      have hav:∀b,b<W'.heap.size->(AvP X db1 b\/AvP X db1 b\/W.heap.size<=b)->AvP X db1 b:=λb _ hb=>by
       rcases hb with hb|hb|hb
       ·exact hb
       ·exact hb
       ·exact⟨by omega,by omega,by omega⟩
      refine im_reach W' ((tP.kb k).kb k') hm1 hX.nn (q1.imp hav) (q2.imp hav) tV.so ?_ ⟨?_,?_⟩ (λs0 h0=>?_)
      ·have:=so_len D1 X.d.n tV.so (λx hx=>(tV.du x hx).1);have:=hX.nn;omega
      ·have:((att a s (put a r.T) (gbh a s.2)).1.length:Int)=X.d.g:=hm2;omega
      ·have:=hm3.1;show(att a s (put a r.T) (gbh a s.2)).2.length<=1000;have h3:(att a s (put a r.T) (gbh a s.2)).2.length<=50:=this;omega
      ·obtain⟨-,y1,y2⟩:=tV.st tn s0 h0
       exact⟨by omega,by have:=y2.1;omega⟩:∀W W' v1 v2,_)
     have HZ:Hid (∀W e w',RcA X db1 M1 D1 tn (att a s (put a r.T) (gbh a s.2)) W e w'->(e=.returned (.bool true)/\GoA X F M D i s (.returned (.tuple #[.int .i64 0,.int .i64 0])) w')\/(e=.returned (.bool false)/\GoA X F M D i s (.returned (.tuple #[.int .i64 13,.int .i64 tn])) w')):=(λW e w' hr=>by
      rcases hr with⟨rfl,db2,vd2,M2,D2,e2,p2',-⟩|⟨rfl,e2,p2'⟩
      ·exact .inl ⟨rfl,0,0,rfl,.inl ⟨rfl,rfl,db2,vd2,M2,D2,by rw[(uh HNX)];exact(HFOL1 tn htg).trans e2,p2'⟩⟩
      ·exact .inr ⟨rfl,13,tn,rfl,.inr ⟨by decide,by rw[(uh HNX)];exact(HFOL1 tn htg).trans e2,p2'⟩⟩:∀W e w',_)
     have tnI:(0:Int)<=(tn:Int):=by omega
     clear hX h hI hi hm ha r1 r2 kw0 hok hTok hsl hsg hg0 hg1 tI tC tB tP tV ta tb tc td tI' hmem htg htn HFOL0 HFOL1 HTP hmt hm1 hm2 hm3 ht0 hb31 tB' hdb1;go_wp2_with (go_at_call 88;refine HTG.mono ?_;rintro e wu ⟨rfl,ku⟩;have HKu:Hid (Kb 0 wt wu):=ku;obtain⟨n0,n1,n2⟩:=(uh HBC) wu ku;have HAu:=(uh HAT) wu ku;clear ku HTG x0 x1 x2 x3 x4 HBC HAT);refine HAu.mono ?_;rintro e wv ⟨v1,v2,rfl,q1,q2,kv⟩;have HRv:=(uh HRC) wu wv v1 v2 HKu kv q1 q2;obtain⟨o1,l1,e1,-,-⟩:=id q1;obtain⟨o2,l2,e2,-,-⟩:=id q2;subst e1 e2;clear HAu HRC q1 q2 kv HKu n0 n1 n2;go_wp2_with fail;refine HRv.mono ?_;intro e wz hz;rcases(uh HZ) _ e wz hz with⟨rfl,hg⟩|⟨rfl,hg⟩
     ·have HGz:Hid (GoA X F M D i s (.returned (.tuple #[.int .i64 0,.int .i64 0])) wz):=hg;clear HZ hz hg HRv;go_wp2_with fail;refine bodyPost_ret (by simp[results,Tryz.results45,go_sem];rfl) rfl ?_;exact HGz
     ·have HGz:Hid (GoA X F M D i s (.returned (.tuple #[.int .i64 13,.int .i64 tn])) wz):=hg;clear HZ hz hg HRv;go_wp2_with fail;refine bodyPost_ret (by simp[results,Tryz.results45,go_sem];rfl) rfl ?_;exact HGz
