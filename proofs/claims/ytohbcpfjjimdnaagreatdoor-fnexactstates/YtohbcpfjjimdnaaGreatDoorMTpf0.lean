import Derived.Test.YtohbcpfjjimdnaaGreatDoorMTpc
import Derived.Test.YtohbcpfjjimdnaaGreatDoorMToy0
namespace Go.Proofs.YtohbcpfjjimdnaaGreatDoor.Fo
open Go.ChangeShapes Go.WideShapes Go.ChangeAt Go.RowKit Go.Shelf
set_option linter.unusedVariables false
set_option maxRecDepth 100000
variable {w W w1 w5 V w':World}{v vt vg v8 vk vgb:Value}{b C q I i c:Nat}{a:Iv}{s:Sv}{o:Obj}{r:Rs}{d:Pd}{F:Nat->Pd}{M:Nat->Option Sv}{D:List Nat}{l:List (Nat × Sv)}
structure PCx (X:PX) (F:Nat->Pd) (w0:World):Prop where
 k:Kb 0 w0 X.w5
 hS:w0.heap.size<=X.SB
 hP:w0.heap.size<=X.P
 row:RowI 0 w0 X.v7 X.d.n X.d.N
 pro:RowP 0 w0 (.slice (some X.A) X.np X.ca) X.np F
 gd:Gd w0
 I:∀i,i<X.d.n->Iok X.np X.d i
 hd:Hd X.q X.d
 n0:0<X.d.n
 nn:X.d.n<=6000
 np:X.np<=1048576
 U:∀i,i<X.d.n->(X.d.N i).o=11->(F (X.d.N i).b.toNat).u<=250/\Uok X.d (F (X.d.N i).b.toNat)
 s5:IsSl X.v5
 s6:IsSl X.v6
 s8:IsSl X.v8
theorem gd_lt(h:Gd w):0<w.heap.size:=lt_of_cell' (h 0 (by omega) 0 (by omega))
def GoA(X:PX)(F:Nat->Pd)(M:Nat->Option Sv)(D:List Nat)(i:Nat)(s:Sv)(e:Ending)(w':World):Prop:=∃c n:Nat,e=.returned (.tuple #[.int .i64 c,.int .i64 n])/\((c=0/\n=0/\∃db' vd' M' D',nxt F X.d M D i s=.ok M' D'/\PW X db' M' D' vd' w')\/(c≠0/\nxt F X.d M D i s=.bad c n/\PG X w'))
def InB(B:Nat)(a:Iv)(W:World):Prop:=W.heap[B]? =some (.cells #[.int .i64 a.o,.int .i64 a.a,.int .i64 a.b,.int .i64 a.c,.int .i64 a.d] 79 (0,0))
def Cg0(a:Iv)(s:Sv)(vt vg:Value)(w:World)(I C:Nat)(v8:Value)(W:World):Prop:=Kb 0 w W/\w.heap.size<=I/\w.heap.size<=C/\I≠C/\InB I a W/\ChB C a vt vg v8 (.slice none 0 0) W/\OwI w.heap.size W v8 s.1/\v8.ownBlock≠some I/\v8.ownBlock≠some C/\I<W.heap.size/\IsSl v8
theorem chain10(W:World)(C:Nat)(ty:TypeId)(z0 z1 z2 z3 z4 z5 z6 z7 z8 z9 x0 x1 x2 x3 x4 x5 x6 x7 x8 x9:Value)(h:W.heap[C]? =some (.cells #[z0,z1,z2,z3,z4,z5,z6,z7,z8,z9] ty (0,0))):∃V1 V2 V3 V4 V5 V6 V7 V8 V9 V10:World,(W.setCell ⟨C,0,none⟩ x0=V1/\V1.setCell ⟨C,1,none⟩ x1=V2/\V2.setCell ⟨C,2,none⟩ x2=V3/\V3.setCell ⟨C,3,none⟩ x3=V4/\V4.setCell ⟨C,4,none⟩ x4=V5/\V5.setCell ⟨C,5,none⟩ x5=V6/\V6.setCell ⟨C,6,none⟩ x6=V7/\V7.setCell ⟨C,7,none⟩ x7=V8/\V8.setCell ⟨C,8,none⟩ x8=V9/\V9.setCell ⟨C,9,none⟩ x9=V10)/\(W.cell? ⟨C,0,none⟩=some z0/\W.frozen? ⟨C,0,none⟩=false/\V1.cell? ⟨C,1,none⟩=some z1/\V1.frozen? ⟨C,1,none⟩=false/\V2.cell? ⟨C,2,none⟩=some z2/\V2.frozen? ⟨C,2,none⟩=false/\V3.cell? ⟨C,3,none⟩=some z3/\V3.frozen? ⟨C,3,none⟩=false/\V4.cell? ⟨C,4,none⟩=some z4/\V4.frozen? ⟨C,4,none⟩=false/\V5.cell? ⟨C,5,none⟩=some z5/\V5.frozen? ⟨C,5,none⟩=false/\V6.cell? ⟨C,6,none⟩=some z6/\V6.frozen? ⟨C,6,none⟩=false/\V7.cell? ⟨C,7,none⟩=some z7/\V7.frozen? ⟨C,7,none⟩=false/\V8.cell? ⟨C,8,none⟩=some z8/\V8.frozen? ⟨C,8,none⟩=false/\V9.cell? ⟨C,9,none⟩=some z9/\V9.frozen? ⟨C,9,none⟩=false)/\V10.heap[C]? =some (.cells #[x0,x1,x2,x3,x4,x5,x6,x7,x8,x9] ty (0,0))/\Kx C W V10/\V10.heap.size=W.heap.size:=by
 obtain⟨V1,e1⟩:∃V,W.setCell ⟨C,0,none⟩ x0=V:=⟨_,rfl⟩
 have h1:V1.heap[C]? =some (.cells #[x0,z1,z2,z3,z4,z5,z6,z7,z8,z9] ty (0,0)):=by rw[<-e1];exact heap_setCell_same W C 0 _ _ _ h
 have g1:Kx C W V1/\V1.heap.size=W.heap.size:=by rw[<-e1];exact⟨⟨rfl,rfl,by simp,λi _ hi=>heap_setCell_other W _ i _ hi⟩,by simp⟩
 obtain⟨V2,e2⟩:∃V,V1.setCell ⟨C,1,none⟩ x1=V:=⟨_,rfl⟩
 have h2:V2.heap[C]? =some (.cells #[x0,x1,z2,z3,z4,z5,z6,z7,z8,z9] ty (0,0)):=by rw[<-e2];exact heap_setCell_same V1 C 1 _ _ _ h1
 have g2:Kx C V1 V2/\V2.heap.size=V1.heap.size:=by rw[<-e2];exact⟨⟨rfl,rfl,by simp,λi _ hi=>heap_setCell_other V1 _ i _ hi⟩,by simp⟩
 obtain⟨V3,e3⟩:∃V,V2.setCell ⟨C,2,none⟩ x2=V:=⟨_,rfl⟩
 have h3:V3.heap[C]? =some (.cells #[x0,x1,x2,z3,z4,z5,z6,z7,z8,z9] ty (0,0)):=by rw[<-e3];exact heap_setCell_same V2 C 2 _ _ _ h2
 have g3:Kx C V2 V3/\V3.heap.size=V2.heap.size:=by rw[<-e3];exact⟨⟨rfl,rfl,by simp,λi _ hi=>heap_setCell_other V2 _ i _ hi⟩,by simp⟩
 obtain⟨V4,e4⟩:∃V,V3.setCell ⟨C,3,none⟩ x3=V:=⟨_,rfl⟩
 have h4:V4.heap[C]? =some (.cells #[x0,x1,x2,x3,z4,z5,z6,z7,z8,z9] ty (0,0)):=by rw[<-e4];exact heap_setCell_same V3 C 3 _ _ _ h3
 have g4:Kx C V3 V4/\V4.heap.size=V3.heap.size:=by rw[<-e4];exact⟨⟨rfl,rfl,by simp,λi _ hi=>heap_setCell_other V3 _ i _ hi⟩,by simp⟩
 obtain⟨V5,e5⟩:∃V,V4.setCell ⟨C,4,none⟩ x4=V:=⟨_,rfl⟩
 have h5:V5.heap[C]? =some (.cells #[x0,x1,x2,x3,x4,z5,z6,z7,z8,z9] ty (0,0)):=by rw[<-e5];exact heap_setCell_same V4 C 4 _ _ _ h4
 have g5:Kx C V4 V5/\V5.heap.size=V4.heap.size:=by rw[<-e5];exact⟨⟨rfl,rfl,by simp,λi _ hi=>heap_setCell_other V4 _ i _ hi⟩,by simp⟩
 obtain⟨V6,e6⟩:∃V,V5.setCell ⟨C,5,none⟩ x5=V:=⟨_,rfl⟩
 have h6:V6.heap[C]? =some (.cells #[x0,x1,x2,x3,x4,x5,z6,z7,z8,z9] ty (0,0)):=by rw[<-e6];exact heap_setCell_same V5 C 5 _ _ _ h5
 have g6:Kx C V5 V6/\V6.heap.size=V5.heap.size:=by rw[<-e6];exact⟨⟨rfl,rfl,by simp,λi _ hi=>heap_setCell_other V5 _ i _ hi⟩,by simp⟩
 obtain⟨V7,e7⟩:∃V,V6.setCell ⟨C,6,none⟩ x6=V:=⟨_,rfl⟩
 have h7:V7.heap[C]? =some (.cells #[x0,x1,x2,x3,x4,x5,x6,z7,z8,z9] ty (0,0)):=by rw[<-e7];exact heap_setCell_same V6 C 6 _ _ _ h6
 have g7:Kx C V6 V7/\V7.heap.size=V6.heap.size:=by rw[<-e7];exact⟨⟨rfl,rfl,by simp,λi _ hi=>heap_setCell_other V6 _ i _ hi⟩,by simp⟩
 obtain⟨V8,e8⟩:∃V,V7.setCell ⟨C,7,none⟩ x7=V:=⟨_,rfl⟩
 have h8:V8.heap[C]? =some (.cells #[x0,x1,x2,x3,x4,x5,x6,x7,z8,z9] ty (0,0)):=by rw[<-e8];exact heap_setCell_same V7 C 7 _ _ _ h7
 have g8:Kx C V7 V8/\V8.heap.size=V7.heap.size:=by rw[<-e8];exact⟨⟨rfl,rfl,by simp,λi _ hi=>heap_setCell_other V7 _ i _ hi⟩,by simp⟩
 obtain⟨V9,e9⟩:∃V,V8.setCell ⟨C,8,none⟩ x8=V:=⟨_,rfl⟩
 have h9:V9.heap[C]? =some (.cells #[x0,x1,x2,x3,x4,x5,x6,x7,x8,z9] ty (0,0)):=by rw[<-e9];exact heap_setCell_same V8 C 8 _ _ _ h8
 have g9:Kx C V8 V9/\V9.heap.size=V8.heap.size:=by rw[<-e9];exact⟨⟨rfl,rfl,by simp,λi _ hi=>heap_setCell_other V8 _ i _ hi⟩,by simp⟩
 obtain⟨V10,e10⟩:∃V,V9.setCell ⟨C,9,none⟩ x9=V:=⟨_,rfl⟩
 have h10:V10.heap[C]? =some (.cells #[x0,x1,x2,x3,x4,x5,x6,x7,x8,x9] ty (0,0)):=by rw[<-e10];exact heap_setCell_same V9 C 9 _ _ _ h9
 have g10:Kx C V9 V10/\V10.heap.size=V9.heap.size:=by rw[<-e10];exact⟨⟨rfl,rfl,by simp,λi _ hi=>heap_setCell_other V9 _ i _ hi⟩,by simp⟩
 exact⟨V1,V2,V3,V4,V5,V6,V7,V8,V9,V10,⟨e1,e2,e3,e4,e5,e6,e7,e8,e9,e10⟩,⟨cell_of h rfl,frozen_of h,cell_of h1 rfl,frozen_of h1,cell_of h2 rfl,frozen_of h2,cell_of h3 rfl,frozen_of h3,cell_of h4 rfl,frozen_of h4,cell_of h5 rfl,frozen_of h5,cell_of h6 rfl,frozen_of h6,cell_of h7 rfl,frozen_of h7,cell_of h8 rfl,frozen_of h8,cell_of h9 rfl,frozen_of h9⟩,h10,(((((((((g1.1).trans g2.1).trans g3.1).trans g4.1).trans g5.1).trans g6.1).trans g7.1).trans g8.1).trans g9.1).trans g10.1,by rw[g10.2,g9.2,g8.2,g7.2,g6.2,g5.2,g4.2,g3.2,g2.2,g1.2]⟩
theorem chain3(W:World)(C:Nat)(ty:TypeId)(z0 z1 z2 x0 x1 x2:Value)(h:W.heap[C]? =some (.cells #[z0,z1,z2] ty (0,0))):∃V1 V2 V3:World,(W.setCell ⟨C,0,none⟩ x0=V1/\V1.setCell ⟨C,1,none⟩ x1=V2/\V2.setCell ⟨C,2,none⟩ x2=V3)/\(W.cell? ⟨C,0,none⟩=some z0/\W.frozen? ⟨C,0,none⟩=false/\V1.cell? ⟨C,1,none⟩=some z1/\V1.frozen? ⟨C,1,none⟩=false/\V2.cell? ⟨C,2,none⟩=some z2/\V2.frozen? ⟨C,2,none⟩=false)/\V3.heap[C]? =some (.cells #[x0,x1,x2] ty (0,0))/\Kx C W V3/\V3.heap.size=W.heap.size:=by
 obtain⟨V1,e1⟩:∃V,W.setCell ⟨C,0,none⟩ x0=V:=⟨_,rfl⟩
 have h1:V1.heap[C]? =some (.cells #[x0,z1,z2] ty (0,0)):=by rw[<-e1];exact heap_setCell_same W C 0 _ _ _ h
 have g1:Kx C W V1/\V1.heap.size=W.heap.size:=by rw[<-e1];exact⟨⟨rfl,rfl,by simp,λi _ hi=>heap_setCell_other W _ i _ hi⟩,by simp⟩
 obtain⟨V2,e2⟩:∃V,V1.setCell ⟨C,1,none⟩ x1=V:=⟨_,rfl⟩
 have h2:V2.heap[C]? =some (.cells #[x0,x1,z2] ty (0,0)):=by rw[<-e2];exact heap_setCell_same V1 C 1 _ _ _ h1
 have g2:Kx C V1 V2/\V2.heap.size=V1.heap.size:=by rw[<-e2];exact⟨⟨rfl,rfl,by simp,λi _ hi=>heap_setCell_other V1 _ i _ hi⟩,by simp⟩
 obtain⟨V3,e3⟩:∃V,V2.setCell ⟨C,2,none⟩ x2=V:=⟨_,rfl⟩
 have h3:V3.heap[C]? =some (.cells #[x0,x1,x2] ty (0,0)):=by rw[<-e3];exact heap_setCell_same V2 C 2 _ _ _ h2
 have g3:Kx C V2 V3/\V3.heap.size=V2.heap.size:=by rw[<-e3];exact⟨⟨rfl,rfl,by simp,λi _ hi=>heap_setCell_other V2 _ i _ hi⟩,by simp⟩
 exact⟨V1,V2,V3,⟨e1,e2,e3⟩,⟨cell_of h rfl,frozen_of h,cell_of h1 rfl,frozen_of h1,cell_of h2 rfl,frozen_of h2⟩,h3,((g1.1).trans g2.1).trans g3.1,by rw[g3.2,g2.2,g1.2]⟩
theorem own_ne{base:Nat}{T:List Int}(h:OwI base W v T)(hb:b<base\/W.heap.size<=b):v.ownBlock≠some b:=λe=>by
 have:=h.lt b e;omega
theorem cg0_a(k1:Kb 0 w w1)(b1:InB w.heap.size a w1)(z1:w1.heap.size=w.heap.size+1)(K5:Kb 0 w1 w5)(ho:OwI w1.drew.heap.size w5 v8 s.1)(hs:IsSl v8):Cg0 a s vt vg w w.heap.size w5.heap.size v8 (w5.alloc (.cells #[.int .i64 a.o,.int .i64 a.a,.int .i64 a.b,.int .i64 a.c,.int .i64 a.d,.bool true,vt,vg,v8,.slice none 0 0] 133)):=by
 have ho:OwI w1.heap.size w5 v8 s.1:=ho;have z5:=K5.size;have kA:=kb_alloc 0 w5 (.cells #[.int .i64 a.o,.int .i64 a.a,.int .i64 a.b,.int .i64 a.c,.int .i64 a.d,.bool true,vt,vg,v8,.slice none 0 0] 133);refine⟨(k1.trans K5).trans kA,Nat.le_refl _,by omega,by omega,?_,alloc_new _ _ _,OwI.kb (ownsRow_mono2 ho (by omega)) kA,own_ne ho (.inl (by omega)),own_ne ho (.inr (Nat.le_refl _)),by rw[World.size_alloc];omega,hs⟩;exact((K5.trans kA).block w.heap.size zq (by omega)).trans b1
theorem cg0_b(k1:Kb 0 w w1)(b1:InB w.heap.size a w1)(z1:w1.heap.size=w.heap.size+1)(K5:Kb 0 w1 w5)(ho:OwI (w1.drew.alloc o).heap.size w5 v8 s.1)(hs:IsSl v8)(hV:V.heap[w1.heap.size]? =some (.cells #[.int .i64 a.o,.int .i64 a.a,.int .i64 a.b,.int .i64 a.c,.int .i64 a.d,.bool true,vt,vg,v8,.slice none 0 0] 133 (0,0)))(kV:Kx w1.heap.size w5 V)(zV:V.heap.size=w5.heap.size):Cg0 a s vt vg w w.heap.size w1.heap.size v8 V:=by
 have ho:OwI (w1.heap.size+1) w5 v8 s.1:=by rw[World.size_alloc]at ho;exact ho
 have z5:=K5.size;have kk:Kb 0 w1 V:=⟨kV.os.trans K5.os,kV.output.trans K5.output,by omega,λb _ hb=>(kV.block b (by omega) (by omega)).trans (K5.block b zq hb)⟩
 refine⟨k1.trans kk,Nat.le_refl _,by omega,by omega,?_,hV,?_,own_ne ho (.inl (by omega)),own_ne ho (.inl (by omega)),by omega,hs⟩
 ·exact(kk.block w.heap.size zq (by omega)).trans b1
 ·exact ownsRow_mono2 (rowBlk' ho (λg e=>kV.block g (ho.lt g e).2 (by have:=(ho.lt g e).1;omega))) (by omega)
theorem kb_k2v(k:Kb 0 w W)(h:K2v C q v W w')(hq:∀g,v.ownBlock=some g->g=q)(hC:w.heap.size<=C)(hv:∀g,v.ownBlock=some g->w.heap.size<=g):Kb 0 w w':=
 ⟨h.1.os.trans k.os,h.1.output.trans k.output,Nat.le_trans k.size h.1.size,λb _ hb=>(h.far hq (by omega) (λg e=>by have:=hv g e;omega) (Nat.lt_of_lt_of_le hb k.size)).trans (k.block b zq hb)⟩
theorem Kv.far(h:Kv v q W w')(hq:∀g,v.ownBlock=some g->g=q)(hb:∀g,v.ownBlock=some g->b≠g)(hl:b<W.heap.size):w'.heap[b]? =W.heap[b]?:=by
 cases hv:v.ownBlock with
 |none=>exact(h.2 hv).block b zq hl
 |some g=>exact h.1.block b hl (by rw[<-hq g hv];exact hb g hv)
theorem kb_kv(k:Kb 0 w W)(h:Kv v q W w')(hq:∀g,v.ownBlock=some g->g=q)(hv:∀g,v.ownBlock=some g->w.heap.size<=g):Kb 0 w w':=
 ⟨h.1.os.trans k.os,h.1.output.trans k.output,Nat.le_trans k.size h.1.size,λb _ hb=>(h.far hq (λg e=>by have:=hv g e;omega) (Nat.lt_of_lt_of_le hb k.size)).trans (k.block b zq hb)⟩
structure Cg1 (a:Iv) (s:Sv) (r:Rs) (vt vg:Value) (w:World) (I C:Nat) (v8 vk:Value) (W:World):Prop where
 k:Kb 0 w W
 i:InB I a W
 c:ChB C a vt vg v8 vk W
 t:OwI w.heap.size W v8 (put a r.T)
 u:Rz (λb=>w.heap.size<=b) W vk r.K
theorem Cg1.kb{W':World}(h:Cg1 a s r vt vg w I C v8 vk W)(k:Kb 0 W W'):Cg1 a s r vt vg w I C v8 vk W':=
 ⟨h.k.trans k,(k.block _ zq (Array.getElem?_eq_some_iff.1 h.i).1).trans h.i,(k.block _ zq (Array.getElem?_eq_some_iff.1 h.c).1).trans h.c,h.t.kb k,h.u.kb k⟩
def Cg2(a:Iv)(s:Sv)(r:Rs)(vt vg:Value)(w:World)(I C:Nat)(v8 vk:Value)(B:Nat)(vgb:Value)(W:World):Prop:=Cg1 a s r vt vg w I C v8 vk W/\w.heap.size<=B/\W.heap[B]? =some (.cells #[.bool true,v8,vgb] 58 (0,0))/\Rg (λk=>w.heap.size<=k) W vgb (gbh a s.2)/\IsSl vgb
theorem cg2_a(h:Cg1 a s r vt vg w I C v8 vk w1)(K5:Kb 0 w1 w5)(ho:Rg (λk=>w1.drew.heap.size<=k) w5 vgb (gbh a s.2))(hs:IsSl vgb):Cg2 a s r vt vg w I C v8 vk w5.heap.size vgb (w5.alloc (.cells #[.bool true,v8,vgb] 58)):=by
 have kA:=kb_alloc 0 w5 (.cells #[.bool true,v8,vgb] 58);have z1:=h.k.size;have z2:=K5.size;exact⟨h.kb (K5.trans kA),by omega,alloc_new _ _ _,(ho.kb kA).imp (λb _ hb=>Nat.le_trans z1 hb),hs⟩
theorem cg2_b(h:Cg1 a s r vt vg w I C v8 vk w1)(K5:Kb 0 w1 w5)(ho:Rg (λk=>(w1.drew.alloc o).heap.size<=k) w5 vgb (gbh a s.2))(hs:IsSl vgb)(hV:V.heap[w1.heap.size]? =some (.cells #[.bool true,v8,vgb] 58 (0,0)))(kV:Kx w1.heap.size w5 V)(zV:V.heap.size=w5.heap.size):Cg2 a s r vt vg w I C v8 vk w1.heap.size vgb V:=by
 have z1:=h.k.size;have z2:=K5.size;have kk:Kb 0 w1 V:=⟨kV.os.trans K5.os,kV.output.trans K5.output,by omega,λb _ hb=>(kV.block b (by omega) (by omega)).trans (K5.block b zq hb)⟩
 have hz:(w1.drew.alloc o).heap.size=w1.heap.size+1:=World.size_alloc _ _;exact⟨h.kb kk,z1,hV,(ho.on (λb hb hl=>kV.block b hl (by omega))).imp (λb _ hb=>by omega),hs⟩
theorem tgt_nn{np:Nat}{t:Int}(h:Tok np d a)(ht:tgt a=some t):0<=t:=by
 have fa:∀(o:Nat),a.o=(o:Int)->∀j,j<4->(rg np d (pcl (pr o j))).1<=fld a j/\fld a j<=(rg np d (pcl (pr o j))).2:=λo ho j hj=>by
  have:=h.2.2 j hj;rw[show a.o.toNat=o by omega]at this;exact this
 unfold tgt at ht;split at ht
 ·rename_i e
  have:t=a.a:=by simpa using ht.symm
  rw[this];rcases e with e|e
  ·exact(show 0<=a.a/\_ from fa 19 e 0 (by omega)).1
  ·exact(show 0<=a.a/\_ from fa 31 e 0 (by omega)).1
 split at ht
 ·rename_i _ e
  have:t=a.b:=by simpa using ht.symm
  rw[this];rcases e with e|e|e|e|e
  ·exact(show 0<=a.b/\_ from fa 20 e 1 (by omega)).1
  ·exact(show 0<=a.b/\_ from fa 21 e 1 (by omega)).1
  ·exact(show 0<=a.b/\_ from fa 38 e 1 (by omega)).1
  ·exact(show 0<=a.b/\_ from fa 39 e 1 (by omega)).1
  ·exact(show 0<=a.b/\_ from fa 41 e 1 (by omega)).1
 ·cases ht
theorem so_len:∀(D:List Nat) (n:Nat),D.Pairwise (· < ·)->(∀x,x ∈ D->x<n)->D.length<=n:=by
 have key:∀(D:List Nat) (m n:Nat),D.Pairwise (· < ·)->(∀x,x ∈ D->m<=x/\x<n)->D.length+m<=max n m:=by
  intro D
  induction D with
  |nil=>intro m n _ _;simp;omega
  |cons a D ih=>
   intro m n hp hb;rw[List.pairwise_cons]at hp;have h1:=hb a (List.mem_cons_self ..);have:=ih (a+1) n hp.2 (λx hx=>⟨hp.1 x hx,(hb x (List.mem_cons_of_mem _ hx)).2⟩);rw[List.length_cons];omega
 intro D n hp hb;have:=key D 0 n hp (λx hx=>⟨Nat.zero_le _,hb x hx⟩);omega
theorem stp_10a(h:¬bx F a s.1):stp F a i s=(10,[]):=by
 unfold stp;rw[if_pos h]
theorem stp_10b(h:bx F a s.1)(hr:rd a s.1=none):stp F a i s=(10,[]):=by
 unfold stp;rw[if_neg (λq=>q h),hr]
theorem stp_11(h:bx F a s.1)(hr:rd a s.1=some r)(hf:¬gfit a s.2):stp F a i s=(11,[]):=by
 unfold stp;rw[if_neg (λq=>q h),hr];dsimp only;rw[if_pos hf]
theorem stp_12(h:bx F a s.1)(hr:rd a s.1=some r)(hf:gfit a s.2)(hp:¬spr a s.2 s.1 (put a r.T) r.K):stp F a i s=(12,[]):=by
 unfold stp;rw[if_neg (λq=>q h),hr];dsimp only;rw[if_neg (λq=>q hf),if_pos hp]
theorem stp_0(h:bx F a s.1)(hr:rd a s.1=some r)(hf:gfit a s.2)(hp:spr a s.2 s.1 (put a r.T) r.K):stp F a i s=(0,fol a i s (put a r.T) (gbh a s.2)):=by
 unfold stp;rw[if_neg (λq=>q h),hr];dsimp only;rw[if_neg (λq=>q hf),if_neg (λq=>q hp)]
theorem nxt_b(h:stp F (d.N i) i s=(c,l))(hc:c≠0):nxt F d M D i s=.bad c i:=by
 unfold nxt;rw[h];dsimp only;rw[if_neg hc]
theorem nxt_o(h:stp F (d.N i) i s=(0,l)):nxt F d M D i s=l.foldl adv (.ok M D):=by
 unfold nxt;rw[h];dsimp only;rw[if_pos rfl]
theorem fold_bad{n:Nat}:l.foldl adv (.bad c n)=.bad c n:=by
 induction l with
 |nil=>rfl
 |cons x l ih=>exact ih
