import Derived.Test.YtohbcpfjjimdnaaGreatDoorMTob
set_option maxHeartbeats 32000000
namespace Go.Proofs.YtohbcpfjjimdnaaGreatDoor.Fo
open Go.ChangeShapes Go.WideShapes Go.ChangeAt Go.RowKit
set_option linter.unusedVariables false
set_option maxRecDepth 100000
variable {C q np n j base:Nat}{W w1 w2 w w4 w':World}{d:Pd}{T:List Int}{a:Iv}{vt vg v8 vs v:Value}
structure K2 (C q:Nat) (W w':World):Prop where
 os:w'.os=W.os
 output:w'.output=W.output
 size:W.heap.size<=w'.heap.size
 block:∀k,k<W.heap.size->k≠C->k≠q->w'.heap[k]? =W.heap[k]?
theorem K2.kb(h:K2 C q W w1)(k:Kb 0 w1 w2):K2 C q W w2:=⟨k.os.trans h.os,k.output.trans h.output,Nat.le_trans h.size k.size,λi h1 h2 h3=>(k.block i zq (Nat.lt_of_lt_of_le h1 h.size)).trans (h.block i h1 h2 h3)⟩
theorem K2.of(h:Kx C w w4)(k:Kx q w4 W):K2 C q w W:=⟨k.os.trans h.os,k.output.trans h.output,Nat.le_trans h.size k.size,λi h1 h2 h3=>(k.block i (Nat.lt_of_lt_of_le h1 h.size) h3).trans (h.block i h1 h2)⟩
theorem rgt_max(x:Int):max x (-1-x)=rgt x:=by
 unfold rgt;split<;>omega
theorem ixj(a:Iv)(j:Nat)(hj:j<4)(W:World):(Instr.index 176 (.agg #[.int .i64 a.a,.int .i64 a.b,.int .i64 a.c,.int .i64 a.d]) (.int .i64 j)).run Tryz.prog W=.ok (.int .i64 (fld a j)) W:=by
 rcases(by omega:j=0\/j=1\/j=2\/j=3)with rfl|rfl|rfl|rfl
 ·exact ix_0 a.a a.b a.c a.d W
 ·exact ix_1 a.a a.b a.c a.d W
 ·exact ix_2 a.a a.b a.c a.d W
 ·exact ix_3 a.a a.b a.c a.d W
theorem wts_len:∀o,o<43->∀j,j<4->(wts (pr o j)).length<=3:=by decide
theorem rd_rng{x:Int}(hn:n<43)(hj:j<4)(h:(rg np d (pcl (pr n j))).1<=x/\x<=(rg np d (pcl (pr n j))).2)(hw:wts (pr n j)≠ []):0<=rgt x/\rgt x+((wts (pr n j)).length:Int)<=d.g:=by
 rcases(rc_all n hn j hj).1 with q|q|q|q|q|q
 ·exact absurd q.1 hw
 ·rw[q.2.2.2.2.2.2.2]at h;have h:-d.g<=x/\x<=d.g-1:=h;rw[q.1];show _/\rgt x+1<=d.g;unfold rgt;split<;>omega
 ·rw[q.2.2.2.2.2.2.2]at h;have h:0<=x/\x<=d.g-1:=h;rw[q.1];show _/\rgt x+1<=d.g;unfold rgt;split<;>omega
 ·rw[q.1]at h⊢;have h:0<=x/\x<=d.g-3:=h;show _/\rgt x+3<=d.g;unfold rgt;split<;>omega
 ·rw[q.1]at h⊢;have h:0<=x/\x<=d.g-2:=h;show _/\rgt x+2<=d.g;unfold rgt;split<;>omega
 ·rw[q.1]at h⊢;have h:0<=x/\x<=d.g-2:=h;show _/\rgt x+2<=d.g;unfold rgt;split<;>omega
theorem addr_add2(b:Addr)(k j:Nat):(b.add k).add j=b.add (k+j):=by
 unfold Addr.add;by_cases h:j=0
 ·subst h;simp
 ·by_cases h2:k=0
  ·subst h2;simp
  ·simp[h,h2,Nat.add_assoc]
theorem elI:Tryz.prog.elem 53=3:=by kernel_rfl
theorem sl_mid(b:Addr)(n cv k l:Nat)(h:k+l<=cv)(hl:0<l)(W:World):(Instr.slice 53 (.slice (some b) n cv) (some (.int .i64 k)) (some (.int .i64 ((k:Int)+(l:Int)))) none).run Tryz.prog W=.ok (.slice (some (b.add k)) l (cv-k)) W:=by
 rw[run_slice_lh (t:=53) (a:=some b) (len:=n) (cap:=cv) (ht:=Tryz.underlying53) (h0:=by omega) (h1:=by omega) (h2:=by omega),elI,Tryz.sizeOf3 W];have e3:((k:Int)+(l:Int)).toNat-k=l:=by omega
 have e4:cv≠k:=by omega
 simp[sliced,e3,e4,Result.andThen]
theorem rz_mid{av:Nat->Prop}{b:Addr}{cv:Nat}(h:Rz av W (.slice (some b) n cv) T){k l:Nat}(hl:0<l)(hk:k+l<=T.length):Rz av W (.slice (some (b.add k)) l (cv-k)) ((T.drop k).take l):=by
 obtain⟨p',c',e,h0,h2⟩:=h;obtain⟨e0,e2,rfl⟩:=Value.slice.inj e;have hll:((T.drop k).take l).length=l:=by rw[List.length_take,List.length_drop];omega
 obtain⟨a,e1,e3,e4⟩:=h2 (by omega);have:b=a:=by rw[e1]at e0;simpa using e0
 subst this;refine⟨_,_,by rw[hll],by omega,λhp=>⟨_,rfl,by rw[add_block];exact e3,λj x hx=>?_⟩⟩;rw[List.getElem?_take]at hx;split at hx
 ·rw[List.getElem?_drop]at hx;have:=e4 (k+j) x hx;rw[addr_add2];exact this
 ·cases hx
theorem ChB.set9{v9:Value}(h:ChB C a vt vg v8 v9 W)(v:Value):ChB C a vt vg v8 v (W.setCell ⟨C,9,none⟩ v):=heap_setCell_same W C 9 _ _ v h
theorem RM.setC{v8t vgt v8' v9':Value}{Tl Sl Kl:List Int}{vk:Value}(h:RM base q vt w4 Tl Sl Kl vk vs W)(hC:ChB C a v8t vgt v8' v9' w4)(hq:q≠C)(v:Value):RM base q vt (w4.setCell ⟨C,9,none⟩ v) Tl Sl Kl vk vs (W.setCell ⟨C,9,none⟩ v):=by
 have hCl:C<w4.heap.size:=(Array.getElem?_eq_some_iff.1 hC).1;have hCW:ChB C a v8t vgt v8' v9' W:=hC.kx h.kx.1 hq;have e4:=hC.set9 v;have eW:=hCW.set9 v;have far:∀b,b≠C->(W.setCell ⟨C,9,none⟩ v).heap[b]? =W.heap[b]?:=λb hb=>heap_setCell_other W _ b v hb;have far4:∀b,b≠C->(w4.setCell ⟨C,9,none⟩ v).heap[b]? =w4.heap[b]?:=λb hb=>heap_setCell_other w4 _ b v hb;have z:(w4.setCell ⟨C,9,none⟩ v).heap.size=w4.heap.size:=by simp
 have zW:(W.setCell ⟨C,9,none⟩ v).heap.size=W.heap.size:=by simp
 have blk:∀b,b<w4.heap.size->(b≠q\/W.heap[b]? =w4.heap[b]?)->(W.setCell ⟨C,9,none⟩ v).heap[b]? =(w4.setCell ⟨C,9,none⟩ v).heap[b]?:=λb hb hbq=>by
  by_cases e:b=C
  ·rw[e];exact(show _=_ from eW).trans (show _=_ from e4).symm
  ·rw[far b e,far4 b e];rcases hbq with hbq|hbq
   ·exact h.kx.1.block b hb hbq
   ·exact hbq
 refine⟨⟨⟨h.kx.1.os,h.kx.1.output,by rw[z,zW];exact h.kx.1.size,λb hb hbq=>blk b (by rw[z]at hb;exact hb) (.inl hbq)⟩,λe=>⟨(h.kx.2 e).os,(h.kx.2 e).output,by rw[z,zW];exact h.kx.1.size,λb _ hb=>blk b (by rw[z]at hb;exact hb) (.inr ((h.kx.2 e).block b zq (by rw[z]at hb;exact hb)))⟩⟩,?_,?_,?_,h.ne,h.qq,by rw[z];exact h.q4⟩
 ·exact rowBlk' h.ty (λg e=>far g (by have:=h.qq g e;omega))
 ·rw[z];exact rowBlk' h.tk (λg e=>far g (by have:=(h.tk.lt g e).1;omega))
 ·rw[z];exact rowBlk' h.st (λg e=>far g (by have:=(h.st.lt g e).1;omega))
def K2v(C q:Nat)(v:Value)(W w':World):Prop:=K2 C q W w'/\(v.ownBlock=none->Kx C W w')
theorem K2v.kb(h:K2v C q v W w1)(k:Kb 0 w1 w2):K2v C q v W w2:=⟨h.1.kb k,λe=>(h.2 e).trans (Kx.of_kb k)⟩
theorem K2v.far(h:K2v C q v W w')(hq:∀g,v.ownBlock=some g->g=q){b:Nat}(hC:b≠C)(hb:∀g,v.ownBlock=some g->b≠g)(hl:b<W.heap.size):w'.heap[b]? =W.heap[b]?:=by
 cases hv:v.ownBlock with
 |none=>exact(h.2 hv).block b hl hC
 |some g=>exact h.1.block b hl hC (by rw[<-hq g hv];exact hb g hv)
def ReA(a:Iv)(T:List Int)(base q C:Nat)(vt vg v8:Value)(w:World)(e:Ending)(w':World):Prop:=K2v C q v8 w w'/\((rd a T=none/\e=.returned (.bool false))\/∃s vk,rd a T=some s/\e=.returned (.bool true)/\ChB C a vt vg v8 vk w'/\OwI base w' v8 s.T/\OwI w.heap.size w' vk s.K)
def ReI(a:Iv)(T:List Int)(base q C:Nat)(vt vg v8:Value)(w:World)(j:Nat)(vs:Value)(W:World):Prop:=∃s w4 vk,rdn a T j=some s/\RM base q v8 w4 s.T s.S s.K vk vs W/\Kx C w w4/\w4.heap.size=w.heap.size/\ChB C a vt vg v8 vk w4
theorem ReI.k2(h:ReI a T base q C vt vg v8 w j vs W):K2v C q v8 w W:=by
 obtain⟨s,w4,vk,_,hM,hk,_⟩:=h;exact⟨K2.of hk hM.kx.1,λe=>hk.trans (Kx.of_kb (hM.kx.2 e))⟩
theorem ReI.fin(h:ReI a T base q C vt vg v8 w 4 vs W)(hq:q≠C):ReA a T base q C vt vg v8 w (.returned (.bool true)) W:=by
 refine⟨h.k2,.inr ?_⟩;obtain⟨s,w4,vk,hs,hM,hk,hz,hC⟩:=h;exact⟨s,vk,hs,rfl,hC.kx hM.kx.1 hq,hM.ty,by rw[<-hz];exact hM.tk⟩
theorem ReI.kb{W':World}(h:ReI a T base q C vt vg v8 w j vs W)(k:Kb 0 W W'):ReI a T base q C vt vg v8 w j vs W':=by
 obtain⟨s,w4,vk,hs,hM,hk,hz,hC⟩:=h;exact⟨s,w4,vk,hs,hM.kb k,hk,hz,hC⟩
theorem ReI.skip(h:ReI a T base q C vt vg v8 w j vs W)(hw:wts (pr a.o.toNat j)=[]):ReI a T base q C vt vg v8 w (j+1) vs W:=by
 obtain⟨s,w4,vk,hs,hM,hk,hz,hC⟩:=h;exact⟨s,w4,vk,by rw[rdn_next hs];unfold rd1;rw[if_pos hw],hM,hk,hz,hC⟩
theorem Gd.k2(h:Gd w)(k:K2 C q w w')(hC:C≠0)(hq:q≠0):Gd w':=λo ho j hj=>by
 have hc:=h o ho j hj;have hl:=lt_of_cell' hc;exact(World.cell?_of_block (k.block _ hl (by exact λe=>hC e.symm) (by exact λe=>hq e.symm))).trans hc
theorem im_read(w:World)(hC:ChB C a vt vg v8 (.slice none 0 0) w)(hgd:Gd w)(hO:OwI base w v8 T)(hqq:∀g,v8.ownBlock=some g->g=q)(hqC:q≠C)(hqG:q≠0)(hCG:C≠0)(hq1:q<w.heap.size)(ht:Tok np d a)(hl:(T.length:Int)=d.g)(hgb:d.g<=250):
  Calls Tryz.prog 82 #[.pointer (some ⟨C,0,none⟩)] w (ReA a T base q C vt vg v8 w):=by
 obtain⟨n,hn⟩:∃n:Nat,a.o=(n:Int):=⟨a.o.toNat,by have:=ht.1;omega⟩
 have n42:n<43:=by have:=ht.2.1;omega
 have HF:=λW=>im_fieldsof a W;unfold insv at HF;have hC':w.heap[C]? =_:=hC;have c0:w.cell? ⟨C,0,none⟩=some (.int .i64 a.o):=cell_of hC' rfl;have c1:w.cell? ⟨C,1,none⟩=some (.int .i64 a.a):=cell_of hC' rfl;have c2:w.cell? ⟨C,2,none⟩=some (.int .i64 a.b):=cell_of hC' rfl;have c3:w.cell? ⟨C,3,none⟩=some (.int .i64 a.c):=cell_of hC' rfl;have c4:w.cell? ⟨C,4,none⟩=some (.int .i64 a.d):=cell_of hC' rfl;have hCl:C<w.heap.size:=(Array.getElem?_eq_some_iff.1 hC').1;have HY:Hid (Tok np d a/\(T.length:Int)=d.g/\d.g<=250/\q≠C/\q≠0/\C≠0/\a.o=(n:Int)/\n<43/\C<w.heap.size/\Gd w):=(⟨ht,hl,hgb,hqC,hqG,hCG,hn,n42,hCl,hgd⟩:_/\_)
 have HST:Hid (∀W,Kb 0 w W->ReI a T base q C vt vg v8 w 0 (.slice none 0 0) W):=(λW k=>⟨⟨T,[],[]⟩,w,.slice none 0 0,rfl,(RM.start hO hqq hq1).kb k,⟨rfl,rfl,Nat.le_refl _,λ_ _ _=>rfl⟩,rfl,hC⟩:∀W,_)
 obtain⟨pv,cv,hv8⟩:=own_shape hO;subst hv8;clear hC hC' hgd hO hqq hqC hqG hCG hq1 ht hl hgb hn n42 hCl;have qN:∀(w:World) (a:Option Addr) (n c n' c':Nat),(binOp .eql 53 (.slice a n c) (.slice none n' c')).run Tryz.prog w=.ok (.bool a.isNone) w:=λw a n c n' c'=>Lib.run_eql_slice_nil w _ _ a n c n' c' Tryz.underlying53;obtain⟨i0,hi0,hz0,hzs,hzb⟩:=info_parts infoI;have HI0:Hid (Tryz.prog.info? 3=some i0):=hi0;clear hi0;go_enter Tryz.func82,Tryz.ntmps82;go_wp2_with fail;refine(HF w).mono ?_;rintro e w3 ⟨rfl,k3⟩;have HS:Hid (ReI a T base q C vt vg (.slice pv T.length cv) w 0 (.slice none 0 0) w3):=(uh HST) w3 k3;clear k3 HF HST c0 c1 c2 c3 c4;go_wp2_with fail
 go_loopw [3,15] (λs3 sl wr=>∃(j:Nat) (vs:Value),vs=s3/\sl=.int .i64 j/\j<=4/\Hid (ReI a T base q C vt vg (.slice pv T.length cv) w j vs wr)) (λ_ sl _=>4-(intOf sl).toNat)
 case atStart=>exact⟨0,_,rfl,rfl,Nat.zero_le _,HS⟩
 case round=>
  obtain⟨j,vs,rfl,rfl,hj,HX⟩:=hrel;clear HS;have hX:=(uh HX)
  clear HX;obtain⟨ht,hl,hgb,hqC,hqG,hCG,hn,n42,hCl,hgd⟩:=(uh HY)
  rcases Nat.lt_or_ge j 4 with h|h
  ·have jI:(j:Int)<4:=by omega
   have hon:a.o.toNat=n:=by omega
   have htk:=ht.2.2 j h;rw[hon]at htk;have hg:=hgd.k2 hX.k2.1 hCG hqG n n42 j h;obtain⟨s,w4,vk,hs,hM,hk4,hz4,hC4⟩:=id hX;have hb8:wr.heap[C]? =_:=hC4.kx hM.kx.1 hqC;have y0:wr.cell? ⟨C,0,none⟩=some (.int .i64 n):=by rw[<-hn];exact cell_of hb8 rfl
   have nI:(n:Int)<43:=by omega
   have lI:(T.length:Int)<=250:=by omega
   have hix:=ixj a j h;have hwn:=im_wants (pr n j) (cl_eq0 n n42 j h).2.1 wr;obtain⟨r,hr⟩:∃r,r=pr n j:=⟨_,rfl⟩
   rw[<-hr]at hg hwn htk;by_cases hwz:wts r=[]
   ·have HN:Hid (∀W,Kb 0 wr W->ReI a T base q C vt vg (.slice pv T.length cv) w (j+1) vs W):=(λW k=>(hX.skip (by rw[hon,<-hr];exact hwz)).kb k:∀W,_)
    have HWN:Hid (Calls Tryz.prog 120 #[.int .u8 r] wr λe w'=>e=.returned (.slice none 0 0)/\Kb 0 wr w'):=by
     refine hwn.mono ?_;rintro e w' ⟨v,rfl,hv,-,k'⟩;rcases hv with⟨-,rfl⟩|⟨q,-⟩
     ·exact⟨rfl,k'⟩
     ·exact absurd hwz q
    clear hX ht hl hgb hqC hqG hCG hn n42 hCl hgd hon htk hs hM hk4 hz4 hC4 hb8 hwn hr hwz h hj;go_wp2_with (go_at_call 120;refine(uh HWN).mono ?_;rintro e w5 ⟨rfl,k5⟩;have HN5:Hid (ReI a T base q C vt vg (.slice pv T.length cv) w (j+1) vs w5):=(uh HN) w5 k5;clear k5 HWN HN);go_roundw
    case rel=>exact⟨j+1,_,rfl,by go_num,by omega,HN5⟩
    case measure=>simp[intOf];omega
   ·obtain⟨x,hx⟩:∃x,x=fld a j:=⟨_,rfl⟩
    rw[<-hx]at hix htk;obtain⟨hx0,hx1⟩:=rd_rng (x:=x) n42 h (by rw[<-hr];exact htk) (by rw[<-hr];exact hwz);rw[<-hr]at hx1;obtain⟨k,hk⟩:∃k:Nat,rgt x=(k:Int):=⟨(rgt x).toNat,by omega⟩
    obtain⟨lw,hlw⟩:∃lw,lw=(wts r).length:=⟨_,rfl⟩
    rw[<-hlw,hk]at hx1;have hlw0:0<lw:=by rw[hlw];exact List.length_pos_iff.2 hwz
    have hlw3:lw<=3:=by rw[hlw,hr];exact wts_len n n42 j h
    obtain⟨hlt,hls,hlk⟩:=rdn_len j s hs;obtain⟨b,cap,y,e1,hcap,hy,cy,fz,hset⟩:=hM.setT (k:=k) (by omega)
    obtain⟨rfl,rfl⟩:pv=some b/\cv=cap:=by
     have:=Value.slice.inj e1;exact⟨this.1,this.2.2⟩
    have hmx:max x (-1-x)=(k:Int):=(rgt_max x).trans hk;have hxI:-1000<=x/\x<=1000:=by unfold rgt at hk;split at hk<;>omega
    have kI:(k:Int)+(lw:Int)<=(T.length:Int):=by omega
    have cI:(T.length:Int)<=(cv:Int):=by omega
    have y8:wr.cell? ⟨C,8,none⟩=some (.slice (some b) T.length cv):=cell_of hb8 rfl;have y9:wr.cell? ⟨C,9,none⟩=some vk:=cell_of hb8 rfl;have hsl:=sl_mid b T.length cv k lw (by omega) hlw0;obtain⟨ads,caps,hvs⟩:=own_shape hM.st;obtain⟨adk,capk,hvk⟩:=own_shape hM.tk;have hnx:=rdn_next hs;rw[hon,<-hr,<-hx]at hnx
    have hrd:rd1 r x s=if(s.T.drop k).take lw=wts r/\¬(x<0/\(k:Int)∈ s.S)then some (if x<0 then⟨s.T.set k 0,s.S,s.K++[(k:Int)]⟩else if opd r=true then s else⟨s.T,s.S++[(k:Int)],s.K⟩)else none:=by
     unfold rd1;rw[if_neg hwz,hk,Int.toNat_natCast,<-hlw]
    rw[hrd]at hnx;clear hrd
    have HWN:Hid (Calls Tryz.prog 120 #[.int .u8 r] wr λe w'=>∃bw cw,e=.returned (.slice (some bw) lw cw)/\Rz (λk=>wr.heap.size<=k) w' (.slice (some bw) lw cw) (wts r)/\Kb 0 wr w'):=by
     refine hwn.mono ?_;rintro e w' ⟨v,rfl,hv,hrz,k'⟩;rcases hv with⟨z,-⟩|⟨-,bw,cw,rfl⟩
     ·exact absurd z hwz
     ·rw[<-hlw]at hrz⊢;exact⟨bw,cw,rfl,hrz,k'⟩
    have HEQ:Hid (∀W vb,Kb 0 wr W->Rz (λk=>wr.heap.size<=k) W vb (wts r)->Calls Tryz.prog 77 #[.slice (some (b.add k)) lw (cv-k),vb] W λe w'=>e=.returned (.bool (dc ((s.T.drop k).take lw=wts r)))/\Kb 0 W w'):=(λW vb kW hvb=>im_eqi W ((rz_mid hM.ty.rz (k:=k) hlw0 (by omega)).kb kW) hvb ⟨by rw[List.length_take];omega,by rw[<-hlw];omega⟩:∀W vb,_)
    obtain⟨nS,hnS⟩:∃nS,nS=s.S.length:=⟨_,rfl⟩
    obtain⟨nK,hnK⟩:∃nK,nK=s.K.length:=⟨_,rfl⟩
    rw[<-hnS]at hvs;rw[<-hnK]at hvk;have HCT:Hid (∀W,Kb 0 wr W->Calls Tryz.prog 121 #[vs,.int .i64 k] W λe w'=>e=.returned (.bool (dc ((k:Int)∈ s.S)))/\w'=W):=(λW kW=>im_contains (k:Int) W (hM.st.rz.kb kW) (by omega):∀W,_)
    have HFA:Hid (rd a T=none->∀W,Kb 0 wr W->ReA a T base q C vt vg (.slice (some b) T.length cv) w (.returned (.bool false)) W):=(λhno W kW=>⟨hX.k2.kb kW,.inl ⟨hno,rfl⟩⟩:_->_)
    have hfail:¬((s.T.drop k).take lw=wts r/\¬(x<0/\(k:Int)∈ s.S))->rd a T=none:=λq=>rd_fail (i:=j+1) (by omega) (by rw[hnx,if_neg q]);by_cases hneg:x<0
    ·have ek:-1-x=(k:Int):=by rw[<-hk];unfold rgt;rw[if_pos hneg]
     have hle:x<=-1-x:=by omega
     by_cases heq:(s.T.drop k).take lw=wts r
     rotate_left
     ·have HZ:Hid (∀W,Kb 0 wr W->ReA a T base q C vt vg (.slice (some b) T.length cv) w (.returned (.bool false)) W):=(uh HFA) (hfail (λq=>heq q.1))
      rw[dc_f heq]at HEQ;have HEK:Hid (-1-x=(k:Int)):=ek;clear hX ht hl hgb hqC hqG hCG hn n42 hCl hgd hon htk hs hM hk4 hz4 hC4 hb8 hwn hr hwz h hj hx hx0 hx1 hk hlw hlw0 hlw3 hlt hls hlk e1 hcap hy hmx hnx hnS hnK cy fz hset hfail HFA heq HCT ek;subst hvs hvk;go_upto_region 9 with(go_at_call 120;refine(uh HWN).mono ?_;rintro e w5 ⟨bw,cw,rfl,hrw,k5⟩;have y85:=k5.cell y8;have y95:=k5.cell y9;have HE5:=(uh HEQ) w5 _ k5 hrw;have HK5:Hid (Kb 0 wr w5):=k5;clear k5 hrw HWN HEQ y8 y9 y0 hg hix);rw[(uh HEK)];go_wp2_with fail;refine HE5.mono ?_;rintro e w6 ⟨rfl,k6⟩;have HZ6:=(uh HZ) w6 ((uh HK5).trans k6);clear HE5 k6 HZ HK5;go_wp2_with fail;go_ret;exact HZ6
     rw[dc_t heq]at HEQ;by_cases hmem:(k:Int)∈ s.S
     ·have HZ:Hid (∀W,Kb 0 wr W->ReA a T base q C vt vg (.slice (some b) T.length cv) w (.returned (.bool false)) W):=(uh HFA) (hfail (λq=>q.2 ⟨hneg,hmem⟩))
      rw[dc_t hmem]at HCT;have HEK:Hid (-1-x=(k:Int)):=ek;clear hX ht hl hgb hqC hqG hCG hn n42 hCl hgd hon htk hs hM hk4 hz4 hC4 hb8 hwn hr hwz h hj hx hx0 hx1 hk hlw hlw0 hlw3 hlt hls hlk e1 hcap hy hmx hnx hnS hnK cy fz hset hfail HFA heq ek hmem;subst hvs hvk;go_upto_region 9 with(go_at_call 120;refine(uh HWN).mono ?_;rintro e w5 ⟨bw,cw,rfl,hrw,k5⟩;have y85:=k5.cell y8;have y95:=k5.cell y9;have HE5:=(uh HEQ) w5 _ k5 hrw;have HK5:Hid (Kb 0 wr w5):=k5;clear k5 hrw HWN HEQ y8 y9 y0 hg hix);rw[(uh HEK)];go_wp2_with fail;refine HE5.mono ?_;rintro e w6 ⟨rfl,k6⟩;have k56:=(uh HK5).trans k6;have HC6:=(uh HCT) w6 k56;have HZ6:=(uh HZ) w6 k56;clear HE5 k6 HZ HK5 HCT k56;go_wp2_with fail;refine HC6.mono ?_;rintro e w7 ⟨rfl,rfl⟩;clear HC6;go_wp2_with fail;go_ret;exact HZ6
     ·have hyes:rdn a T (j+1)=some ⟨s.T.set k 0,s.S,s.K++[(k:Int)]⟩:=by rw[hnx,if_pos ⟨heq,λq=>hmem q.2⟩,if_pos hneg]
      rw[dc_f hmem]at HCT;have HST:Hid ((∀W,Kb 0 wr W->RM base q (.slice (some b) T.length cv) w4 (s.T.set k 0) s.S s.K vk vs (W.setCell (b.add k) (.int .i64 0)))/\rdn a T (j+1)=some ⟨s.T.set k 0,s.S,s.K++[(k:Int)]⟩/\ChB C a vt vg (.slice (some b) T.length cv) vk w4/\q≠C/\Kx C w w4/\w4.heap.size=w.heap.size/\nK=s.K.length):=(⟨λW kW=>hset W kW 0,hyes,hC4,hqC,hk4,hz4,hnK⟩:_/\_)
      have HCY:Hid (∀W,Kb 0 wr W->W.cell? (b.add k)=some (.int .i64 y)/\W.frozen? (b.add k)=false/\W.cell? ⟨C,8,none⟩=some (.slice (some b) T.length cv)):=(λW kW=>⟨kW.cell cy,(World.frozen?_of_block (kW.block _ zq (lt_of_cell' cy))).trans (fz k),kW.cell y8⟩:∀W,_)
      have HEK:Hid (-1-x=(k:Int)):=ek;have nKI:nK<=4:=by omega
      have kI2:(k:Int)<(T.length:Int):=by omega
      clear hX ht hl hgb hqC hqG hCG hn n42 hCl hgd hon htk hs hM hk4 hz4 hC4 hb8 hwn hr hwz h hj hx hx0 hx1 hk hlw hlw0 hlw3 hlt hls hlk e1 hcap hy hmx hnx hnS hnK cy fz hset hfail HFA heq ek hmem hyes;subst hvs hvk;go_upto_region 9 with(go_at_call 120;refine(uh HWN).mono ?_;rintro e w5 ⟨bw,cw,rfl,hrw,k5⟩;have y85:=k5.cell y8;have y95:=k5.cell y9;have HE5:=(uh HEQ) w5 _ k5 hrw;have HK5:Hid (Kb 0 wr w5):=k5;clear k5 hrw HWN HEQ y8 y9 y0 hg hix);rw[(uh HEK)];go_wp2_with fail;refine HE5.mono ?_;rintro e w6 ⟨rfl,k6⟩;have k56:=(uh HK5).trans k6;have HC6:=(uh HCT) w6 k56;obtain⟨cy,fzk,y86⟩:=(uh HCY) w6 k56;have HK6:Hid (Kb 0 wr w6):=k56;clear HE5 k6 HK5 HCT k56 HCY y85 y95;go_wp2_with fail;refine HC6.mono ?_;rintro e w7 ⟨rfl,rfl⟩
      rename World=>w6
      clear HC6;go_upto_region 14 with fail;obtain⟨hst,hyes,hC4,hqC,hk4,hz4,hnK⟩:=(uh HST)
      have hM8:=hst w6 HK6;obtain⟨w8,hw8⟩:∃w8,w8=w6.setCell (b.add k) (.int .i64 0):=⟨_,rfl⟩
      rw[<-hw8]at hM8⊢;have hC8:w8.heap[C]? =_:=hC4.kx hM8.kx.1 hqC;have y98:w8.cell? ⟨C,9,none⟩=some (.slice adk nK capk):=cell_of hC8 rfl;have y98a:∀o,(w8.alloc o).cell? ⟨C,9,none⟩=some (.slice adk nK capk):=λo=>(kb_alloc 0 w8 o).cell y98;have howna:∀o,(w8.alloc o).ownsRow w4.heap.size 3 1 (.slice adk nK capk) nK (iv s.K):=λo=>by rw[hnK];exact World.ownsRow.alloc (by have:=hM8.tk;rw[hnK]at this;exact this) o
      have hqc:=qr_cells w8 #[.int .i64 k] 3 [.int .i64 k] rfl;have h1c:∀u ∈ ([.int .i64 k]:List Value),u.oneCell'=true:=by intro u hu;simp at hu;subst hu;rfl
      have hs46:w4.heap.size<=w8.heap.size:=hM8.kx.size
      have HSTP:Hid (∀(E:Obj) (g c':Nat) (w9:World),w9.ownsRow w4.heap.size 3 1 (.slice (some ⟨g,0,none⟩) (nK+1) c') (nK+1) (iv s.K++[.int .i64 k])->(w8.alloc E).grownBy w9 (Value.slice adk nK capk).ownBlock->((Value.slice adk nK capk).ownBlock=some g\/g=w8.heap.size+1)->ReI a T base q C vt vg (.slice (some b) T.length cv) w (j+1) (.slice ads nS caps) (w9.setCell ⟨C,9,none⟩ (.slice (some ⟨g,0,none⟩) (nK+1) c'))/\w9.cell? ⟨C,9,none⟩=some (.slice adk nK capk)/\w9.frozen? ⟨C,9,none⟩=false):=(λE g c' w9 h1 h2 h3=>by
       have hM9:=RM.appK hM8 (v':=.slice (some ⟨g,0,none⟩) (nK+1) c') rfl (by rw[hnK]) h1 h2 h3 (Nat.le_succ _);have hC9:w9.heap[C]? =_:=hC4.kx hM9.kx.1 hqC
       refine⟨⟨_,w4.setCell ⟨C,9,none⟩ (.slice (some ⟨g,0,none⟩) (nK+1) c'),_,hyes,hM9.setC hC4 hqC _,hk4.trans ⟨rfl,rfl,by simp,λi _ hi=>heap_setCell_other w4 _ i _ hi⟩,by simpa using hz4,hC4.set9 _⟩,cell_of hC9 rfl,frozen_of hC9⟩:∀(E:Obj),_)
      clear hst hyes hC4 hqC hk4 hz4 hnK hM8 hw8 hC8 HST HK6 cy fzk y86;go_wp2_with (at_builtin;refine wpList_append_lies _ rfl (.tmp 70) (.tmp 72) 53 rfl w4.heap.size 3 i0 (.int .i64 0) 1 8 Tryz.underlying53 HI0 hz0 hzs hzb rfl (by decide) _ _ _ rfl (howna _) ⟨w8.heap.size,0,none⟩ 1 1 [.int .i64 k] rfl rfl hqc h1c (by decide) (by unfold maxLen;omega) (by omega) (by rw[World.size_alloc];omega) (w8.heap.size+1) (by simp) ?_;intro g cap' w9 hown3 hgr3 hl3 _;obtain⟨z1,z2,z3⟩:=(uh HSTP) _ _ _ _ hown3 hgr3 hl3;have HN:Hid (ReI a T base q C vt vg (.slice (some b) T.length cv) w (j+1) (.slice ads nS caps) (w9.setCell ⟨C,9,none⟩ (.slice (some ⟨g,0,none⟩) (nK+1) cap'))):=z1;clear z1 hown3 hgr3 hl3 howna hqc h1c HSTP);go_roundw
      case rel=>exact⟨j+1,_,rfl,by go_num,by omega,HN⟩
      case measure=>simp[intOf];omega
    ·have hxk:x=(k:Int):=by rw[<-hk];unfold rgt;rw[if_neg hneg]
     clear hx hk hmx hx0;subst hxk;have hle:¬(k:Int)<=-1-(k:Int):=by omega
     by_cases heq:(s.T.drop k).take lw=wts r
     rotate_left
     ·have HZ:Hid (∀W,Kb 0 wr W->ReA a T base q C vt vg (.slice (some b) T.length cv) w (.returned (.bool false)) W):=(uh HFA) (hfail (λq=>heq q.1))
      rw[dc_f heq]at HEQ;clear hX ht hl hgb hqC hqG hCG hn n42 hCl hgd hon htk hs hM hk4 hz4 hC4 hb8 hwn hr hwz h hj hx1 hlw hlw0 hlw3 hlt hls hlk e1 hcap hy hnx hnS hnK cy fz hset hfail HFA heq HCT;subst hvs hvk;go_upto_region 9 with(go_at_call 120;refine(uh HWN).mono ?_;rintro e w5 ⟨bw,cw,rfl,hrw,k5⟩;have y85:=k5.cell y8;have y95:=k5.cell y9;have HE5:=(uh HEQ) w5 _ k5 hrw;have HK5:Hid (Kb 0 wr w5):=k5;clear k5 hrw HWN HEQ y8 y9 y0 hg hix);go_wp2_with fail;refine HE5.mono ?_;rintro e w6 ⟨rfl,k6⟩;have HZ6:=(uh HZ) w6 ((uh HK5).trans k6);clear HE5 k6 HZ HK5;go_wp2_with fail;go_ret;exact HZ6
     rw[dc_t heq]at HEQ;rw[if_pos ⟨heq,λq=>hneg q.1⟩,if_neg hneg]at hnx;by_cases hop:opd r=true
     ·rw[if_pos hop]at hnx;have HN:Hid (∀W,Kb 0 wr W->ReI a T base q C vt vg (.slice (some b) T.length cv) w (j+1) vs W):=(λW kW=>⟨s,w4,vk,hnx,hM.kb kW,hk4,hz4,hC4⟩:∀W,_)
      have hr2:r=22\/r=23:=by unfold opd at hop;simpa using hop
      clear hX ht hl hgb hqC hqG hCG hn n42 hCl hgd hon htk hs hM hk4 hz4 hC4 hb8 hwn hr hwz h hj hx1 hlw hlw0 hlw3 hlt hls hlk e1 hcap hy hnx hnS hnK cy fz hset hfail HFA heq HCT hop;subst hvs hvk;go_upto_region 9 with(go_at_call 120;refine(uh HWN).mono ?_;rintro e w5 ⟨bw,cw,rfl,hrw,k5⟩;have y85:=k5.cell y8;have y95:=k5.cell y9;have HE5:=(uh HEQ) w5 _ k5 hrw;have HK5:Hid (Kb 0 wr w5):=k5;clear k5 hrw HWN HEQ y8 y9 y0 hg hix);go_wp2_with fail;refine HE5.mono ?_;rintro e w6 ⟨rfl,k6⟩;have HN6:=(uh HN) w6 ((uh HK5).trans k6);clear HE5 k6 HN HK5;rcases hr2 with rfl|rfl
      ·go_wp2_with fail;go_roundw
       case rel=>exact⟨j+1,_,rfl,by go_num,by omega,HN6⟩
       case measure=>simp[intOf];omega
      ·go_wp2_with fail;go_roundw
       case rel=>exact⟨j+1,_,rfl,by go_num,by omega,HN6⟩
       case measure=>simp[intOf];omega
     ·rw[if_neg hop]at hnx;have HST:Hid ((∀W,Kb 0 wr W->RM base q (.slice (some b) T.length cv) w4 s.T s.S s.K vk vs W)/\rdn a T (j+1)=some ⟨s.T,s.S++[(k:Int)],s.K⟩/\ChB C a vt vg (.slice (some b) T.length cv) vk w4/\q≠C/\Kx C w w4/\w4.heap.size=w.heap.size/\nS=s.S.length):=(⟨λW kW=>hM.kb kW,hnx,hC4,hqC,hk4,hz4,hnS⟩:_/\_)
      have g22:=bne (show((r:Nat):Int)≠22 by intro q;exact hop (by unfold opd;rw[show r=22 by omega];rfl));have g23:=bne (show((r:Nat):Int)≠23 by intro q;exact hop (by unfold opd;rw[show r=23 by omega];rfl));have nSI:nS<=4:=by omega
      have n22:((r:Int) !=22)=true:=by show(!((r:Int)==22))=true;rw[g22];rfl
      have n23:((r:Int) !=23)=true:=by show(!((r:Int)==23))=true;rw[g23];rfl
      have hk0:decide ((k:Int)<0)=false:=decide_eq_false hneg;clear hX ht hl hgb hqC hqG hCG hn n42 hCl hgd hon htk hs hM hk4 hz4 hC4 hb8 hwn hr hwz h hj hx1 hlw hlw0 hlw3 hlt hls hlk e1 hcap hy hnx hnS hnK cy fz hset hfail HFA heq HCT hop;subst hvs hvk;go_upto_region 9 with(go_at_call 120;refine(uh HWN).mono ?_;rintro e w5 ⟨bw,cw,rfl,hrw,k5⟩;have y85:=k5.cell y8;have y95:=k5.cell y9;have HE5:=(uh HEQ) w5 _ k5 hrw;have HK5:Hid (Kb 0 wr w5):=k5;clear k5 hrw HWN HEQ y8 y9 y0 hg hix);go_wp2_with fail;refine HE5.mono ?_;rintro e w6 ⟨rfl,k6⟩;have k56:=(uh HK5).trans k6;obtain⟨hst,hyes,hC4,hqC,hk4,hz4,hnS⟩:=(uh HST)
      have hM6:=hst w6 k56;have howna:∀o,(w6.alloc o).ownsRow w4.heap.size 3 1 (.slice ads nS caps) nS (iv s.S):=λo=>by rw[hnS];exact World.ownsRow.alloc (by have:=hM6.st;rw[hnS]at this;exact this) o
      have hqc:=qr_cells w6 #[.int .i64 k] 3 [.int .i64 k] rfl;have h1c:∀u ∈ ([.int .i64 k]:List Value),u.oneCell'=true:=by intro u hu;simp at hu;subst hu;rfl
      have hs46:w4.heap.size<=w6.heap.size:=hM6.kx.size;have HSTP:Hid (∀(E:Obj) (g c':Nat) (w9:World),w9.ownsRow w4.heap.size 3 1 (.slice (some ⟨g,0,none⟩) (nS+1) c') (nS+1) (iv s.S++[.int .i64 k])->(w6.alloc E).grownBy w9 (Value.slice ads nS caps).ownBlock->((Value.slice ads nS caps).ownBlock=some g\/g=w6.heap.size+1)->ReI a T base q C vt vg (.slice (some b) T.length cv) w (j+1) (.slice (some ⟨g,0,none⟩) (nS+1) c') w9):=(λE g c' w9 h1 h2 h3=>⟨_,w4,_,hyes,RM.appS hM6 (v':=.slice (some ⟨g,0,none⟩) (nS+1) c') rfl (by rw[hnS]) h1 h2 h3 (Nat.le_succ _),hk4,hz4,hC4⟩:∀(E:Obj),_)
      clear HE5 k6 HK5 k56 hst hyes hC4 hqC hk4 hz4 hnS hM6 HST y85 y95;go_wp2_with (at_builtin;refine wpList_append_lies _ rfl (.tmp 82) (.tmp 84) 53 rfl w4.heap.size 3 i0 (.int .i64 0) 1 8 Tryz.underlying53 HI0 hz0 hzs hzb rfl (by decide) _ _ _ rfl (howna _) ⟨w6.heap.size,0,none⟩ 1 1 [.int .i64 k] rfl rfl hqc h1c (by decide) (by unfold maxLen;omega) (by omega) (by rw[World.size_alloc];omega) (w6.heap.size+1) (by simp) ?_;intro g cap' w9 hown3 hgr3 hl3 _;have HN:Hid (ReI a T base q C vt vg (.slice (some b) T.length cv) w (j+1) (.slice (some ⟨g,0,none⟩) (nS+1) cap') w9):=(uh HSTP) _ _ _ _ hown3 hgr3 hl3;clear hown3 hgr3 hl3 howna hqc h1c HSTP);go_roundw
      case rel=>exact⟨j+1,_,rfl,by go_num,by omega,HN⟩
      case measure=>simp[intOf];omega
  ·have jI:¬(j:Int)<4:=by omega
   obtain rfl:j=4:=by omega
   have HZ:Hid (ReA a T base q C vt vg (.slice pv T.length cv) w (.returned (.bool true)) wr):=hX.fin hqC;clear hX h hj ht hl hgb hqC hqG hCG hn n42 hCl hgd;go_wp2_with fail;go_ret;exact HZ
