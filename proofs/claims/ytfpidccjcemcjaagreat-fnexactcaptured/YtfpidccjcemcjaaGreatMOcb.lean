import Derived.Test.YtfpidccjcemcjaaGreatMZsq
import Derived.Test.YtfpidccjcemcjaaGreatMNqa
import Derived.Test.YtfpidccjcemcjaaGreatMNqb
import Derived.Test.YtfpidccjcemcjaaGreatMZaa
import Derived.Test.YtfpidccjcemcjaaGreatMNia
set_option maxHeartbeats 16000000
namespace Go.Proofs.YtfpidccjcemcjaaGreat.Fo
open Go.ChangeShapes Go.WideShapes Go.ChangeAt Go.RowKit
set_option linter.unusedVariables false
set_option maxRecDepth 100000
def UpS (d:Fd) (j:Nat) (y:Int):Prop:=∃ i,i < j∧(d.U i).1=true∧(d.U i).2=y
def CapS (F:Nat→Fd) (f t:Nat) (y:Int):Prop:=∃ s,s < t∧((F f).N s).a.k=36∧UpS (F (((F f).N s).R 0).toNat) (F (((F f).N s).R 0).toNat).u y
theorem ups_zero (d:Fd) (y:Int):¬ UpS d 0 y:=fun ⟨_,h,_⟩=>by omega
theorem ups_t {d:Fd} {j:Nat} (h:(d.U j).1=true) (y:Int):UpS d (j+1) y↔UpS d j y∨y=(d.U j).2:=by
 constructor
 ·rintro ⟨i,hi,h1,h2⟩
  by_cases e:i=j
  ·subst e;exact .inr h2.symm
  ·exact .inl ⟨i,by omega,h1,h2⟩
 ·rintro (⟨i,hi,h1,h2⟩ | e)
  ·exact ⟨i,by omega,h1,h2⟩
  ·exact ⟨j,by omega,h,e.symm⟩
theorem ups_f {d:Fd} {j:Nat} (h:(d.U j).1=false) (y:Int):UpS d (j+1) y↔UpS d j y:=by
 constructor
 ·rintro ⟨i,hi,h1,h2⟩
  by_cases e:i=j
  ·subst e;rw [h] at h1;cases h1
  ·exact ⟨i,by omega,h1,h2⟩
 ·rintro ⟨i,hi,h1,h2⟩
  exact ⟨i,by omega,h1,h2⟩
theorem cap_t {F:Nat→Fd} {f t g:Nat} (h:((F f).N t).a.k=36) (hg:((F f).N t).R 0=(g:Int)) (y:Int):CapS F f (t+1) y↔CapS F f t y∨UpS (F g) (F g).u y:=by
 constructor
 ·rintro ⟨i,hi,h1,h2⟩
  by_cases e:i=t
  ·subst e;rw [hg] at h2;exact .inr h2
  ·exact .inl ⟨i,by omega,h1,h2⟩
 ·rintro (⟨i,hi,h1,h2⟩ | e)
  ·exact ⟨i,by omega,h1,h2⟩
  ·refine ⟨t,by omega,h,?_⟩
   rw [hg]
   exact e
theorem cap_f {F:Nat→Fd} {f t:Nat} (h:¬ ((F f).N t).a.k=36) (y:Int):CapS F f (t+1) y↔CapS F f t y:=by
 constructor
 ·rintro ⟨i,hi,h1,h2⟩
  by_cases e:i=t
  ·subst e;exact absurd h1 h
  ·exact ⟨i,by omega,h1,h2⟩
 ·rintro ⟨i,hi,h1,h2⟩
  exact ⟨i,by omega,h1,h2⟩
structure Vd (nf:Nat) (F:Nat→Fd) (f:Nat):Prop where
 one:∀ t,t < (F f).n→((F f).N t).a.k=36→((F f).N t).p=1
 rg:∀ t,t < (F f).n→((F f).N t).a.k=36→∃ g:Nat,((F f).N t).R 0=(g:Int)∧g < nf
 up:∀ t,t < (F f).n→((F f).N t).a.k=36→∀ g:Nat,((F f).N t).R 0=(g:Int)→∀ j,j < (F g).u→((F g).U j).1=true→∃ x:Nat,((F g).U j).2=(x:Int)∧x < (F f).p
theorem vd_of {nf:Nat} {F:Nat→Fd} (hb:Bd nf F) {a b:Nat} (h:Ans nf F 0 a b) {f:Nat} (hf:f < nf):Vd nf F f:=by
 rcases h with ⟨h,_⟩ | ⟨_,h,_⟩ | ⟨hz,-,-,-,hl⟩
 ·omega
 ·omega
 have ok:=fok_of hb hz (hl 2 (by omega) (by omega)) (hl 3 (by omega) (by omega)) (hl 4 (by omega) (by omega)) hf
 have h6:∀ t,t < (F f).n→R6 (F f) nf t:=fun t ht=>hl 6 (by omega) (by omega) f hf t ht
 have h8:∀ t,t < (F f).n→R8 F f t:=fun t ht=>hl 8 (by omega) (by omega) f hf t ht
 have one:∀ t,t < (F f).n→((F f).N t).a.k=36→((F f).N t).p=1:=fun t ht hk=>ok.one t ht (.inr (.inr hk))
 refine ⟨one,fun t ht hk=>?_,fun t ht hk g hg j hj hl=>?_⟩
 ·obtain ⟨q1,q2⟩:=(h6 t ht).2.1 hk 0 (by rw [one t ht hk];omega)
  exact ⟨(((F f).N t).R 0).toNat,(Int.toNat_of_nonneg q1).symm,by omega⟩
 ·have:=((h8 t ht).2 hk).2.2 j
  rw [hg,Int.toNat_natCast] at this
  obtain ⟨q1,q2,_⟩:=(this hj).1 hl
  exact ⟨((F g).U j).2.toNat,(Int.toNat_of_nonneg q1).symm,by omega⟩
theorem madeC {W:World} {g n:Nat} {t:TypeId} (h:W.heap[g]? = some (.cells (madeCells #[.bool false] (n*1)) t (0,0))):(∀ k,k < n→W.cell? ⟨g,k,none⟩=some (.bool false))∧∀ j,W.frozen? ⟨g,j,none⟩=false:=by
 refine ⟨fun k hk=>cell_of h ?_,fun j=>frozen_of h⟩
 simp [madeCells,hk,Nat.mod_one]
structure Fg (w:World) (G p:Nat) (D:Int→Prop) (W:World):Prop where
 lo:w.heap.size≤G
 hi:G < W.heap.size
 kb:Kb 0 w W
 sn:Sn G p D W
theorem Fg.keep {w:World} {G p:Nat} {D:Int→Prop} {W W':World} (h:Fg w G p D W) (k:Kb 0 W W'):Fg w G p D W':=⟨h.lo,Nat.lt_of_lt_of_le h.hi k.size,h.kb.trans k,h.sn.keep h.hi k⟩
theorem Fg.eqv {w:World} {G p:Nat} {D D':Int→Prop} {W:World} (h:Fg w G p D W) (e:∀ y,D' y↔D y):Fg w G p D' W:=⟨h.lo,h.hi,h.kb,h.sn.eqv e⟩
theorem Fg.set {w:World} {G p:Nat} {D D':Int→Prop} {W:World} (h:Fg w G p D W) {x:Nat} (hx:x < p) (hD:∀ y:Int,D' y↔D y∨y=(x:Int)):Fg w G p D' (W.setCell ⟨G,x,none⟩ (.bool true)):=by
 refine ⟨h.lo,by rw [World.size_setCell];exact h.hi,h.kb.setCell _ (.inr h.lo) _,h.sn.set hx hD⟩
theorem fg_made (w a:World) (k:Kb 0 w a) (p:Nat) (D:Int→Prop) (hD:∀ y,¬ D y) (t:TypeId):Fg w a.heap.size p D (a.alloc (.cells (madeCells #[.bool false] (p*1)) t)):=by
 have q:=alloc_new a (madeCells #[.bool false] (p*1)) t
 exact ⟨k.size,by simp,k.trans (kb_alloc _ _ _),fun v hv=>by rw [dc_f (hD _)];exact (madeC q).1 v hv,(madeC q).2⟩
theorem sp_capt {a : Addr} {ca nf f : Nat} {F : Nat → Fd} (w : World) (hf : f < nf) (hfn : ∀ i, i < nf → FnC 0 w (a.add (i * 7)) (F i)) (hb : Bd nf F) (vd : Vd nf F f) :
  Calls Tryz.prog 15 #[.agg #[.slice (some a) nf ca],.int .i64 (f:Int)] w fun e w'=>∃ G,e = .returned (.slice (some ⟨G,0,none⟩) (F f).p (F f).p)∧Fg w G (F f).p (CapS F f (F f).n) w':=by
 have hfI:(f:Int) < (nf:Int):=by omega
 have hnfI:(nf:Int)≤1048576:=by have:=hb.hnf;omega
 have hpI:((F f).p:Int)≤1048576:=by have:=hb.hp f hf;omega
 have hnI:((F f).n:Int)≤1048576:=by have:=hb.hn f hf;omega
 obtain ⟨vv,vu,vn,⟨d0,d1,d2,d3,d4,d5,d6⟩,⟨pv,cv,rfl,-⟩,⟨pu,cu,rfl,-⟩,hvn⟩:=hfn f hf
 obtain ⟨pn,cn,rfl,hvn2⟩:=hvn
 have hmk:∀ W,_:=fun W=>run_make (P:=Tryz.prog) W 26 4 Tryz.t4 (.bool false) Tryz.underlying26 (by kernel_rfl) (by kernel_rfl) .i64 .i64 ((F f).p:Int) ((F f).p:Int) (by omega) (Int.le_refl _) (by show (1:Int)*((F f).p:Int)≤_;omega) (by omega)
 simp only [Int.toNat_natCast] at hmk
 obtain ⟨w2,hw2⟩:∃ w2,w2=w.alloc (.cells #[.slice (some a) nf ca] 30):=⟨_,rfl⟩
 have k2:Kb 0 w w2:=by rw [hw2];exact kb_alloc _ _ _
 have z2:w2.heap.size=w.heap.size+1:=by rw [hw2];simp
 have b0:w2.heap[w.heap.size]? = some (.cells #[.slice (some a) nf ca] 30 (0,0)):=by rw [hw2];exact alloc_new _ _ _
 obtain ⟨w3,hw3⟩:∃ w3,w3=w2.alloc (.cells (madeCells #[.bool false] ((F f).p*Tryz.t4.size)) 4):=⟨_,rfl⟩
 have g3:Fg w2 w2.heap.size (F f).p (CapS F f 0) w3:=by rw [hw3];exact fg_made w2 w2 (Kb.refl _ _) (F f).p _ (fun y ⟨_,q,_⟩=>by omega) 4
 have d4a:∀ o,(w.alloc o).cell? ⟨(a.add (f*7)).block,(a.add (f*7)).off+4,none⟩=some (.slice pv (F f).p cv):=fun o=>(kb_alloc 0 w o).cell d4
 have d6a:∀ o p,((w.alloc o).alloc p).cell? ⟨(a.add (f*7)).block,(a.add (f*7)).off+6,none⟩=some (.slice pn (F f).n cn):=fun o p=>(kb_alloc2 0 w o p).cell d6
 have u0a:∀ o,((w.alloc (.cells #[.slice (some a) nf ca] 30)).alloc o).cell? ⟨w.heap.size,0,none⟩=some (.slice (some a) nf ca):=fun o=>(kb_alloc 0 _ o).cell (cell_of (alloc_new _ _ _) rfl)
 have HB:Hid (Kb 0 w w2∧w2.heap[w.heap.size]? = some (.cells #[.slice (some a) nf ca] 30 (0,0))∧(∀ i,i < nf→FnC 0 w (a.add (i*7)) (F i))∧(0 < (F f).n→∃ a,pn=some a∧(F f).n≤cn∧0≤a.block∧∀ i,i < (F f).n→NodeC 0 w (a.add (i*8)) ((F f).N i))∧Bd nf F∧Vd nf F f):=(⟨k2,b0,hfn,hvn2,hb,vd⟩:_∧_)
 have HW3:Hid (w3=(w.alloc (.cells #[.slice (some a) nf ca] 30)).alloc (.cells (madeCells #[.bool false] ((F f).p*Tryz.t4.size)) 4)):=by rw [← hw2];exact hw3
 obtain ⟨G,hG⟩:∃ G,G=w2.heap.size:=⟨_,rfl⟩
 rw [← hG] at g3
 have HG:Hid (G=w.heap.size+1):=hG.trans z2
 have H0:Hid (Fg w2 G (F f).p (CapS F f 0) w3):=g3
 clear hw2 hw3 k2 b0 z2 hfn hvn2 hb vd hf d0 d1 d2 d3 d4 d5 d6 g3 hG
 go_enter Tryz.func15,Tryz.ntmps15
 go_wp2_with fail
 rw [← (uh HW3),← (uh HG)]
 clear HW3 d4a d6a u0a hmk HG
 go_loopw [25] (fun s25 wr=>∃ t:Nat,s25 = .int .i64 (t:Int)∧t≤(F f).n∧Hid (Fg w2 G (F f).p (CapS F f t) wr)) (fun s25 _=>(F f).n - (intOf s25).toNat)
 case atStart=>exact ⟨0,rfl,Nat.zero_le _,H0⟩
 case round =>
  clear H0
  obtain ⟨t,rfl,ht0,HX⟩:=hrel
  have hx:=(uh HX)
  obtain ⟨k2,b0,hfn,hvn2,hb,vd⟩:=(uh HB)
  rcases Nat.lt_or_ge t (F f).n with ht | ht
  case inr =>
   obtain rfl:t=(F f).n:=by omega
   have hI:¬ ((F f).n:Int) < ((F f).n:Int):=by omega
   have HE:Hid (Fg w G (F f).p (CapS F f (F f).n) wr):=(⟨Nat.le_trans k2.size hx.lo,hx.hi,k2.trans hx.kb,hx.sn⟩:Fg w G (F f).p (CapS F f (F f).n) wr)
   clear HX hx k2 b0 hfn hvn2 hb vd HB ht
   go_wp2_with fail
   go_ret
   exact ⟨G,rfl,HE⟩
  have hI:(t:Int) < ((F f).n:Int):=by omega
  obtain ⟨AN,rfl,hcn,-,hrN⟩:=hvn2 (by omega)
  obtain ⟨vr,vk,⟨y0,y1,y2,y3,y4,y5,y6,y7⟩,⟨pr,cr,rfl,hvr⟩,⟨pk,ck,rfl,-⟩⟩:=hrN t ht
  have kw:=k2.trans hx.kb
  replace y0:=kw.cell y0
  replace y1:=kw.cell y1
  replace y2:=kw.cell y2
  replace y3:=kw.cell y3
  replace y4:=kw.cell y4
  replace y5:=kw.cell y5
  replace y6:=kw.cell y6
  replace y7:=kw.cell y7
  have hst:=hst0
  obtain ⟨W4,hW4⟩:∃ W4,W4=wr.alloc (.cells #[.int .i64 ((F f).N t).a.k,.int .i64 ((F f).N t).a.l,.int .i64 ((F f).N t).a.o,.int .i64 ((F f).N t).a.m,.float .f64 ((F f).N t).a.g,.string ((F f).N t).a.x,.slice pr ((F f).N t).p cr,.slice pk ((F f).N t).q ck] 59):=⟨_,rfl⟩
  have k4:Kb 0 wr W4:=by rw [hW4];exact kb_alloc _ _ _
  by_cases h36:((F f).N t).a.k=36
  case neg =>
   have HN:Hid (Fg w2 G (F f).p (CapS F f (t+1)) (wr.alloc (.cells #[.int .i64 ((F f).N t).a.k,.int .i64 ((F f).N t).a.l,.int .i64 ((F f).N t).a.o,.int .i64 ((F f).N t).a.m,.float .f64 ((F f).N t).a.g,.string ((F f).N t).a.x,.slice pr ((F f).N t).p cr,.slice pk ((F f).N t).q ck] 59))):=by rw [← hW4];exact (hx.keep k4).eqv (cap_f h36)
   have g36:(((F f).N t).a.k != 36)=true:=by simp [h36]
   have g36b:(((F f).N t).a.k == 36)=false:=bne h36
   clear HX hx k2 b0 hfn hvn2 hb vd HB ht hrN hvr kw k4 hW4 h36 hcn
   go_wp2_with fail
   go_roundw
   case rel=>exact ⟨t+1,by go_num,by omega,HN⟩
   case measure=>simp [intOf];omega
  obtain ⟨g,hg,hgn⟩:=vd.rg t ht h36
  have hp1:=vd.one t ht h36
  have hgI:(g:Int) < (nf:Int):=by omega
  obtain ⟨xv,xu,xn,⟨-,-,-,-,-,h5,-⟩,-,⟨pe,ce,rfl,hru⟩,-⟩:=hfn g hgn
  obtain ⟨AR,rfl,hcr,-,hr0⟩:=hvr (by rw [hp1];omega)
  have r0:=hr0 0 (by rw [hp1];omega)
  have kw4:=kw.trans k4
  have k24:=hx.kb.trans k4
  dsimp only at r0
  rw [hg] at r0
  rw [hp1] at y6 hW4
  rw [h36] at y0 hW4
  have q4:W4.heap[wr.heap.size]? = some (.cells #[.int .i64 36,.int .i64 ((F f).N t).a.l,.int .i64 ((F f).N t).a.o,.int .i64 ((F f).N t).a.m,.float .f64 ((F f).N t).a.g,.string ((F f).N t).a.x,.slice (some AR) 1 cr,.slice pk ((F f).N t).q ck] 59 (0,0)):=by rw [hW4];exact alloc_new _ _ _
  have e0:W4.cell? ⟨w.heap.size,0,none⟩=some (.slice (some a) nf ca):=k24.cell (cell_of b0 rfl)
  have e1:W4.cell? ⟨wr.heap.size,6,none⟩=some (.slice (some AR) 1 cr):=cell_of q4 rfl
  have e2:W4.cell? (AR.add 0)=some (.int .i64 (g:Int)):=kw4.cell r0
  have e2':W4.cell? AR=some (.int .i64 (g:Int)):=e2
  have e3:W4.cell? ⟨(a.add (g*7)).block,(a.add (g*7)).off+5,none⟩=some (.slice pe (F g).u ce):=kw4.cell h5
  have e4:W4.cell? ⟨wr.heap.size,0,none⟩=some (.int .i64 36):=cell_of q4 rfl
  have HW4:Hid (W4=wr.alloc (.cells #[.int .i64 36,.int .i64 ((F f).N t).a.l,.int .i64 ((F f).N t).a.o,.int .i64 ((F f).N t).a.m,.float .f64 ((F f).N t).a.g,.string ((F f).N t).a.x,.slice (some AR) 1 cr,.slice pk ((F f).N t).q ck] 59)):=hW4
  have HJ0:Hid (Fg w2 G (F f).p (fun y=>CapS F f t y∨UpS (F g) 0 y) W4):=(hx.keep k4).eqv (fun y=>⟨fun q=>q.elim id (fun q=>absurd q (ups_zero _ _)),.inl⟩)
  have HU:Hid (Kb 0 w w2∧(0 < (F g).u→∃ a,pe=some a∧(F g).u≤ce∧0≤a.block∧∀ i,i < (F g).u→CelU w (a.add (i*2)) ((F g).U i))∧((F f).N t).a.k=36∧((F f).N t).R 0=(g:Int)∧(∀ j,j < (F g).u→((F g).U j).1=true→∃ x:Nat,((F g).U j).2=(x:Int)∧x < (F f).p)∧t < (F f).n):=(⟨k2,hru,h36,hg,vd.up t ht h36 g hg,ht⟩:_∧_)
  have huI:((F g).u:Int)≤1048576:=by have:=hb.hu g hgn;omega
  clear HX hx k2 b0 hfn hvn2 hb vd HB hrN hvr kw k4 hW4 hg hgn hp1 h5 hru hr0 r0 kw4 k24 q4 hcn hcr h36 ht
  go_upto_region 6 with fail
  rw [← (uh HW4)]
  clear HW4
  go_quiet (skip)
  go_wp2_with fail
  clear e0 e1 e2 e2' e3 e4 y0 y1 y2 y3 y4 y5 y6 y7
  have HJ:Hid (Fg w2 G (F f).p (fun y=>CapS F f t y∨UpS (F g) 0 y) (W4.drewN nq)):=(uh HJ0).keep ((Kb.refl 0 W4).drewN nq)
  clear HJ0
  obtain ⟨wo,rfl⟩:∃ wo,wo=wr:=⟨_,rfl⟩
  go_loopw [42] (fun s42 wr=>∃ j:Nat,s42 = .int .i64 (j:Int)∧j≤(F g).u∧Hid (Fg w2 G (F f).p (fun y=>CapS F f t y∨UpS (F g) j y) wr)) (fun s42 _=>(F g).u - (intOf s42).toNat)
  case atStart=>exact ⟨0,rfl,Nat.zero_le _,HJ⟩
  case round =>
   clear HJ
   obtain ⟨j,rfl,hj,HX⟩:=hrel
   have hx:=(uh HX)
   obtain ⟨k2,hru,h36,hg,hup,ht⟩:=(uh HU)
   rcases Nat.lt_or_ge j (F g).u with h | h
   case inr =>
    obtain rfl:j=(F g).u:=by omega
    have hI':¬ ((F g).u:Int) < ((F g).u:Int):=by omega
    have HN:Hid (Fg w2 G (F f).p (CapS F f (t+1)) wr):=hx.eqv (cap_t h36 hg)
    clear HX hx k2 hru h36 hg hup HU h
    go_wp2_with fail
    go_roundw
    case rel=>exact ⟨t+1,by go_num,by omega,HN⟩
    case measure=>simp [intOf];omega
   have hI':(j:Int) < ((F g).u:Int):=by omega
   obtain ⟨pE,rfl,hce,-,hru2⟩:=hru (by omega)
   obtain ⟨z0,z1⟩:=hru2 j h
   have kw:=k2.trans hx.kb
   replace z0:=kw.cell z0
   replace z1:=kw.cell z1
   cases hl:((F g).U j).1 with
   | true =>
    obtain ⟨x,hx2,hxp⟩:=hup j h hl
    rw [hl] at z0
    rw [hx2] at z1
    have hxI:(x:Int) < ((F f).p:Int):=by omega
    obtain ⟨bb,hbb⟩:∃ bb,wr.cell? ⟨G,x,none⟩=some (.bool bb):=⟨_,hx.sn.1 x hxp⟩
    have ca:∀ o,(wr.alloc o).cell? ⟨G,x,none⟩=some (.bool bb):=fun o=>(kb_alloc 0 wr o).cell hbb
    have cf:∀ o,(wr.alloc o).frozen? ⟨G,x,none⟩=false:=fun o=>((kb_alloc 0 wr o).frozen zq hx.hi).trans (hx.sn.2 x)
    have HN:Hid (Fg w2 G (F f).p (fun y=>CapS F f t y∨UpS (F g) (j+1) y) ((wr.alloc (.cells #[.bool true,.int .i64 (x:Int)] 61)).setCell ⟨G,x,none⟩ (.bool true))):=(hx.keep (kb_alloc 0 wr _)).set hxp (fun y=>by rw [ups_t hl,hx2];exact or_assoc.symm)
    have hjs:j+1≤(F g).u:=h
    clear HX hx k2 hru h36 hg hup HU h hru2 kw hl hx2 hxp hbb hce
    go_wp2_with fail
    go_roundw
    case rel=>exact ⟨j+1,by go_num,hjs,HN⟩
    case measure=>simp [intOf];omega
   | false =>
    rw [hl] at z0
    have HN:Hid (Fg w2 G (F f).p (fun y=>CapS F f t y∨UpS (F g) (j+1) y) (wr.alloc (.cells #[.bool false,.int .i64 ((F g).U j).2] 61))):=(hx.keep (kb_alloc 0 wr _)).eqv (fun y=>by rw [ups_f hl])
    have hjs:j+1≤(F g).u:=h
    clear HX hx k2 hru h36 hg hup HU h hru2 kw hl hce
    go_wp2_with fail
    go_roundw
    case rel=>exact ⟨j+1,by go_num,hjs,HN⟩
    case measure=>simp [intOf];omega
end Go.Proofs.YtfpidccjcemcjaaGreat.Fo
