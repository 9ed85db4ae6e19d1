import Derived.Test.YtkhdehngobkkfaaGreatDoorABab
import Derived.WalkSpells
import Derived.Deep.Slices
set_option maxRecDepth 100000
set_option maxHeartbeats 4000000
namespace Go.Proofs.YtkhdehngobkkfaaGreatDoor.Fo
open Go.ChangeShapes Go.WideShapes Go.ChangeAt Go.RowKit
set_option linter.unusedVariables false
variable {g lo hi i n base e fuel:Nat}{S T:Nat->Prop}{a w w' W W' w1:World}{f:Gv}{v va:Value}{F:Nat->Gv}{t:Nat->Nat}{H:Type}{cs:List Value}
structure Kc (g lo hi:Nat) (S:Nat->Prop) (a w:World):Prop where
 os:w.os=a.os
 tape:w.tape=a.tape
 output:w.output=a.output
 size:a.heap.size<=w.heap.size
 block:∀k,k<a.heap.size->k≠g->¬S k->w.heap[k]? =a.heap[k]?
 cell:∀o,¬(lo<=o/\o<hi)->w.cell? ⟨g,o,none⟩=a.cell? ⟨g,o,none⟩
 fz:∀o,w.frozen? ⟨g,o,none⟩=a.frozen? ⟨g,o,none⟩
theorem Kc.refl(g lo hi:Nat)(S:Nat->Prop)(a:World):Kc g lo hi S a a:=⟨rfl,rfl,rfl,Nat.le_refl _,λ_ _ _ _=>rfl,λ_ _=>rfl,λ_=>rfl⟩
theorem Kc.set(h:Kc g lo hi S a w)(o:Nat)(h1:lo<=o)(h2:o<hi)(v:Value):Kc g lo hi S a (w.setCell ⟨g,o,none⟩ v):=
 ⟨h.os,h.tape,h.output,by simpa using h.size,λk hk hg hs=>(Below.heap_setCell w _ v k hg).trans (h.block k hk hg hs),
  λo' ho=>(set_ne _ _ _ _ _ (λe=>ho (by omega))).trans (h.cell o' ho),λo'=>(set_fz _ _ _ _ _).trans (h.fz o')⟩
theorem Kc.kq(h:Kc g lo hi S a w)(hq:Kq T w w')(hT:∀k,T k->S k/\k≠g)(hg:g<a.heap.size):Kc g lo hi S a w':=by
 have hgw:w'.heap[g]? =w.heap[g]?:=hq.block g (Nat.lt_of_lt_of_le hg h.size) (λe=>(hT g e).2 rfl)
 exact⟨hq.os.trans h.os,hq.tape.trans h.tape,hq.output.trans h.output,Nat.le_trans h.size hq.size,
  λk hk hn hs=>(hq.block k (Nat.lt_of_lt_of_le hk h.size) (λe=>hs (hT k e).1)).trans (h.block k hk hn hs),
  λo ho=>(World.cell?_of_block hgw).trans (h.cell o ho),λo=>(World.frozen?_of_block hgw).trans (h.fz o)⟩
theorem Kc.below(h:Kc g lo hi S a w)(hb:Below w.heap.size w w')(hg:g<a.heap.size):Kc g lo hi S a w':=
 h.kq (T:=λ_=>False) (Kq.of_below hb (Nat.le_refl _)) (λ_ f=>f.elim) hg
theorem add0(g i:Nat):(⟨g,0,none⟩:Addr).add i=⟨g,i,none⟩:=by
 by_cases e:i=0
 ·subst e;rfl
 ·simp[Addr.add,e]
def FormO(W:World)(g i:Nat)(f:Gv)(lo hi:Nat):Prop:=
 ∃vn vk gn gk,Cel9 W ⟨g,i*9,none⟩ f.a vn vk/\OwnR W vn gn f.p (λj=>.string (f.A j))/\OwnR W vk gk f.q (λj=>.int .i64 (f.K j))/\
  (0<f.p->lo<=gn/\gn<hi/\gn≠g)/\(0<f.q->lo<=gk/\gk<hi/\gk≠g)/\(0<f.p->0<f.q->gn≠gk)
theorem FormO.kc{j:Nat}(h:FormO W g j f lo hi)(k:Kc g (i*9) (i*9+9) S W W')(hij:j≠i)(hS:∀b,lo<=b->b<hi->¬S b):FormO W' g j f lo hi:=by
 obtain⟨vn,vk,gn,gk,hc,h1,h2,b1,b2,b3⟩:=h;refine⟨vn,vk,gn,gk,?_,h1.block ?_,h2.block ?_,b1,b2,b3⟩
 ·obtain⟨c0,c1,c2,c3,c4,c5,c6,c7,c8⟩:=hc;have e:∀c,c<9->W'.cell? ⟨g,j*9+c,none⟩=W.cell? ⟨g,j*9+c,none⟩:=λc hc=>k.cell _ (by omega);exact⟨(e 0 (by omega)).trans c0,(e 1 (by omega)).trans c1,(e 2 (by omega)).trans c2,(e 3 (by omega)).trans c3,(e 4 (by omega)).trans c4,(e 5 (by omega)).trans c5,(e 6 (by omega)).trans c6,(e 7 (by omega)).trans c7,(e 8 (by omega)).trans c8⟩
 ·intro hp;obtain⟨q1,q2,q3⟩:=b1 hp;exact k.block gn (lt_of_cell (h1.cell 0 hp)) q3 (hS gn q1 q2)
 ·intro hp;obtain⟨q1,q2,q3⟩:=b2 hp;exact k.block gk (lt_of_cell (h2.cell 0 hp)) q3 (hS gk q1 q2)
structure OwnF (W:World) (v:Value) (g n:Nat) (F:Nat->Gv) (t:Nat->Nat) (lo hi:Nat):Prop where
 sl:∃pa cap,v=.slice pa n cap/\(0<n->pa=some ⟨g,0,none⟩/\n<=cap)
 frm:∀i,i<n->FormO W g i (F i) (t i) (t (i+1))
 fz:0<n->∀j,W.frozen? ⟨g,j,none⟩=false
 up:∀i j,i<=j->j<=n->t i<=t j
 bg:0<n->lo<=g/\g<hi
 b0:lo<=t 0
 bn:t n<=hi
theorem OwnF.row(h:OwnF W v g n F t lo hi):RowF W v n F:=by
 obtain⟨pa,cap,h1,h2⟩:=h.sl;refine⟨pa,cap,h1,λhn=>⟨⟨g,0,none⟩,(h2 hn).1,(h2 hn).2,λi hi=>?_⟩⟩;obtain⟨vn,vk,gn,gk,hc,o1,o2,_⟩:=h.frm i hi;rw[add0];exact⟨vn,vk,hc,o1.row,o2.row⟩
theorem OwnF.lt(h:OwnF W v g n F t lo hi)(hn:0<n):g<W.heap.size:=by
 obtain⟨vn,vk,gn,gk,hc,o1,o2,_⟩:=h.frm 0 hn;exact lt_of_cell hc.c0
theorem OwnF.keep(h:OwnF W v g n F t lo hi)(hb:∀b,lo<=b->b<hi->b<W.heap.size->W'.heap[b]? =W.heap[b]?):OwnF W' v g n F t lo hi:=by
 refine⟨h.sl,λi hi=>?_,λhn j=>?_,h.up,h.bg,h.b0,h.bn⟩
 ·obtain⟨vn,vk,gn,gk,hc,h1,h2,b1,b2,b3⟩:=h.frm i hi;have hn:0<n:=by omega
  have hgb:=hb g (h.bg hn).1 (h.bg hn).2 (h.lt hn);have u0:=h.up 0 i (by omega) (by omega);have u1:=h.up (i+1) n (by omega) (by omega);have u2:=h.b0;have u3:=h.bn;refine⟨vn,vk,gn,gk,?_,h1.block ?_,h2.block ?_,b1,b2,b3⟩
  ·obtain⟨c0,c1,c2,c3,c4,c5,c6,c7,c8⟩:=hc;have e:∀c,W'.cell? ⟨g,c,none⟩=W.cell? ⟨g,c,none⟩:=λc=>World.cell?_of_block hgb;exact⟨(e _).trans c0,(e _).trans c1,(e _).trans c2,(e _).trans c3,(e _).trans c4,(e _).trans c5,(e _).trans c6,(e _).trans c7,(e _).trans c8⟩
  ·intro hp;obtain⟨q1,q2,q3⟩:=b1 hp;exact hb gn (by omega) (by omega) (lt_of_cell (h1.cell 0 hp))
  ·intro hp;obtain⟨q1,q2,q3⟩:=b2 hp;exact hb gk (by omega) (by omega) (lt_of_cell (h2.cell 0 hp))
 ·rw[World.frozen?_of_block (hb g (h.bg hn).1 (h.bg hn).2 (h.lt hn))];exact h.fz hn j
def kst(F:Nat->Gv)(k i:Nat):Nat:=k+7*i+smr F i
def mkf(F:Nat->Gv)(k i:Nat):Gv:=
 ⟨⟨(kst F k i:Int),(kst F k i:Int)+1,(kst F k i:Int)+2,(kst F k i:Int)+3,(kst F k i:Int)+4,(kst F k i:Int)+5,mtx (kst F k i+6)⟩,(F i).p,λj=>mtx (kst F k i+7+j),(F i).q,λj=>((kst F k i+7+(F i).p:Nat):Int)+(j:Int)⟩
def mix(F:Nat->Gv)(k i j:Nat):Gv:=if j<i then mkf F k j else F j
theorem smr_mono(F:Nat->Gv)(h:i<=n):smr F i<=smr F n:=by
  induction n with
  | zero => obtain rfl : i = 0 := by omega
            exact Nat.le_refl _
  |succ n ih=>
    by_cases e:i=n+1
    · subst e;exact Nat.le_refl _
    · have:=ih (by omega);show _<=smr F n+(F n).p+(F n).q;omega
theorem OwnF.mark{k:Nat}(h:OwnF W v g n (mix F k i) t lo hi)(hi':i<n)
    (hk:Kc g (i*9) (i*9+9) (λb=>t i<=b/\b<t (i+1)) W W') (hf:FormO W' g i (mkf F k i) (t i) (t (i+1))):OwnF W' v g n (mix F k (i+1)) t lo hi:=by
  refine⟨h.sl,λj hj=>?_,λhn j=>(hk.fz j).trans (h.fz hn j),h.up,h.bg,h.b0,h.bn⟩;by_cases e:j=i
  · subst e;rw[show mix F k (j+1) j=mkf F k j from if_pos (by omega)];exact hf
  · have e2 : mix F k (i + 1) j = mix F k i j := by
      unfold mix;by_cases l:j<i
      · rw[if_pos l,if_pos (by omega)]
      · rw[if_neg l,if_neg (by omega)]
    rw[e2];refine(h.frm j hj).kc hk e (λb h1 h2 h3=>?_);rcases Nat.lt_or_ge j i with l|l
    · have:=h.up (j+1) i (by omega) (by omega);omega
    · have:=h.up (i+1) j (by omega) (by omega);omega
theorem Kc.mono(h:Kc g lo hi S a w)(hs:∀k,S k->T k):Kc g lo hi T a w:=
 ⟨h.os,h.tape,h.output,h.size,λk hk hg hn=>h.block k hk hg (λe=>hn (hs k e)),h.cell,h.fz⟩
def s6(W:World)(g o:Nat)(x:Int):World:=
 (((((W.setCell ⟨g,o,none⟩ (.int .i64 x)).setCell ⟨g,o+1,none⟩ (.int .i64 (x+1))).setCell ⟨g,o+2,none⟩ (.int .i64 (x+1+1))).setCell ⟨g,o+3,none⟩ (.int .i64 (x+1+1+1))).setCell ⟨g,o+4,none⟩ (.int .i64 (x+1+1+1+1))).setCell ⟨g,o+5,none⟩ (.int .i64 (x+1+1+1+1+1))
theorem OwnF.below(h:OwnF W v g n F t lo hi)(hb:Below W.heap.size W W'):OwnF W' v g n F t lo hi:=
 h.keep (λb _ _ hl=>hb.block b hl)
def fv0:Fv:=⟨0,0,0,0,0,0,⟨#[]⟩⟩
def z9:Value:=.agg #[.int .i64 0,.int .i64 0,.int .i64 0,.int .i64 0,.int .i64 0,.int .i64 0,.string ⟨#[]⟩,.slice none 0 0,.slice none 0 0]
theorem z9c:z9.cells=#[.int .i64 0,.int .i64 0,.int .i64 0,.int .i64 0,.int .i64 0,.int .i64 0,.string ⟨#[]⟩,.slice none 0 0,.slice none 0 0]:=by rfl
theorem made9(w:World)(e n:Nat)(j c:Nat)(hj:j<n)(hc:c<9):(w.alloc (.cells (madeCells z9.cells (n*9)) e)).cell? ⟨w.heap.size,j*9+c,none⟩=z9.cells[c]?:=by
 have hs:z9.cells.size=9:=by rw[z9c];rfl
 have hb:j*9+c<n*9:=by omega
 have hg:(madeCells z9.cells (n*9))[j*9+c]? =z9.cells[c]?:=by
  have hm:(j*9+c)%9=c:=by omega
  simp[madeCells,hs,hb,hm];rw[getElem?_pos z9.cells c (by omega),getElem!_pos z9.cells c (by omega)]
 rw[World.cell?_alloc_at _ _ _ _ rfl];exact hg
def s9(W:World)(g o:Nat)(a:Fv)(vn vk:Value):World:=
 ((((((((W.setCell ⟨g,o,none⟩ (.int .i64 a.k)).setCell ⟨g,o+1,none⟩ (.int .i64 a.f)).setCell ⟨g,o+2,none⟩ (.int .i64 a.t)).setCell ⟨g,o+3,none⟩ (.int .i64 a.l)).setCell ⟨g,o+4,none⟩ (.int .i64 a.o)).setCell ⟨g,o+5,none⟩ (.int .i64 a.m)).setCell ⟨g,o+6,none⟩ (.string a.x)).setCell ⟨g,o+7,none⟩ vn).setCell ⟨g,o+8,none⟩ vk
theorem s9_kc(W:World)(g i:Nat)(a:Fv)(vn vk:Value)(S:Nat->Prop):Kc g (i*9) (i*9+9) S W (s9 W g (i*9) a vn vk):=
 (((((((((Kc.refl g (i*9) (i*9+9) S W).set (i*9) (by omega) (by omega) _).set (i*9+1) (by omega) (by omega) _).set (i*9+2) (by omega) (by omega) _).set (i*9+3) (by omega) (by omega) _).set (i*9+4) (by omega) (by omega) _).set (i*9+5) (by omega) (by omega) _).set (i*9+6) (by omega) (by omega) _).set (i*9+7) (by omega) (by omega) _).set (i*9+8) (by omega) (by omega) _
theorem s9_size(W:World)(g o:Nat)(a:Fv)(vn vk:Value):(s9 W g o a vn vk).heap.size=W.heap.size:=by
 unfold s9
 simp
theorem s9_cel{o:Nat}{b:Fv}{un uk:Value}(h:Cel9 W ⟨g,o,none⟩ b un uk)(a:Fv)(vn vk:Value):Cel9 (s9 W g o a vn vk) ⟨g,o,none⟩ a vn vk:=by
 obtain⟨h0,h1,h2,h3,h4,h5,h6,h7,h8⟩:=h;dsimp only at h1 h2 h3 h4 h5 h6 h7 h8;unfold s9;refine⟨?_,?_,?_,?_,?_,?_,?_,?_,?_⟩<;>try dsimp only
 ·rw[set_ne _ _ _ _ _ (by omega),set_ne _ _ _ _ _ (by omega),set_ne _ _ _ _ _ (by omega),set_ne _ _ _ _ _ (by omega),set_ne _ _ _ _ _ (by omega),set_ne _ _ _ _ _ (by omega),set_ne _ _ _ _ _ (by omega),set_ne _ _ _ _ _ (by omega)];exact set_eq _ _ _ _ _ h0
 ·rw[set_ne _ _ _ _ _ (by omega),set_ne _ _ _ _ _ (by omega),set_ne _ _ _ _ _ (by omega),set_ne _ _ _ _ _ (by omega),set_ne _ _ _ _ _ (by omega),set_ne _ _ _ _ _ (by omega),set_ne _ _ _ _ _ (by omega)];exact set_eq _ _ _ _ _ (by rw[set_ne _ _ _ _ _ (by omega)];exact h1)
 ·rw[set_ne _ _ _ _ _ (by omega),set_ne _ _ _ _ _ (by omega),set_ne _ _ _ _ _ (by omega),set_ne _ _ _ _ _ (by omega),set_ne _ _ _ _ _ (by omega),set_ne _ _ _ _ _ (by omega)];exact set_eq _ _ _ _ _ (by rw[set_ne _ _ _ _ _ (by omega),set_ne _ _ _ _ _ (by omega)];exact h2)
 ·rw[set_ne _ _ _ _ _ (by omega),set_ne _ _ _ _ _ (by omega),set_ne _ _ _ _ _ (by omega),set_ne _ _ _ _ _ (by omega),set_ne _ _ _ _ _ (by omega)];exact set_eq _ _ _ _ _ (by rw[set_ne _ _ _ _ _ (by omega),set_ne _ _ _ _ _ (by omega),set_ne _ _ _ _ _ (by omega)];exact h3)
 ·rw[set_ne _ _ _ _ _ (by omega),set_ne _ _ _ _ _ (by omega),set_ne _ _ _ _ _ (by omega),set_ne _ _ _ _ _ (by omega)];exact set_eq _ _ _ _ _ (by rw[set_ne _ _ _ _ _ (by omega),set_ne _ _ _ _ _ (by omega),set_ne _ _ _ _ _ (by omega),set_ne _ _ _ _ _ (by omega)];exact h4)
 ·rw[set_ne _ _ _ _ _ (by omega),set_ne _ _ _ _ _ (by omega),set_ne _ _ _ _ _ (by omega)];exact set_eq _ _ _ _ _ (by rw[set_ne _ _ _ _ _ (by omega),set_ne _ _ _ _ _ (by omega),set_ne _ _ _ _ _ (by omega),set_ne _ _ _ _ _ (by omega),set_ne _ _ _ _ _ (by omega)];exact h5)
 ·rw[set_ne _ _ _ _ _ (by omega),set_ne _ _ _ _ _ (by omega)];exact set_eq _ _ _ _ _ (by rw[set_ne _ _ _ _ _ (by omega),set_ne _ _ _ _ _ (by omega),set_ne _ _ _ _ _ (by omega),set_ne _ _ _ _ _ (by omega),set_ne _ _ _ _ _ (by omega),set_ne _ _ _ _ _ (by omega)];exact h6)
 ·rw[set_ne _ _ _ _ _ (by omega)];exact set_eq _ _ _ _ _ (by rw[set_ne _ _ _ _ _ (by omega),set_ne _ _ _ _ _ (by omega),set_ne _ _ _ _ _ (by omega),set_ne _ _ _ _ _ (by omega),set_ne _ _ _ _ _ (by omega),set_ne _ _ _ _ _ (by omega),set_ne _ _ _ _ _ (by omega)];exact h7)
 ·exact set_eq _ _ _ _ _ (by rw[set_ne _ _ _ _ _ (by omega),set_ne _ _ _ _ _ (by omega),set_ne _ _ _ _ _ (by omega),set_ne _ _ _ _ _ (by omega),set_ne _ _ _ _ _ (by omega),set_ne _ _ _ _ _ (by omega),set_ne _ _ _ _ _ (by omega),set_ne _ _ _ _ _ (by omega)];exact h8)
structure ToR (w1:World) (g n:Nat) (F:Nat->Gv) (i:Nat) (W:World) (t:Nat->Nat):Prop where
 kq:Kq (λk=>k=g) w1 W
 frm:∀j,j<i->FormO W g j (F j) (t j) (t (j+1))
 rest:∀j,i<=j->j<n->Cel9 W ⟨g,j*9,none⟩ fv0 (.slice none 0 0) (.slice none 0 0)
 fz:∀j,W.frozen? ⟨g,j,none⟩=false
 up:∀a b,a<=b->b<=i->t a<=t b
 b0:g<t 0
 bi:t i<=W.heap.size
 gl:g<w1.heap.size
theorem FormO.mono{lo' hi':Nat}(h:FormO W g i f lo hi)(h1:lo'<=lo)(h2:hi<=hi'):FormO W g i f lo' hi':=by
 obtain⟨vn,vk,gn,gk,hc,o1,o2,b1,b2,b3⟩:=h;exact⟨vn,vk,gn,gk,hc,o1,o2,λhp=>by have:=b1 hp;omega,λhp=>by have:=b2 hp;omega,b3⟩
theorem ToR.below(h:ToR w1 g n F i W t)(hb:Below W.heap.size W W'):ToR w1 g n F i W' t:=by
 have hgl:g<W.heap.size:=Nat.lt_of_lt_of_le h.gl h.kq.size;have hk:Kc g (i*9) (i*9+9) (λ_=>False) W W':=(Kc.refl _ _ _ _ W).below hb hgl;have hgb:=hb.block g hgl;refine⟨h.kq.trans (Kq.of_below hb (Nat.le_refl _)),λj hj=>(h.frm j hj).kc hk (by omega) (λ_ _ _ f=>f),λj h1 h2=>(h.rest j h1 h2).below hb,λj=>by rw[World.frozen?_of_block hgb];exact h.fz j,h.up,h.b0,Nat.le_trans h.bi hb.size,h.gl⟩
theorem ToR.step{w6:World}(h:ToR w1 g n F i W t)(hi:i<n)(hb:Below W.heap.size W w6){vn vk:Value}{gn gk:Nat}
  (o1:OwnR w6 vn gn (F i).p (λj=>.string ((F i).A j))) (o2:OwnR w6 vk gk (F i).q (λj=>.int .i64 ((F i).K j))) (h1:W.heap.size<=gn) (h2:gn<gk) (h3:gk<w6.heap.size):
  Cel9 w6 ⟨g,i*9,none⟩ fv0 (.slice none 0 0) (.slice none 0 0)/\(∀j,w6.frozen? ⟨g,j,none⟩=false)/\ToR w1 g n F (i+1) (s9 w6 g (i*9) (F i).a vn vk) (λj=>if j<=i then t j else w6.heap.size):=by
 have h6:=h.below hb;have hc:=h6.rest i (Nat.le_refl _) hi;have hgl:g<W.heap.size:=Nat.lt_of_lt_of_le h.gl h.kq.size;have hg6:g<w6.heap.size:=Nat.lt_of_lt_of_le hgl hb.size;have hk:=s9_kc w6 g i (F i).a vn vk (λ_=>False);have hb6:=h6.bi;have hbi:=h.bi;have hws:=hb.size;have blk:∀b,b<w6.heap.size->b≠g->(s9 w6 g (i*9) (F i).a vn vk).heap[b]? =w6.heap[b]?:=λb h1 h2=>hk.block b h1 h2 (λf=>f);refine⟨hc,h6.fz,⟨⟨hk.os.trans h6.kq.os,hk.tape.trans h6.kq.tape,hk.output.trans h6.kq.output,Nat.le_trans h6.kq.size hk.size,λb hb1 hb2=>(blk b (Nat.lt_of_lt_of_le hb1 h6.kq.size) hb2).trans (h6.kq.block b hb1 hb2)⟩,?_,?_,λj=>(hk.fz j).trans (h6.fz j),?_,?_,?_,h.gl⟩⟩
 ·intro j hj;by_cases e:j=i
  ·subst e;rw[if_pos (Nat.le_refl _),if_neg (by omega)];refine⟨vn,vk,gn,gk,s9_cel hc _ _ _,o1.block (λhp=>blk gn (by omega) (by omega)),o2.block (λhp=>blk gk (by omega) (by omega)),λhp=>⟨by omega,by omega,by omega⟩,λhp=>⟨by omega,by omega,by omega⟩,λ_ _=>by omega⟩
  ·rw[if_pos (by omega),if_pos (by omega)];exact(h6.frm j (by omega)).kc hk (by omega) (λ_ _ _ f=>f)
 ·intro j h1 h2;obtain⟨c0,c1,c2,c3,c4,c5,c6,c7,c8⟩:=h6.rest j (by omega) h2;have e:∀c,c<9->(s9 w6 g (i*9) (F i).a vn vk).cell? ⟨g,j*9+c,none⟩=w6.cell? ⟨g,j*9+c,none⟩:=λc hc=>hk.cell _ (by omega);exact⟨(e 0 (by omega)).trans c0,(e 1 (by omega)).trans c1,(e 2 (by omega)).trans c2,(e 3 (by omega)).trans c3,(e 4 (by omega)).trans c4,(e 5 (by omega)).trans c5,(e 6 (by omega)).trans c6,(e 7 (by omega)).trans c7,(e 8 (by omega)).trans c8⟩
 ·intro a b hab hbi2;show(if a<=i then t a else w6.heap.size)<=(if b<=i then t b else w6.heap.size);by_cases e:b<=i
  ·rw[if_pos e,if_pos (by omega)];exact h.up a b hab e
  ·rw[if_neg e];by_cases e2:a<=i
   ·rw[if_pos e2];have:=h.up a i e2 (Nat.le_refl _);omega
   ·rw[if_neg e2];exact Nat.le_refl _
 ·show g<(if 0<=i then t 0 else w6.heap.size);rw[if_pos zq];exact h.b0
 ·show(if i+1<=i then t (i+1)else w6.heap.size)<=_;rw[if_neg (by omega),s9_size];exact Nat.le_refl _
theorem to_forms(w:World)(ha:RowF w va n F)(hn:n+smr F n<=1048576):
  Calls Tryz.prog 13 #[va] w λe w'=>∃v g t,e=.returned v/\OwnF w' v g n F t w.heap.size w'.heap.size/\Below w.heap.size w w':=by
 obtain⟨pa,ca,rfl,ha2⟩:=ha;have hnI:(n:Int)<=1048576:=by omega
 have hmk:=run_make (P:=Tryz.prog) w 27 44 Tryz.t44 z9 Tryz.underlying27 (by kernel_rfl) (by kernel_rfl) .i64 .i64 (n:Int) (n:Int) (by omega) (Int.le_refl _) (by show(112:Int)*(n:Int)<=_;omega) (by omega);rw[Int.toNat_natCast]at hmk;obtain⟨w1,hw1⟩:∃w1,w1=w.alloc (.cells (madeCells z9.cells (n*Tryz.t44.size)) 44):=⟨_,rfl⟩
 rw[<-hw1]at hmk;have c1:∀j c,j<n->c<9->w1.cell? ⟨w.heap.size,j*9+c,none⟩=z9.cells[c]?:=by intro j c hj hc;rw[hw1];exact made9 w 44 n j c hj hc
 have f1:∀j,w1.frozen? ⟨w.heap.size,j,none⟩=false:=by intro j;rw[hw1];exact made_fz _ _ _ _
 have b1:Below w.heap.size w w1:=by rw[hw1];exact(Below.refl _ w).alloc (Nat.le_refl _) _
 have l1:w.heap.size<w1.heap.size:=by rw[hw1];simp
 have HI0:Hid (ToR w1 w.heap.size n F 0 w1 (λ_=>w1.heap.size)):=(⟨Kq.refl _ _,λi hi=>by omega,λj _ hj=>⟨c1 j 0 hj (by omega),c1 j 1 hj (by omega),c1 j 2 hj (by omega),c1 j 3 hj (by omega),c1 j 4 hj (by omega),c1 j 5 hj (by omega),c1 j 6 hj (by omega),c1 j 7 hj (by omega),c1 j 8 hj (by omega)⟩,f1,λ_ _ _ _=>Nat.le_refl _,l1,Nat.le_refl _,l1⟩:ToR w1 w.heap.size n F 0 w1 (λ_=>w1.heap.size))
 have HA:Hid ((0<n->∃a:Addr,pa=some a/\n<=ca/\∀i,i<n->FormC w (a.add (i*9)) (F i))/\Below w.heap.size w w1/\n+smr F n<=1048576):=(⟨ha2,b1,hn⟩:_/\_/\_)
 clear ha2 b1 c1 f1 hw1 hn l1;obtain⟨G,hG⟩:∃G,G=w.heap.size:=⟨_,rfl⟩
 rw[<-hG]at hmk HI0⊢;have HG:Hid (G=w.heap.size):=hG;clear hG;go_enter Tryz.func13,Tryz.ntmps13;go_wp2_with fail
 go_loopw [4] (λs4 wr=>∃i:Nat,s4=.int .i64 i/\i<=n/\Hid (∃t,ToR w1 G n F i wr t)) (λs4 _=>n-(intOf s4).toNat)
 case atStart=>exact⟨0,rfl,Nat.zero_le _,(⟨_,HI0⟩:∃t,ToR w1 G n F 0 w1 t)⟩
 case round=>
  clear HI0 hmk;obtain⟨i,rfl,hin,HI⟩:=hrel;obtain⟨t,hI⟩:=(uh HI)
  have hA:=(uh HA)
  have hBW:Below w.heap.size w wr:=by
   have hG:=(uh HG)
   exact⟨hI.kq.os.trans hA.2.1.os,hI.kq.tape.trans hA.2.1.tape,hI.kq.output.trans hA.2.1.output,Nat.le_trans hA.2.1.size hI.kq.size,λb hb=>(hI.kq.block b (Nat.lt_of_lt_of_le hb hA.2.1.size) (by omega)).trans (hA.2.1.block b hb)⟩
  rcases Nat.lt_or_ge i n with hi|hi
  ·have hiI:(i:Int)<(n:Int):=by omega
   obtain⟨a,rfl,hca,hra⟩:=hA.1 (by omega);obtain⟨un,uk,hc,hrn,hrk⟩:=(hra i hi).below hBW;have hsu:=smr_mono F (show i+1<=n from hi);have hss:smr F (i+1)=smr F i+(F i).p+(F i).q:=rfl;have HT:Hid (Calls Tryz.prog 28 #[fmv (F i).a un uk] wr λe w'=>∃vn vk gn gk,e=.returned (fmv (F i).a vn vk)/\OwnR w' vn gn (F i).p (λj=>.string ((F i).A j))/\OwnR w' vk gk (F i).q (λj=>.int .i64 ((F i).K j))/\wr.heap.size<=gn/\gn<gk/\gk<w'.heap.size/\Below wr.heap.size wr w'):=to_form wr hrn hrk (by omega) (by omega)
   have HS:Hid (∀w6 vn vk gn gk,Below wr.heap.size wr w6->OwnR w6 vn gn (F i).p (λj=>.string ((F i).A j))->OwnR w6 vk gk (F i).q (λj=>.int .i64 ((F i).K j))->wr.heap.size<=gn->gn<gk->gk<w6.heap.size->Cel9 w6 ⟨G,i*9,none⟩ fv0 (.slice none 0 0) (.slice none 0 0)/\(∀j,w6.frozen? ⟨G,j,none⟩=false)/\∃t,ToR w1 G n F (i+1) (s9 w6 G (i*9) (F i).a vn vk) t):=(λw6 vn vk gn gk hb o1 o2 l1 l2 l3=>by
    obtain⟨q1,q2,q3⟩:=hI.step hi hb o1 o2 l1 l2 l3
    exact⟨q1,q2,_,q3⟩:∀w6 vn vk gn gk,_)
   obtain⟨d0,d1,d2,d3,d4,d5,d6,d7,d8⟩:=hc;clear hA HA hI HI hra hrn hrk hsu hss hin HG hBW;go_wp2_with fail;refine(uh HT).mono ?_;rintro e w6 ⟨vn,vk,gn,gk,rfl,o1,o2,l1,l2,l3,hb6⟩;obtain⟨hc,hf,hT⟩:=(uh HS) w6 vn vk gn gk hb6 o1 o2 l1 l2 l3;obtain⟨pn,cn,rfl,_⟩:=o1.sl;obtain⟨pk,ck,rfl,_⟩:=o2.sl;have HTT:Hid (∃t,ToR w1 G n F (i+1) (s9 w6 G (i*9) (F i).a (.slice pn (F i).p cn) (.slice pk (F i).q ck)) t):=hT;obtain⟨h0,h1,h2,h3,h4,h5,h6,h7,h8⟩:=hc;dsimp only[fv0]at h0 h1 h2 h3 h4 h5 h6 h7 h8;have e0:=hf (i*9);have e1:=hf (i*9+1);have e2:=hf (i*9+2);have e3:=hf (i*9+3);have e4:=hf (i*9+4);have e5:=hf (i*9+5);have e6:=hf (i*9+6);have e7:=hf (i*9+7);have e8:=hf (i*9+8);clear hf hT HS HT o1 o2 l1 l2 l3 hb6 d0 d1 d2 d3 d4 d5 d6 d7 d8;unfold fmv;go_wp2_with fail;go_roundw
   case rel=>exact⟨i+1,by go_num,by omega,HTT⟩
   case measure=>simp[intOf];omega
  ·obtain rfl:i=n:=by omega
   have HE:Hid ((∃t,ToR w1 G i F i wr t)/\Below w.heap.size w wr/\G=w.heap.size):=(⟨⟨_,hI⟩,hBW,HG⟩:_/\_/\_)
   clear HI hI hA HA HG hBW;go_wp2_with fail;go_ret;obtain⟨⟨t',hE⟩,hB,hG⟩:=(uh HE)
   have hgl:=Nat.lt_of_lt_of_le hE.gl hE.kq.size;have hb0:=hE.b0;exact⟨_,G,t',rfl,⟨⟨_,_,rfl,λ_=>⟨rfl,Nat.le_refl _⟩⟩,hE.frm,λ_=>hE.fz,hE.up,λ_=>⟨by omega,hgl⟩,by omega,hE.bi⟩,hG▸hB⟩
theorem info9:(Tryz.prog.info? 9).map (λi=>(i.zero,i.size,i.bytes))=some (some (.string ⟨#[]⟩),1,16):=by kernel_rfl
def lst(A:Nat->Value)(n:Nat):List Value:=(List.range n).map A
theorem lst_len(A:Nat->Value)(n:Nat):(lst A n).length=n:=by simp[lst]
theorem lst_get(A:Nat->Value)(n j:Nat)(u:Value)(h:(lst A n)[j]? =some u):j<n/\u=A j:=by
 have hl:j<n:=by
  rcases Nat.lt_or_ge j n with h1|h1
  ·exact h1
  ·rw[List.getElem?_eq_none (by rw[lst_len];exact h1)]at h;cases h
 refine⟨hl,?_⟩;simp[lst,hl]at h;exact h.symm
theorem lst_at(A:Nat->Value)(n j:Nat)(h:j<n):(lst A n)[j]? =some (A j):=by simp[lst,h]
theorem lst_succ(A:Nat->Value)(n:Nat):lst A (n+1)=lst A n++[A n]:=by simp[lst,List.range_succ]
theorem own_of{A:Nat->Value}(h:W.ownsRow base e 1 v n (lst A n)):∃g,OwnR W v g n A/\(0<n->base<=g/\g<W.heap.size):=by
 rcases h.2 with⟨rfl,rfl⟩|⟨g,cap,cur,rfl,hb,hg,hn,_,_,ht⟩
 ·exact⟨0,⟨⟨none,0,rfl,λf=>by omega⟩,λi hi=>by omega,λf=>by omega⟩,λf=>by omega⟩
 ·refine⟨g,⟨⟨_,cap,rfl,λ_=>⟨rfl,hn⟩⟩,λi hi=>?_,λ_ j=>by simp[World.frozen?,hg]⟩,λ_=>⟨hb,(Array.getElem?_eq_some_iff.1 hg).1⟩⟩;have h1:=lst_at A n i hi;rw[<-ht,Nat.mul_one,List.getElem?_take,if_pos hi]at h1
  simpa [World.cell?,hg]using h1
theorem qr_cells(w:World)(c:Array Value)(t:TypeId)(l:List Value)(hl:c.toList=l):∀j u,l[j]? =some u->(w.alloc (.cells c t)).cell? ((⟨w.heap.size,0,none⟩:Addr).add j)=some u:=by
 intro j u hj;subst hl;rw[add0,World.cell?_alloc_mark]
 simpa using hj
theorem rowBlk{size:Nat}{xs:List Value}(h:W.ownsRow base e size v n xs)(hk:∀g,v.ownBlock=some g->W'.heap[g]? =W.heap[g]?):W'.ownsRow base e size v n xs:=by
 refine⟨h.1,?_⟩;rcases h.2 with h|⟨g,cap,cur,e1,e2,e3,e4⟩
 ·exact .inl h
 ·exact .inr ⟨g,cap,cur,e1,e2,(hk g (by rw[e1];rfl)).trans e3,e4⟩
theorem ownsRow_mono'{base' size:Nat}{xs:List Value}(h:W.ownsRow base e size v n xs)(hb:base'<=base):W.ownsRow base' e size v n xs:=by
 refine⟨h.1,?_⟩;rcases h.2 with h|⟨g,cap,cur,e1,e2,e3⟩
 ·exact .inl h
 ·exact .inr ⟨g,cap,cur,e1,by omega,e3⟩
theorem RowF.below(h:RowF W v n F)(hb:Below W.heap.size W W'):RowF W' v n F:=by
 obtain⟨pa,cap,h1,h2⟩:=h;refine⟨pa,cap,h1,λhn=>?_⟩;obtain⟨a,e1,e2,e3⟩:=h2 hn;exact⟨a,e1,e2,λi hi=>(e3 i hi).below hb⟩
theorem sz_sheet(w:World)(ha:RowF w v n F)(hn:(n:Int)<140737488355328)
  (hF:∀i,i<n->((F i).a.x.size:Int)<140737488355328/\((F i).p:Int)<140737488355328/\(∀j,j<(F i).p->(((F i).A j).size:Int)<140737488355328)/\((F i).q:Int)<140737488355328):
  Calls Tryz.prog 4 #[.agg #[v],.int .i64 1048576] w λe w'=>∃r:Int,e=.returned (.int .i64 r)/\(0<=r->(n:Int)+(smr F n:Int)<=1048576)/\-1<=r/\r<=1048576/\Below w.heap.size w w':=by
 have hs:Hid (∀o:Obj,Calls Tryz.prog 9 #[v,.int .i64 1048576] (w.alloc o) λe w'=>∃r:Int,e=.returned (.int .i64 r)/\(0<=r->(n:Int)+(smr F n:Int)<=1048576)/\-1<=r/\r<=1048576/\Below (w.alloc o).heap.size (w.alloc o) w'):=(λo=>sz_forms (w.alloc o) 1048576 (ha.below (bel1 _ _)) hn hF (by omega) (by omega):∀o:Obj,_)
 obtain⟨pa,ca,rfl,_⟩:=ha;clear hn hF;go_enter Tryz.func4,Tryz.ntmps4;go_wp2_with fail;refine(hs _).mono ?_;rintro e w1 ⟨r,rfl,h1,h2,h3,hb⟩;have HB:Hid ((0<=r->(n:Int)+(smr F n:Int)<=1048576)/\Below w.heap.size w w1):=(⟨h1,(bel1 w _).trans (hb.mono (by simp))⟩:_/\_)
 clear hs h1 hb;rcases Int.lt_or_le r 0 with h|h
 ·go_wp2_with fail;go_ret;exact⟨-1,rfl,λf=>by omega,by omega,by omega,HB.2⟩
 ·have h':¬r<0:=by omega
  go_wp2_with fail;go_ret;exact⟨r,rfl,HB.1,h2,h3,HB.2⟩
theorem to_sheet(w:World)(ha:RowF w va n F)(hn:n+smr F n<=1048576):
  Calls Tryz.prog 6 #[.agg #[va]] w λe w'=>∃v g t,e=.returned (.agg #[v])/\OwnF w' v g n F t w.heap.size w'.heap.size/\Below w.heap.size w w':=by
 have hs:Hid (∀a b c:Obj,Calls Tryz.prog 13 #[va] (((w.alloc a).alloc b).alloc c) λe w'=>∃v g t,e=.returned v/\OwnF w' v g n F t (((w.alloc a).alloc b).alloc c).heap.size w'.heap.size/\Below (((w.alloc a).alloc b).alloc c).heap.size (((w.alloc a).alloc b).alloc c) w'):=(λa b c=>to_forms _ (ha.below (bel3 _ _ _ _)) hn:∀a b c:Obj,_)
 obtain⟨pa,ca,rfl,_⟩:=ha;clear hn;go_enter Tryz.func6,Tryz.ntmps6;go_wp2_with fail;refine(hs _ _ _).mono ?_;rintro e w1 ⟨v,g,t,rfl,ho,hb⟩;obtain⟨w3,hw3⟩:∃w3,w3=((w.alloc (.cells #[.slice pa n ca] 24)).alloc (.cells #[.slice none 0 0] 29)).alloc (.cells #[.slice none 0 0] 29):=⟨_,rfl⟩
 obtain⟨r0,r1,r2,s1,s2,z3⟩:=al3 w _ _ _ _ _ _ w3 hw3;have b3:Below w.heap.size w w3:=by rw[hw3];exact bel3 _ _ _ _
 rw[<-hw3]at ho hb;have hz:=hb.size;have c1:w1.cell? ⟨w.heap.size+1,0,none⟩=some (.slice none 0 0):=(hb.cell (p:=⟨w.heap.size+1,0,none⟩) (by show w.heap.size+1<_;omega)).trans (r1 0);have f1:w1.frozen? ⟨w.heap.size+1,0,none⟩=false:=(hb.frozen (p:=⟨w.heap.size+1,0,none⟩) (by show w.heap.size+1<_;omega)).trans (s1 0);have c2:w1.cell? ⟨w.heap.size+1+1,0,none⟩=some (.slice none 0 0):=(hb.cell (p:=⟨w.heap.size+1+1,0,none⟩) (by show w.heap.size+1+1<_;omega)).trans (r2 0);have f2:w1.frozen? ⟨w.heap.size+1+1,0,none⟩=false:=(hb.frozen (p:=⟨w.heap.size+1+1,0,none⟩) (by show w.heap.size+1+1<_;omega)).trans (s2 0);obtain⟨pv,cv,rfl,_⟩:=ho.sl
 have HF:Hid (OwnF ((w1.setCell ⟨w.heap.size+1+1,0,none⟩ (.slice pv n cv)).setCell ⟨w.heap.size+1,0,none⟩ (.slice pv n cv)) (.slice pv n cv) g n F t w.heap.size w1.heap.size/\Below w.heap.size w ((w1.setCell ⟨w.heap.size+1+1,0,none⟩ (.slice pv n cv)).setCell ⟨w.heap.size+1,0,none⟩ (.slice pv n cv))):=by
  show _/\_
  have hk:=ho.keep (W':=(w1.setCell ⟨w.heap.size+1+1,0,none⟩ (.slice pv n cv)).setCell ⟨w.heap.size+1,0,none⟩ (.slice pv n cv)) (λb h1 h2 h3=>by
   rw[Below.heap_setCell _ _ _ _ (show b≠w.heap.size+1 by omega),Below.heap_setCell _ _ _ _ (show b≠w.heap.size+1+1 by omega)])
  have k1:=hk.bg;have k2:=hk.b0;exact⟨⟨hk.sl,hk.frm,hk.fz,hk.up,λhn=>by have:=k1 hn;omega,by omega,hk.bn⟩,((b3.trans (hb.mono (by omega))).setCell (by show w.heap.size<=w.heap.size+1+1;omega) _).setCell (by show w.heap.size<=w.heap.size+1;omega) _⟩
 have e0:((w1.setCell ⟨w.heap.size+1+1,0,none⟩ (.slice pv n cv)).setCell ⟨w.heap.size+1,0,none⟩ (.slice pv n cv)).cell? ⟨w.heap.size+1,0,none⟩=some (.slice pv n cv):=set_eq _ _ _ _ _ ((World.cell?_setCell_other _ _ _ _ (λe=>by have:=congrArg Addr.block e;simp at this)).trans c1);have E0:Hid (((w1.setCell ⟨w.heap.size+1+1,0,none⟩ (.slice pv n cv)).setCell ⟨w.heap.size+1,0,none⟩ (.slice pv n cv)).cell? ⟨w.heap.size+1,0,none⟩=some (.slice pv n cv)):=e0;clear r0 r1 r2 s1 s2 z3 b3 ho hb hz hw3 e0 hs;go_wp2_with fail;have e0:=(show((w1.setCell ⟨w.heap.size+1+1,0,none⟩ (.slice pv n cv)).setCell ⟨w.heap.size+1,0,none⟩ (.slice pv n cv)).cell? ⟨w.heap.size+1,0,none⟩=some (.slice pv n cv)from E0)
 refine bodyPost_ret (by simp[results,Tryz.results6,go_sem,e0];rfl) rfl ?_;exact⟨_,g,t,rfl,by simpa using HF.1,HF.2⟩
theorem eq_sheet{vb:Value}(w:World)(ha:RowF w va n F)(hb:RowF w vb n F)(hn:n+smr F n<=1048576):
  Calls Tryz.prog 8 #[.agg #[va],.agg #[vb]] w λe w'=>e=.returned (.bool true)/\Below w.heap.size w w':=by
 have hs:Hid (∀a b:Obj,Calls Tryz.prog 18 #[va,vb] ((w.alloc a).alloc b) λe w'=>e=.returned (.bool true)/\Below ((w.alloc a).alloc b).heap.size ((w.alloc a).alloc b) w'):=(λa b=>eq_forms _ (ha.below (bel2 _ _ _)) (hb.below (bel2 _ _ _)) (by omega) (λi hi=>by
  have hsu:=smr_mono F (show i+1<=n from hi);have hss:smr F (i+1)=smr F i+(F i).p+(F i).q:=rfl
  omega):∀a b:Obj,_)
 obtain⟨pa,ca,rfl,_⟩:=ha;obtain⟨pb,cb,rfl,_⟩:=hb;clear hn;go_enter Tryz.func8,Tryz.ntmps8;go_wp2_with fail;refine(hs _ _).mono ?_;rintro e w1 ⟨rfl,hb⟩;have HB:Hid (Below w.heap.size w w1):=(bel2 w _ _).trans (hb.mono (by simp;omega));clear hb hs;go_wp2_with fail;go_ret;exact⟨rfl,HB⟩
theorem cells3:Tryz.prog.cellsOf 3=1:=by kernel_rfl
theorem cells2:Tryz.prog.cellsOf 2=1:=by kernel_rfl
theorem cells9:Tryz.prog.cellsOf 9=1:=by kernel_rfl
theorem cells35:Tryz.prog.cellsOf 41=1:=by kernel_rfl
theorem cells36:Tryz.prog.cellsOf 42=1:=by kernel_rfl
theorem cells22:Tryz.prog.cellsOf 22=1:=by kernel_rfl
theorem cells24:Tryz.prog.cellsOf 24=1:=by kernel_rfl
theorem cells47:Tryz.prog.cellsOf 59=9:=by kernel_rfl
theorem bytes3:Tryz.prog.bytesOf 3=8:=by kernel_rfl
theorem bytes9:Tryz.prog.bytesOf 9=16:=by kernel_rfl
theorem bytes47:Tryz.prog.bytesOf 59=112:=by kernel_rfl
def strOf:Value->ByteArray
 |.string s=>s
 |_=>⟨#[]⟩
def numOf:Value->Int
 |.int _ z=>z
 |_=>0
def Sz(t:TypeId)(d:DataW H):Prop:=∀n ∈ d.weights Tryz.prog t,n<=140737488351232
theorem weightsAll_mem {H:Type} {e:TypeId}:∀{l:List (DataW H)} {d:DataW H} {n:Nat},d ∈ l->n ∈ d.weights Tryz.prog e->n ∈ DataW.weightsAll Tryz.prog e l
 | [],_,_,h,_=>by cases h
 |x::r,d,n,h,hn=>by
  simp only[DataW.weightsAll,List.mem_append];rcases List.mem_cons.1 h with rfl|h
  ·exact Or.inl hn
  ·exact Or.inr (weightsAll_mem h hn)
theorem Sz.head{t e:TypeId}{el sp:List (DataW H)}(h:Sz t (.slice el sp))(ht:Tryz.prog.underlying t=some (.slice e)):(el.length+sp.length)*Tryz.prog.bytesOf e<=140737488351232:=h _ (by simp[DataW.weights,ht])
theorem Sz.elem{t e:TypeId}{el sp:List (DataW H)}(h:Sz t (.slice el sp))(ht:Tryz.prog.underlying t=some (.slice e)){d:DataW H}(hd:d ∈ el):Sz e d:=λn hn=>h n (by
 simp only[DataW.weights,ht,List.mem_cons,List.mem_append]
 exact Or.inr (Or.inl (weightsAll_mem hd hn)))
section
variable {H:Type} {enc:TypeId × Value->H} {w:World} {base:Nat} {sp:Nat->Bool} {held:Bool}
theorem read_ints{x:DataW H×List MemPlace}(h:DataW.trod enc Tryz.prog w base sp held fuel 42 cs=some x)(hz:Sz 42 x.1):
  ∃(v:Value) (n:Nat) (A:Nat->Int),cs=[v]/\RowV w v n (λi=>.int .i64 (A i))/\(n:Int)<140737488355328:=by
 rcases Deep.open_slice1 Tryz.underlying42 cells3 h with⟨rfl,rfl⟩|⟨a,len,cap,m,n,V,D,Pl,rfl,hb,hl,hm,hmm,rfl,hx⟩
 ·exact⟨.slice none 0 0,0,λ_=>0,rfl,⟨none,0,rfl,λf=>by omega⟩,by omega⟩
 ·have hle:len<=m:=by rw[hmm];split<;>omega
  have hh:=hz.head Tryz.underlying42;rw[bytes3]at hh;simp only[List.length_map,List.length_range]at hh;refine⟨_,len,λi=>numOf (V i),rfl,⟨some a,cap,rfl,λ_=>⟨a,rfl,hl,λi hi=>?_⟩⟩,by omega⟩;obtain⟨h1,h2⟩:=hx i (by omega);obtain⟨z,e1,_⟩:=DataW.trod_int Tryz.underlying3 h2;simp only[List.cons.injEq,and_true]at e1;rw[h1];show some (V i)=some (.int .i64 (numOf (V i)));rw[e1];rfl
theorem read_strs{x:DataW H×List MemPlace}(h:DataW.trod enc Tryz.prog w base sp held fuel 41 cs=some x)(hz:Sz 41 x.1):
  ∃(v:Value) (n:Nat) (A:Nat->ByteArray),cs=[v]/\RowV w v n (λi=>.string (A i))/\(n:Int)<140737488355328/\∀i,i<n->((A i).size:Int)<140737488355328:=by
 rcases Deep.open_slice1 Tryz.underlying41 cells9 h with⟨rfl,rfl⟩|⟨a,len,cap,m,n,V,D,Pl,rfl,hb,hl,hm,hmm,rfl,hx⟩
 ·exact⟨.slice none 0 0,0,λ_=>⟨#[]⟩,rfl,⟨none,0,rfl,λf=>by omega⟩,by omega,λi hi=>by omega⟩
 ·have hle:len<=m:=by rw[hmm];split<;>omega
  have hh:=hz.head Tryz.underlying41;rw[bytes9]at hh;simp only[List.length_map,List.length_range]at hh;refine⟨_,len,λi=>strOf (V i),rfl,⟨some a,cap,rfl,λ_=>⟨a,rfl,hl,λi hi=>?_⟩⟩,by omega,λi hi=>?_⟩
  ·obtain⟨h1,h2⟩:=hx i (by omega);obtain⟨z,e1,_⟩:=DataW.trod_string Tryz.underlying9 h2;simp only[List.cons.injEq,and_true]at e1;rw[h1];show some (V i)=some (.string (strOf (V i)));rw[e1];rfl
  ·obtain⟨h1,h2⟩:=hx i (by omega);obtain⟨z,e1,e2,_⟩:=DataW.trod_string Tryz.underlying9 h2;simp only[List.cons.injEq,and_true]at e1;have hs:=hz.elem Tryz.underlying41 (d:=D i) (List.mem_map.2 ⟨i,List.mem_range.2 hi,rfl⟩);rw[show D i=.lit (.string z.data.toList)from congrArg Prod.fst e2]at hs;have:=hs z.data.toList.length (by simp[DataW.weights]);show((strOf (V i)).size:Int)<_;rw[e1];show((z.size:Nat):Int)<_;have e:z.size=z.data.toList.length:=by simp
   omega
theorem read_form{x:DataW H×List MemPlace}{b:Addr}(h:DataW.trod enc Tryz.prog w base sp held fuel 59 cs=some x)(hc:w.cells? base b 9=some cs)(hz:Sz 59 x.1):
  ∃g:Gv,FormC w b g/\(g.a.x.size:Int)<140737488355328/\(g.p:Int)<140737488355328/\(∀j,j<g.p->((g.A j).size:Int)<140737488355328)/\(g.q:Int)<140737488355328:=by
 obtain⟨_,hlen,hcell⟩:=World.cells?_some hc;obtain⟨xs,n,_,rfl,hl,hxl,hf⟩:=DataW.trod_struct Tryz.underlying59 h
 match cs,hlen with
 | [c0,c1,c2,c3,c4,c5,c6,c7,c8],_=>
  match xs,hxl with
  | [y0,y1,y2,y3,y4,y5,y6,y7,y8],_=>
   have t0:=hf 0 _ rfl;have t1:=hf 1 _ rfl;have t2:=hf 2 _ rfl;have t3:=hf 3 _ rfl;have t4:=hf 4 _ rfl;have t5:=hf 5 _ rfl;have t6:=hf 6 _ rfl;have t7:=hf 7 _ rfl;have t8:=hf 8 _ rfl;simp[cells3,cells2,cells9,cells35,cells36]at t0 t1 t2 t3 t4 t5 t6 t7 t8
   have hzz:∀n ∈ y6.1.weights Tryz.prog 9++(y7.1.weights Tryz.prog 41++y8.1.weights Tryz.prog 42),n<=140737488351232:=by
    intro n hn;refine hz n ?_;simp[DataW.weights,Tryz.underlying59,DataW.weightsEach];simp at hn;exact Or.inr (Or.inr (Or.inr (Or.inr (Or.inr (Or.inr hn)))))
   obtain⟨z0,e0,_⟩:=DataW.trod_int Tryz.underlying3 t0;obtain⟨z1,e1,_⟩:=DataW.trod_int Tryz.underlying3 t1;obtain⟨z2,e2,_⟩:=DataW.trod_int Tryz.underlying3 t2;obtain⟨z3,e3,_⟩:=DataW.trod_int Tryz.underlying3 t3;obtain⟨z4,e4,_⟩:=DataW.trod_int Tryz.underlying3 t4;obtain⟨z5,e5,_⟩:=DataW.trod_int Tryz.underlying2 t5;obtain⟨z6,e6,e6',_⟩:=DataW.trod_string Tryz.underlying9 t6;obtain⟨vn,p,A,e7,r7,s7,s7'⟩:=read_strs t7 (λn hn=>hzz n (by simp[hn]));obtain⟨vk,q,K,e8,r8,s8⟩:=read_ints t8 (λn hn=>hzz n (by simp[hn]));simp only[List.cons.injEq,and_true]at e0 e1 e2 e3 e4 e5 e6 e7 e8;subst e0 e1 e2 e3 e4 e5 e6 e7 e8;refine⟨⟨⟨z0,z1,z2,z3,z4,z5,z6⟩,p,A,q,K⟩,⟨_,_,⟨?_,?_,?_,?_,?_,?_,?_,?_,?_⟩,r7,r8⟩,?_,s7,s7',s8⟩
   ·have:=hcell 0 (by omega);simpa [Addr.add]using this
   ·have:=hcell 1 (by omega);simpa [Addr.add]using this
   ·have:=hcell 2 (by omega);simpa [Addr.add]using this
   ·have:=hcell 3 (by omega);simpa [Addr.add]using this
   ·have:=hcell 4 (by omega);simpa [Addr.add]using this
   ·have:=hcell 5 (by omega);simpa [Addr.add]using this
   ·have:=hcell 6 (by omega);simpa [Addr.add]using this
   ·have:=hcell 7 (by omega);simpa [Addr.add]using this
   ·have:=hcell 8 (by omega);simpa [Addr.add]using this
   ·have:=hzz z6.data.toList.length (by rw[e6'];simp[DataW.weights]);show((z6.size:Nat):Int)<_;have e:z6.size=z6.data.toList.length:=by simp
    omega
instance:Inhabited Gv:=⟨⟨fv0,0,λ_=>⟨#[]⟩,0,λ_=>0⟩⟩
theorem read_forms{x:DataW H×List MemPlace}(h:DataW.trod enc Tryz.prog w base sp held fuel 22 cs=some x)(hz:Sz 22 x.1):
  ∃(pa:Option Addr) (ca n:Nat) (F:Nat->Gv),cs=[.slice pa n ca]/\RowF w (.slice pa n ca) n F/\(n:Int)<140737488355328/\∀i,i<n->((F i).a.x.size:Int)<140737488355328/\((F i).p:Int)<140737488355328/\(∀j,j<(F i).p->(((F i).A j).size:Int)<140737488355328)/\((F i).q:Int)<140737488355328:=by
 rcases Deep.open_slice Tryz.underlying22 h with⟨rfl,rfl⟩|⟨a,len,cap,m,n,D,Pl,rfl,hb,hl,hm,hmm,rfl,hx⟩
 ·exact⟨none,0,0,λ_=>default,rfl,⟨none,0,rfl,λf=>by omega⟩,by omega,λi hi=>by omega⟩
 ·have hle:len<=m:=by rw[hmm];split<;>omega
  have hh:=hz.head Tryz.underlying22;rw[bytes47]at hh;simp only[List.length_map,List.length_range]at hh;rw[cells47]at hx
  obtain⟨F,hF⟩:=Deep.choose_lt (α:=Gv) (n:=len) (p:=λi g=>FormC w (a.add (i*9)) g/\(g.a.x.size:Int)<140737488355328/\(g.p:Int)<140737488355328/\(∀j,j<g.p->((g.A j).size:Int)<140737488355328)/\(g.q:Int)<140737488355328) (λi hi=>by
   obtain⟨cs',h1,h2⟩:=hx i (by omega)
   exact read_form h2 h1 (hz.elem Tryz.underlying22 (List.mem_map.2 ⟨i,List.mem_range.2 hi,rfl⟩)))
  exact⟨some a,cap,len,F,rfl,⟨some a,cap,rfl,λ_=>⟨a,rfl,hl,λi hi=>(hF i hi).1⟩⟩,by omega,λi hi=>(hF i hi).2⟩
end
