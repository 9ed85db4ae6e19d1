import Derived.Test.YtklaniaolddamaaGreatDoorBBab
import Derived.OwnWalk
import Derived.WalkSpells
import Derived.Deep.Slices
import Derived.SizedLaws
import Derived.Carry
import Derived.Deep.QuietTactic
import Derived.BigQuiet
set_option maxRecDepth 100000
set_option maxHeartbeats 8000000
namespace Go.Proofs.YtklaniaolddamaaGreatDoor.Fo
open Go.ChangeShapes Go.WideShapes Go.ChangeAt Go.RowKit
set_option linter.unusedVariables false
def fv0:Fv:=⟨0,0,0,0,0,0,⟨#[]⟩⟩
def z9:Value:=.agg #[.int .i64 0,.int .i64 0,.int .i64 0,.int .i64 0,.int .i64 0,.int .i64 0,.string ⟨#[]⟩,.slice none 0 0,.slice none 0 0]
theorem z9c:z9.cells = #[.int .i64 0,.int .i64 0,.int .i64 0,.int .i64 0,.int .i64 0,.int .i64 0,.string ⟨#[]⟩,.slice none 0 0,.slice none 0 0]:=by rfl
theorem made9 (w:World) (e n:Nat) (j c:Nat) (hj:j < n) (hc:c < 9):(w.alloc (.cells (madeCells z9.cells (n*9)) e)).cell? ⟨w.heap.size,j*9+c,none⟩=z9.cells[c]?:=by
 have hs:z9.cells.size=9:=by rw [z9c];rfl
 have hb:j*9+c < n*9:=by omega
 have hg:(madeCells z9.cells (n*9))[j*9+c]? = z9.cells[c]?:=by
  have hm:(j*9+c) % 9=c:=by omega
  simp [madeCells,hs,hb,hm]
  rw [getElem?_pos z9.cells c (by omega),getElem!_pos z9.cells c (by omega)]
 rw [World.cell?_alloc_at _ _ _ _ rfl]
 exact hg
def s9 (W:World) (g o:Nat) (a:Fv) (vn vk:Value):World :=
 ((((((((W.setCell ⟨g,o,none⟩ (.int .i64 a.k)).setCell ⟨g,o+1,none⟩ (.int .i64 a.f)).setCell ⟨g,o+2,none⟩ (.int .i64 a.t)).setCell ⟨g,o+3,none⟩ (.int .i64 a.l)).setCell ⟨g,o+4,none⟩ (.int .i64 a.o)).setCell ⟨g,o+5,none⟩ (.int .i64 a.m)).setCell ⟨g,o+6,none⟩ (.string a.x)).setCell ⟨g,o+7,none⟩ vn).setCell ⟨g,o+8,none⟩ vk
theorem s9_kc (W:World) (g i:Nat) (a:Fv) (vn vk:Value) (S:Nat→Prop):Kc g (i*9) (i*9+9) S W (s9 W g (i*9) a vn vk) :=
 (((((((((Kc.refl g (i*9) (i*9+9) S W).set (i*9) (by omega) (by omega) _).set (i*9+1) (by omega) (by omega) _).set (i*9+2) (by omega) (by omega) _).set (i*9+3) (by omega) (by omega) _).set (i*9+4) (by omega) (by omega) _).set (i*9+5) (by omega) (by omega) _).set (i*9+6) (by omega) (by omega) _).set (i*9+7) (by omega) (by omega) _).set (i*9+8) (by omega) (by omega) _
theorem s9_size (W:World) (g o:Nat) (a:Fv) (vn vk:Value):(s9 W g o a vn vk).heap.size=W.heap.size:=by
 unfold s9
 simp
theorem s9_cel {W:World} {g o:Nat} {b:Fv} {un uk:Value} (h:Cel9 W ⟨g,o,none⟩ b un uk) (a:Fv) (vn vk:Value):Cel9 (s9 W g o a vn vk) ⟨g,o,none⟩ a vn vk:=by
 obtain ⟨h0,h1,h2,h3,h4,h5,h6,h7,h8⟩:=h
 dsimp only at h1 h2 h3 h4 h5 h6 h7 h8
 unfold s9
 refine ⟨?_,?_,?_,?_,?_,?_,?_,?_,?_⟩ <;> try dsimp only
 ·rw [set_ne _ _ _ _ _ (by omega),set_ne _ _ _ _ _ (by omega),set_ne _ _ _ _ _ (by omega),set_ne _ _ _ _ _ (by omega),set_ne _ _ _ _ _ (by omega),set_ne _ _ _ _ _ (by omega),set_ne _ _ _ _ _ (by omega),set_ne _ _ _ _ _ (by omega)]
  exact set_eq _ _ _ _ _ h0
 ·rw [set_ne _ _ _ _ _ (by omega),set_ne _ _ _ _ _ (by omega),set_ne _ _ _ _ _ (by omega),set_ne _ _ _ _ _ (by omega),set_ne _ _ _ _ _ (by omega),set_ne _ _ _ _ _ (by omega),set_ne _ _ _ _ _ (by omega)]
  exact set_eq _ _ _ _ _ (by rw [set_ne _ _ _ _ _ (by omega)];exact h1)
 ·rw [set_ne _ _ _ _ _ (by omega),set_ne _ _ _ _ _ (by omega),set_ne _ _ _ _ _ (by omega),set_ne _ _ _ _ _ (by omega),set_ne _ _ _ _ _ (by omega),set_ne _ _ _ _ _ (by omega)]
  exact set_eq _ _ _ _ _ (by rw [set_ne _ _ _ _ _ (by omega),set_ne _ _ _ _ _ (by omega)];exact h2)
 ·rw [set_ne _ _ _ _ _ (by omega),set_ne _ _ _ _ _ (by omega),set_ne _ _ _ _ _ (by omega),set_ne _ _ _ _ _ (by omega),set_ne _ _ _ _ _ (by omega)]
  exact set_eq _ _ _ _ _ (by rw [set_ne _ _ _ _ _ (by omega),set_ne _ _ _ _ _ (by omega),set_ne _ _ _ _ _ (by omega)];exact h3)
 ·rw [set_ne _ _ _ _ _ (by omega),set_ne _ _ _ _ _ (by omega),set_ne _ _ _ _ _ (by omega),set_ne _ _ _ _ _ (by omega)]
  exact set_eq _ _ _ _ _ (by rw [set_ne _ _ _ _ _ (by omega),set_ne _ _ _ _ _ (by omega),set_ne _ _ _ _ _ (by omega),set_ne _ _ _ _ _ (by omega)];exact h4)
 ·rw [set_ne _ _ _ _ _ (by omega),set_ne _ _ _ _ _ (by omega),set_ne _ _ _ _ _ (by omega)]
  exact set_eq _ _ _ _ _ (by rw [set_ne _ _ _ _ _ (by omega),set_ne _ _ _ _ _ (by omega),set_ne _ _ _ _ _ (by omega),set_ne _ _ _ _ _ (by omega),set_ne _ _ _ _ _ (by omega)];exact h5)
 ·rw [set_ne _ _ _ _ _ (by omega),set_ne _ _ _ _ _ (by omega)]
  exact set_eq _ _ _ _ _ (by rw [set_ne _ _ _ _ _ (by omega),set_ne _ _ _ _ _ (by omega),set_ne _ _ _ _ _ (by omega),set_ne _ _ _ _ _ (by omega),set_ne _ _ _ _ _ (by omega),set_ne _ _ _ _ _ (by omega)];exact h6)
 ·rw [set_ne _ _ _ _ _ (by omega)]
  exact set_eq _ _ _ _ _ (by rw [set_ne _ _ _ _ _ (by omega),set_ne _ _ _ _ _ (by omega),set_ne _ _ _ _ _ (by omega),set_ne _ _ _ _ _ (by omega),set_ne _ _ _ _ _ (by omega),set_ne _ _ _ _ _ (by omega),set_ne _ _ _ _ _ (by omega)];exact h7)
 ·exact set_eq _ _ _ _ _ (by rw [set_ne _ _ _ _ _ (by omega),set_ne _ _ _ _ _ (by omega),set_ne _ _ _ _ _ (by omega),set_ne _ _ _ _ _ (by omega),set_ne _ _ _ _ _ (by omega),set_ne _ _ _ _ _ (by omega),set_ne _ _ _ _ _ (by omega),set_ne _ _ _ _ _ (by omega)];exact h8)
structure ToR (w1:World) (g n:Nat) (F:Nat→Gv) (i:Nat) (W:World) (t:Nat→Nat):Prop where
 kq:Kq (fun k=>k=g) w1 W
 frm:∀ j,j < i→FormO W g j (F j) (t j) (t (j+1))
 rest:∀ j,i≤j→j < n→Cel9 W ⟨g,j*9,none⟩ fv0 (.slice none 0 0) (.slice none 0 0)
 fz:∀ j,W.frozen? ⟨g,j,none⟩=false
 up:∀ a b,a≤b→b≤i→t a≤t b
 b0:g < t 0
 bi:t i≤W.heap.size
 gl:g < w1.heap.size
theorem ToR.below {w1 W W':World} {g n i:Nat} {F:Nat→Gv} {t:Nat→Nat} (h:ToR w1 g n F i W t) (hb:Below W.heap.size W W'):ToR w1 g n F i W' t:=by
 have hgl:g < W.heap.size:=Nat.lt_of_lt_of_le h.gl h.kq.size
 have hk:Kc g (i*9) (i*9+9) (fun _=>False) W W':=(Kc.refl _ _ _ _ W).below hb hgl
 have hgb:=hb.block g hgl
 refine ⟨h.kq.trans (Kq.of_below hb (Nat.le_refl _)),fun j hj=>(h.frm j hj).kc hk (by omega) (fun _ _ _ f=>f),fun j h1 h2=>(h.rest j h1 h2).below hb,fun j=>by rw [World.frozen?_of_block hgb];exact h.fz j,h.up,h.b0,Nat.le_trans h.bi hb.size,h.gl⟩
theorem ToR.step {w1 W w6 : World} {g n i : Nat} {F : Nat → Gv} {t : Nat → Nat} (h : ToR w1 g n F i W t) (hi : i < n) (hb : Below W.heap.size W w6) {vn vk : Value} {gn gk : Nat}
  (o1:OwnR w6 vn gn (F i).p (fun j=>.string ((F i).A j))) (o2:OwnR w6 vk gk (F i).q (fun j=>.int .i64 ((F i).K j))) (h1:W.heap.size≤gn) (h2:gn < gk) (h3:gk < w6.heap.size) :
  Cel9 w6 ⟨g,i*9,none⟩ fv0 (.slice none 0 0) (.slice none 0 0)∧(∀ j,w6.frozen? ⟨g,j,none⟩=false)∧ToR w1 g n F (i+1) (s9 w6 g (i*9) (F i).a vn vk) (fun j=>if j≤i then t j else w6.heap.size):=by
 have h6:=h.below hb
 have hc:=h6.rest i (Nat.le_refl _) hi
 have hgl:g < W.heap.size:=Nat.lt_of_lt_of_le h.gl h.kq.size
 have hg6:g < w6.heap.size:=Nat.lt_of_lt_of_le hgl hb.size
 have hk:=s9_kc w6 g i (F i).a vn vk (fun _=>False)
 have hb6:=h6.bi
 have hbi:=h.bi
 have hws:=hb.size
 have blk:∀ b,b < w6.heap.size→b ≠ g→(s9 w6 g (i*9) (F i).a vn vk).heap[b]? = w6.heap[b]?:=fun b h1 h2=>hk.block b h1 h2 (fun f=>f)
 refine ⟨hc,h6.fz,⟨⟨hk.os.trans h6.kq.os,hk.tape.trans h6.kq.tape,hk.output.trans h6.kq.output,Nat.le_trans h6.kq.size hk.size,fun b hb1 hb2=>(blk b (Nat.lt_of_lt_of_le hb1 h6.kq.size) hb2).trans (h6.kq.block b hb1 hb2)⟩,?_,?_,fun j=>(hk.fz j).trans (h6.fz j),?_,?_,?_,h.gl⟩⟩
 ·intro j hj
  by_cases e:j=i
  ·subst e
   rw [if_pos (Nat.le_refl _),if_neg (by omega)]
   refine ⟨vn,vk,gn,gk,s9_cel hc _ _ _,o1.block (fun hp=>blk gn (by omega) (by omega)),o2.block (fun hp=>blk gk (by omega) (by omega)),fun hp=>⟨by omega,by omega,by omega⟩,fun hp=>⟨by omega,by omega,by omega⟩,fun _ _=>by omega⟩
  ·rw [if_pos (by omega),if_pos (by omega)]
   exact (h6.frm j (by omega)).kc hk (by omega) (fun _ _ _ f=>f)
 ·intro j h1 h2
  obtain ⟨c0,c1,c2,c3,c4,c5,c6,c7,c8⟩:=h6.rest j (by omega) h2
  have e:∀ c,c < 9→(s9 w6 g (i*9) (F i).a vn vk).cell? ⟨g,j*9+c,none⟩=w6.cell? ⟨g,j*9+c,none⟩:=fun c hc=>hk.cell _ (by omega)
  exact ⟨(e 0 (by omega)).trans c0,(e 1 (by omega)).trans c1,(e 2 (by omega)).trans c2,(e 3 (by omega)).trans c3,(e 4 (by omega)).trans c4,(e 5 (by omega)).trans c5,(e 6 (by omega)).trans c6,(e 7 (by omega)).trans c7,(e 8 (by omega)).trans c8⟩
 ·intro a b hab hbi2
  show (if a≤i then t a else w6.heap.size)≤(if b≤i then t b else w6.heap.size)
  by_cases e:b≤i
  ·rw [if_pos e,if_pos (by omega)];exact h.up a b hab e
  ·rw [if_neg e]
   by_cases e2:a≤i
   ·rw [if_pos e2];have:=h.up a i e2 (Nat.le_refl _);omega
   ·rw [if_neg e2];exact Nat.le_refl _
 ·show g < (if 0≤i then t 0 else w6.heap.size)
  rw [if_pos (Nat.zero_le _)];exact h.b0
 ·show (if i+1≤i then t (i+1) else w6.heap.size)≤_
  rw [if_neg (by omega),s9_size];exact Nat.le_refl _
theorem to_forms {va : Value} {n : Nat} {F : Nat → Gv} (w : World) (ha : RowF w va n F) (hn : n + smr F n ≤ 1048576) :
  Calls Tryz.prog 29 #[va] w fun e w'=>∃ v g t,e = .returned v∧OwnF w' v g n F t w.heap.size w'.heap.size∧Below w.heap.size w w':=by
 obtain ⟨pa,ca,rfl,ha2⟩:=ha
 have hnI:(n:Int)≤1048576:=by omega
 have hmk:=run_make (P:=Tryz.prog) w 29 50 Tryz.t50 z9 Tryz.underlying29 (by kernel_rfl) (by kernel_rfl) .i64 .i64 (n:Int) (n:Int) (by omega) (Int.le_refl _) (by show (112:Int)*(n:Int)≤_;omega) (by omega)
 rw [Int.toNat_natCast] at hmk
 obtain ⟨w1,hw1⟩:∃ w1,w1=w.alloc (.cells (madeCells z9.cells (n*Tryz.t50.size)) 50):=⟨_,rfl⟩
 rw [← hw1] at hmk
 have c1:∀ j c,j < n→c < 9→w1.cell? ⟨w.heap.size,j*9+c,none⟩=z9.cells[c]?:=by intro j c hj hc;rw [hw1];exact made9 w 50 n j c hj hc
 have f1:∀ j,w1.frozen? ⟨w.heap.size,j,none⟩=false:=by intro j;rw [hw1];exact made_fz _ _ _ _
 have b1:Below w.heap.size w w1:=by rw [hw1];exact (Below.refl _ w).alloc (Nat.le_refl _) _
 have l1:w.heap.size < w1.heap.size:=by rw [hw1];simp
 have HI0:Hid (ToR w1 w.heap.size n F 0 w1 (fun _=>w1.heap.size)):=(⟨Kq.refl _ _,fun i hi=>by omega,fun j _ hj=>⟨c1 j 0 hj (by omega),c1 j 1 hj (by omega),c1 j 2 hj (by omega),c1 j 3 hj (by omega),c1 j 4 hj (by omega),c1 j 5 hj (by omega),c1 j 6 hj (by omega),c1 j 7 hj (by omega),c1 j 8 hj (by omega)⟩,f1,fun _ _ _ _=>Nat.le_refl _,l1,Nat.le_refl _,l1⟩:ToR w1 w.heap.size n F 0 w1 (fun _=>w1.heap.size))
 have HA:Hid ((0 < n→∃ a:Addr,pa=some a∧n≤ca∧∀ i,i < n→FormC w (a.add (i*9)) (F i))∧Below w.heap.size w w1∧n+smr F n≤1048576):=(⟨ha2,b1,hn⟩:_∧_∧_)
 clear ha2 b1 c1 f1 hw1 hn l1
 obtain ⟨G,hG⟩:∃ G,G=w.heap.size:=⟨_,rfl⟩
 rw [← hG] at hmk HI0 ⊢
 have HG:Hid (G=w.heap.size):=hG
 clear hG
 go_enter Tryz.func29,Tryz.ntmps29
 go_wp2_with fail
 go_loopw [4] (fun s4 wr=>∃ i:Nat,s4 = .int .i64 (i:Int)∧i≤n∧Hid (∃ t,ToR w1 G n F i wr t)) (fun s4 _=>n - (intOf s4).toNat)
 case atStart=>exact ⟨0,rfl,Nat.zero_le _,(⟨_,HI0⟩:∃ t,ToR w1 G n F 0 w1 t)⟩
 case round =>
  clear HI0 hmk
  obtain ⟨i,rfl,hin,HI⟩:=hrel
  obtain ⟨t,hI⟩:=(show ∃ t,ToR w1 G n F i wr t from HI)
  have hA:=(show (0 < n→∃ a:Addr,pa=some a∧n≤ca∧∀ i,i < n→FormC w (a.add (i*9)) (F i))∧Below w.heap.size w w1∧n+smr F n≤1048576 from HA)
  have hBW:Below w.heap.size w wr:=by
   have hG:=(show G=w.heap.size from HG)
   exact ⟨hI.kq.os.trans hA.2.1.os,hI.kq.tape.trans hA.2.1.tape,hI.kq.output.trans hA.2.1.output,Nat.le_trans hA.2.1.size hI.kq.size,fun b hb=>(hI.kq.block b (Nat.lt_of_lt_of_le hb hA.2.1.size) (by omega)).trans (hA.2.1.block b hb)⟩
  rcases Nat.lt_or_ge i n with hi | hi
  ·have hiI:(i:Int) < (n:Int):=by omega
   obtain ⟨a,rfl,hca,hra⟩:=hA.1 (by omega)
   obtain ⟨un,uk,hc,hrn,hrk⟩:=(hra i hi).below hBW
   have hsu:=smr_mono F (show i+1≤n from hi)
   have hss:smr F (i+1)=smr F i+(F i).p+(F i).q:=rfl
   have HT:Hid (Calls Tryz.prog 53 #[fmv (F i).a un uk] wr fun e w'=>∃ vn vk gn gk,e = .returned (fmv (F i).a vn vk)∧OwnR w' vn gn (F i).p (fun j=>.string ((F i).A j))∧OwnR w' vk gk (F i).q (fun j=>.int .i64 ((F i).K j))∧wr.heap.size≤gn∧gn < gk∧gk < w'.heap.size∧Below wr.heap.size wr w'):=to_form wr hrn hrk (by omega) (by omega)
   have HS:Hid (∀ w6 vn vk gn gk,Below wr.heap.size wr w6→OwnR w6 vn gn (F i).p (fun j=>.string ((F i).A j))→OwnR w6 vk gk (F i).q (fun j=>.int .i64 ((F i).K j))→wr.heap.size≤gn→gn < gk→gk < w6.heap.size→Cel9 w6 ⟨G,i*9,none⟩ fv0 (.slice none 0 0) (.slice none 0 0)∧(∀ j,w6.frozen? ⟨G,j,none⟩=false)∧∃ t,ToR w1 G n F (i+1) (s9 w6 G (i*9) (F i).a vn vk) t):=(fun w6 vn vk gn gk hb o1 o2 l1 l2 l3=>by
    obtain ⟨q1,q2,q3⟩:=hI.step hi hb o1 o2 l1 l2 l3
    exact ⟨q1,q2,_,q3⟩:∀ w6 vn vk gn gk,_)
   obtain ⟨d0,d1,d2,d3,d4,d5,d6,d7,d8⟩:=hc
   clear hA HA hI HI hra hrn hrk hsu hss hin HG hBW
   go_wp2_with fail
   refine (show Calls Tryz.prog 53 #[fmv (F i).a un uk] wr fun e w'=>∃ vn vk gn gk,_ from HT).mono ?_
   rintro e w6 ⟨vn,vk,gn,gk,rfl,o1,o2,l1,l2,l3,hb6⟩
   obtain ⟨hc,hf,hT⟩:=(show ∀ w6 vn vk gn gk,_ from HS) w6 vn vk gn gk hb6 o1 o2 l1 l2 l3
   obtain ⟨pn,cn,rfl,_⟩:=o1.sl
   obtain ⟨pk,ck,rfl,_⟩:=o2.sl
   have HTT:Hid (∃ t,ToR w1 G n F (i+1) (s9 w6 G (i*9) (F i).a (.slice pn (F i).p cn) (.slice pk (F i).q ck)) t):=hT
   obtain ⟨h0,h1,h2,h3,h4,h5,h6,h7,h8⟩:=hc
   dsimp only [fv0] at h0 h1 h2 h3 h4 h5 h6 h7 h8
   have e0:=hf (i*9)
   have e1:=hf (i*9+1)
   have e2:=hf (i*9+2)
   have e3:=hf (i*9+3)
   have e4:=hf (i*9+4)
   have e5:=hf (i*9+5)
   have e6:=hf (i*9+6)
   have e7:=hf (i*9+7)
   have e8:=hf (i*9+8)
   clear hf hT HS HT o1 o2 l1 l2 l3 hb6 d0 d1 d2 d3 d4 d5 d6 d7 d8
   unfold fmv
   go_wp2_with fail
   go_roundw
   case rel=>exact ⟨i+1,by go_num,by omega,HTT⟩
   case measure=>simp [intOf];omega
  ·obtain rfl:i=n:=by omega
   have HE:Hid ((∃ t,ToR w1 G i F i wr t)∧Below w.heap.size w wr∧G=w.heap.size):=(⟨⟨_,hI⟩,hBW,HG⟩:_∧_∧_)
   clear HI hI hA HA HG hBW
   go_wp2_with fail
   go_ret
   obtain ⟨⟨t',hE⟩,hB,hG⟩:=(show (∃ t,ToR w1 G i F i wr t)∧Below w.heap.size w wr∧G=w.heap.size from HE)
   have hgl:=Nat.lt_of_lt_of_le hE.gl hE.kq.size
   have hb0:=hE.b0
   exact ⟨_,G,t',rfl,⟨⟨_,_,rfl,fun _=>⟨rfl,Nat.le_refl _⟩⟩,hE.frm,fun _=>hE.fz,hE.up,fun _=>⟨by omega,hgl⟩,by omega,hE.bi⟩,hG ▸ hB⟩
theorem RowF.below {W W':World} {v:Value} {n:Nat} {F:Nat→Gv} (h:RowF W v n F) (hb:Below W.heap.size W W'):RowF W' v n F:=by
 obtain ⟨pa,cap,h1,h2⟩:=h
 refine ⟨pa,cap,h1,fun hn=>?_⟩
 obtain ⟨a,e1,e2,e3⟩:=h2 hn
 exact ⟨a,e1,e2,fun i hi=>(e3 i hi).below hb⟩
theorem sz_sheet {v : Value} {n : Nat} {F : Nat → Gv} (w : World) (ha : RowF w v n F) (hn : (n : Int) < 140737488355328)
  (hF:∀ i,i < n→((F i).a.x.size:Int) < 140737488355328∧((F i).p:Int) < 140737488355328∧(∀ j,j < (F i).p→(((F i).A j).size:Int) < 140737488355328)∧((F i).q:Int) < 140737488355328) :
  Calls Tryz.prog 7 #[.agg #[v],.int .i64 1048576] w fun e w'=>∃ r:Int,e = .returned (.int .i64 r)∧(0≤r→(n:Int)+(smr F n:Int)≤1048576) ∧ -1≤r∧r≤1048576∧Below w.heap.size w w':=by
 have hs:Hid (∀ o:Obj,Calls Tryz.prog 26 #[v,.int .i64 1048576] (w.alloc o) fun e w'=>∃ r:Int,e = .returned (.int .i64 r)∧(0≤r→(n:Int)+(smr F n:Int)≤1048576) ∧ -1≤r∧r≤1048576∧Below (w.alloc o).heap.size (w.alloc o) w'):=(fun o=>sz_forms (w.alloc o) 1048576 (ha.below (bel1 _ _)) hn hF (by omega) (by omega):∀ o:Obj,_)
 obtain ⟨pa,ca,rfl,_⟩:=ha
 clear hn hF
 go_enter Tryz.func7,Tryz.ntmps7
 go_wp2_with fail
 refine (hs _).mono ?_
 rintro e w1 ⟨r,rfl,h1,h2,h3,hb⟩
 have HB:Hid ((0≤r→(n:Int)+(smr F n:Int)≤1048576)∧Below w.heap.size w w1):=(⟨h1,(bel1 w _).trans (hb.mono (by simp))⟩:_∧_)
 clear hs h1 hb
 rcases Int.lt_or_le r 0 with h | h
 ·go_wp2_with fail
  go_ret
  exact ⟨-1,rfl,fun f=>by omega,by omega,by omega,HB.2⟩
 ·have h':¬ r < 0:=by omega
  go_wp2_with fail
  go_ret
  exact ⟨r,rfl,HB.1,h2,h3,HB.2⟩
theorem to_sheet {va : Value} {n : Nat} {F : Nat → Gv} (w : World) (ha : RowF w va n F) (hn : n + smr F n ≤ 1048576) :
  Calls Tryz.prog 9 #[.agg #[va]] w fun e w'=>∃ v g t,e = .returned (.agg #[v])∧OwnF w' v g n F t w.heap.size w'.heap.size∧Below w.heap.size w w':=by
 have hs:Hid (∀ a b c:Obj,Calls Tryz.prog 29 #[va] (((w.alloc a).alloc b).alloc c) fun e w'=>∃ v g t,e = .returned v∧OwnF w' v g n F t (((w.alloc a).alloc b).alloc c).heap.size w'.heap.size∧Below (((w.alloc a).alloc b).alloc c).heap.size (((w.alloc a).alloc b).alloc c) w'):=(fun a b c=>to_forms _ (ha.below (bel3 _ _ _ _)) hn:∀ a b c:Obj,_)
 obtain ⟨pa,ca,rfl,_⟩:=ha
 clear hn
 go_enter Tryz.func9,Tryz.ntmps9
 go_wp2_with fail
 refine (hs _ _ _).mono ?_
 rintro e w1 ⟨v,g,t,rfl,ho,hb⟩
 obtain ⟨w3,hw3⟩:∃ w3,w3=((w.alloc (.cells #[.slice pa n ca] 24)).alloc (.cells #[.slice none 0 0] 31)).alloc (.cells #[.slice none 0 0] 31):=⟨_,rfl⟩
 obtain ⟨r0,r1,r2,s1,s2,z3⟩:=al3 w _ _ _ _ _ _ w3 hw3
 have b3:Below w.heap.size w w3:=by rw [hw3];exact bel3 _ _ _ _
 rw [← hw3] at ho hb
 have hz:=hb.size
 have c1:w1.cell? ⟨w.heap.size+1,0,none⟩=some (.slice none 0 0):=(hb.cell (p:=⟨w.heap.size+1,0,none⟩) (by show w.heap.size+1 < _;omega)).trans (r1 0)
 have f1:w1.frozen? ⟨w.heap.size+1,0,none⟩=false:=(hb.frozen (p:=⟨w.heap.size+1,0,none⟩) (by show w.heap.size+1 < _;omega)).trans (s1 0)
 have c2:w1.cell? ⟨w.heap.size+1+1,0,none⟩=some (.slice none 0 0):=(hb.cell (p:=⟨w.heap.size+1+1,0,none⟩) (by show w.heap.size+1+1 < _;omega)).trans (r2 0)
 have f2:w1.frozen? ⟨w.heap.size+1+1,0,none⟩=false:=(hb.frozen (p:=⟨w.heap.size+1+1,0,none⟩) (by show w.heap.size+1+1 < _;omega)).trans (s2 0)
 obtain ⟨pv,cv,rfl,_⟩:=ho.sl
 have HF:Hid (OwnF ((w1.setCell ⟨w.heap.size+1+1,0,none⟩ (.slice pv n cv)).setCell ⟨w.heap.size+1,0,none⟩ (.slice pv n cv)) (.slice pv n cv) g n F t w.heap.size w1.heap.size∧Below w.heap.size w ((w1.setCell ⟨w.heap.size+1+1,0,none⟩ (.slice pv n cv)).setCell ⟨w.heap.size+1,0,none⟩ (.slice pv n cv))):=by
  show _∧_
  have hk:=ho.keep (W':=(w1.setCell ⟨w.heap.size+1+1,0,none⟩ (.slice pv n cv)).setCell ⟨w.heap.size+1,0,none⟩ (.slice pv n cv)) (fun b h1 h2 h3=>by
   rw [Below.heap_setCell _ _ _ _ (show b ≠ w.heap.size+1 by omega),Below.heap_setCell _ _ _ _ (show b ≠ w.heap.size+1+1 by omega)])
  have k1:=hk.bg
  have k2:=hk.b0
  exact ⟨⟨hk.sl,hk.frm,hk.fz,hk.up,fun hn=>by have:=k1 hn;omega,by omega,hk.bn⟩,((b3.trans (hb.mono (by omega))).setCell (by show w.heap.size≤w.heap.size+1+1;omega) _).setCell (by show w.heap.size≤w.heap.size+1;omega) _⟩
 have e0:((w1.setCell ⟨w.heap.size+1+1,0,none⟩ (.slice pv n cv)).setCell ⟨w.heap.size+1,0,none⟩ (.slice pv n cv)).cell? ⟨w.heap.size+1,0,none⟩=some (.slice pv n cv):=set_eq _ _ _ _ _ ((World.cell?_setCell_other _ _ _ _ (fun e=>by have:=congrArg Addr.block e;simp at this)).trans c1)
 have E0:Hid (((w1.setCell ⟨w.heap.size+1+1,0,none⟩ (.slice pv n cv)).setCell ⟨w.heap.size+1,0,none⟩ (.slice pv n cv)).cell? ⟨w.heap.size+1,0,none⟩=some (.slice pv n cv)):=e0
 clear r0 r1 r2 s1 s2 z3 b3 ho hb hz hw3 e0 hs
 go_wp2_with fail
 have e0:=(show ((w1.setCell ⟨w.heap.size+1+1,0,none⟩ (.slice pv n cv)).setCell ⟨w.heap.size+1,0,none⟩ (.slice pv n cv)).cell? ⟨w.heap.size+1,0,none⟩=some (.slice pv n cv) from E0)
 refine bodyPost_ret (by simp [results,Tryz.results9,go_sem,e0];rfl) rfl ?_
 exact ⟨_,g,t,rfl,by simpa using HF.1,HF.2⟩
theorem eq_sheet {va vb : Value} {n : Nat} {F : Nat → Gv} (w : World) (ha : RowF w va n F) (hb : RowF w vb n F) (hn : n + smr F n ≤ 1048576) :
  Calls Tryz.prog 12 #[.agg #[va],.agg #[vb]] w fun e w'=>e = .returned (.bool true)∧Below w.heap.size w w':=by
 have hs:Hid (∀ a b:Obj,Calls Tryz.prog 34 #[va,vb] ((w.alloc a).alloc b) fun e w'=>e = .returned (.bool true)∧Below ((w.alloc a).alloc b).heap.size ((w.alloc a).alloc b) w'):=(fun a b=>eq_forms _ (ha.below (bel2 _ _ _)) (hb.below (bel2 _ _ _)) (by omega) (fun i hi=>by
  have hsu:=smr_mono F (show i+1≤n from hi)
  have hss:smr F (i+1)=smr F i+(F i).p+(F i).q:=rfl
  omega):∀ a b:Obj,_)
 obtain ⟨pa,ca,rfl,_⟩:=ha
 obtain ⟨pb,cb,rfl,_⟩:=hb
 clear hn
 go_enter Tryz.func12,Tryz.ntmps12
 go_wp2_with fail
 refine (hs _ _).mono ?_
 rintro e w1 ⟨rfl,hb⟩
 have HB:Hid (Below w.heap.size w w1):=(bel2 w _ _).trans (hb.mono (by simp;omega))
 clear hb hs
 go_wp2_with fail
 go_ret
 exact ⟨rfl,HB⟩
theorem cells3:Tryz.prog.cellsOf 3=1:=by kernel_rfl
theorem cells2:Tryz.prog.cellsOf 2=1:=by kernel_rfl
theorem cells9:Tryz.prog.cellsOf 9=1:=by kernel_rfl
theorem cells35:Tryz.prog.cellsOf 48=1:=by kernel_rfl
theorem cells36:Tryz.prog.cellsOf 36=1:=by kernel_rfl
theorem cells22:Tryz.prog.cellsOf 22=1:=by kernel_rfl
theorem cells24:Tryz.prog.cellsOf 24=1:=by kernel_rfl
theorem cells47:Tryz.prog.cellsOf 83=9:=by kernel_rfl
theorem bytes3:Tryz.prog.bytesOf 3=8:=by kernel_rfl
theorem bytes9:Tryz.prog.bytesOf 9=16:=by kernel_rfl
theorem bytes47:Tryz.prog.bytesOf 83=112:=by kernel_rfl
def strOf:Value→ByteArray
 | .string s=>s
 | _=>⟨#[]⟩
def numOf:Value→Int
 | .int _ z=>z
 | _=>0
def Sz {H:Type} (t:TypeId) (d:DataW H):Prop:=∀ n ∈ d.weights Tryz.prog t,n≤140737488351232
theorem weightsAll_mem {H:Type} {e:TypeId}:∀ {l:List (DataW H)} {d:DataW H} {n:Nat},d ∈ l→n ∈ d.weights Tryz.prog e→n ∈ DataW.weightsAll Tryz.prog e l
 | [],_,_,h,_=>by cases h
 | x :: r,d,n,h,hn=>by
  simp only [DataW.weightsAll,List.mem_append]
  rcases List.mem_cons.1 h with rfl | h
  ·exact Or.inl hn
  ·exact Or.inr (weightsAll_mem h hn)
theorem Sz.head {H:Type} {t e:TypeId} {el sp:List (DataW H)} (h:Sz t (.slice el sp)) (ht:Tryz.prog.underlying t=some (.slice e)):(el.length+sp.length)*Tryz.prog.bytesOf e≤140737488351232:=h _ (by simp [DataW.weights,ht])
theorem Sz.elem {H:Type} {t e:TypeId} {el sp:List (DataW H)} (h:Sz t (.slice el sp)) (ht:Tryz.prog.underlying t=some (.slice e)) {d:DataW H} (hd:d ∈ el):Sz e d:=fun n hn=>h n (by
 simp only [DataW.weights,ht,List.mem_cons,List.mem_append]
 exact Or.inr (Or.inl (weightsAll_mem hd hn)))
section
variable {H:Type} {enc:TypeId × Value→H} {w:World} {base:Nat} {sp:Nat→Bool} {held:Bool}
theorem read_ints {fuel : Nat} {cs : List Value} {x : DataW H × List MemPlace} (h : DataW.trod enc Tryz.prog w base sp held fuel 36 cs = some x) (hz : Sz 36 x.1) :
  ∃ (v:Value) (n:Nat) (A:Nat→Int),cs = [v]∧RowV w v n (fun i=>.int .i64 (A i))∧(n:Int) < 140737488355328:=by
 rcases Deep.open_slice1 Tryz.underlying36 cells3 h with ⟨rfl,rfl⟩ | ⟨a,len,cap,m,n,V,D,Pl,rfl,hb,hl,hm,hmm,rfl,hx⟩
 ·exact ⟨.slice none 0 0,0,fun _=>0,rfl,⟨none,0,rfl,fun f=>by omega⟩,by omega⟩
 ·have hle:len≤m:=by rw [hmm];split <;> omega
  have hh:=hz.head Tryz.underlying36
  rw [bytes3] at hh
  simp only [List.length_map,List.length_range] at hh
  refine ⟨_,len,fun i=>numOf (V i),rfl,⟨some a,cap,rfl,fun _=>⟨a,rfl,hl,fun i hi=>?_⟩⟩,by omega⟩
  obtain ⟨h1,h2⟩:=hx i (by omega)
  obtain ⟨z,e1,_⟩:=DataW.trod_int Tryz.underlying3 h2
  simp only [List.cons.injEq,and_true] at e1
  rw [h1]
  show some (V i)=some (.int .i64 (numOf (V i)))
  rw [e1];rfl
theorem read_strs {fuel : Nat} {cs : List Value} {x : DataW H × List MemPlace} (h : DataW.trod enc Tryz.prog w base sp held fuel 48 cs = some x) (hz : Sz 48 x.1) :
  ∃ (v:Value) (n:Nat) (A:Nat→ByteArray),cs = [v]∧RowV w v n (fun i=>.string (A i))∧(n:Int) < 140737488355328∧∀ i,i < n→((A i).size:Int) < 140737488355328:=by
 rcases Deep.open_slice1 Tryz.underlying48 cells9 h with ⟨rfl,rfl⟩ | ⟨a,len,cap,m,n,V,D,Pl,rfl,hb,hl,hm,hmm,rfl,hx⟩
 ·exact ⟨.slice none 0 0,0,fun _=>⟨#[]⟩,rfl,⟨none,0,rfl,fun f=>by omega⟩,by omega,fun i hi=>by omega⟩
 ·have hle:len≤m:=by rw [hmm];split <;> omega
  have hh:=hz.head Tryz.underlying48
  rw [bytes9] at hh
  simp only [List.length_map,List.length_range] at hh
  refine ⟨_,len,fun i=>strOf (V i),rfl,⟨some a,cap,rfl,fun _=>⟨a,rfl,hl,fun i hi=>?_⟩⟩,by omega,fun i hi=>?_⟩
  ·obtain ⟨h1,h2⟩:=hx i (by omega)
   obtain ⟨z,e1,_⟩:=DataW.trod_string Tryz.underlying9 h2
   simp only [List.cons.injEq,and_true] at e1
   rw [h1]
   show some (V i)=some (.string (strOf (V i)))
   rw [e1];rfl
  ·obtain ⟨h1,h2⟩:=hx i (by omega)
   obtain ⟨z,e1,e2,_⟩:=DataW.trod_string Tryz.underlying9 h2
   simp only [List.cons.injEq,and_true] at e1
   have hs:=hz.elem Tryz.underlying48 (d:=D i) (List.mem_map.2 ⟨i,List.mem_range.2 hi,rfl⟩)
   rw [show D i = .lit (.string z.data.toList) from congrArg Prod.fst e2] at hs
   have:=hs z.data.toList.length (by simp [DataW.weights])
   show ((strOf (V i)).size:Int) < _
   rw [e1]
   show ((z.size:Nat):Int) < _
   have e:z.size=z.data.toList.length:=by simp
   omega
theorem read_form {fuel : Nat} {cs : List Value} {x : DataW H × List MemPlace} {b : Addr} (h : DataW.trod enc Tryz.prog w base sp held fuel 83 cs = some x) (hc : w.cells? base b 9 = some cs) (hz : Sz 83 x.1) :
  ∃ g:Gv,FormC w b g∧(g.a.x.size:Int) < 140737488355328∧(g.p:Int) < 140737488355328∧(∀ j,j < g.p→((g.A j).size:Int) < 140737488355328)∧(g.q:Int) < 140737488355328:=by
 obtain ⟨_,hlen,hcell⟩:=World.cells?_some hc
 obtain ⟨xs,n,_,rfl,hl,hxl,hf⟩:=DataW.trod_struct Tryz.underlying83 h
 match cs,hlen with
 | [c0,c1,c2,c3,c4,c5,c6,c7,c8],_ =>
  match xs,hxl with
  | [y0,y1,y2,y3,y4,y5,y6,y7,y8],_ =>
   have t0:=hf 0 _ rfl
   have t1:=hf 1 _ rfl
   have t2:=hf 2 _ rfl
   have t3:=hf 3 _ rfl
   have t4:=hf 4 _ rfl
   have t5:=hf 5 _ rfl
   have t6:=hf 6 _ rfl
   have t7:=hf 7 _ rfl
   have t8:=hf 8 _ rfl
   simp [cells3,cells2,cells9,cells35,cells36] at t0 t1 t2 t3 t4 t5 t6 t7 t8
   have hzz:∀ n ∈ y6.1.weights Tryz.prog 9 ++ (y7.1.weights Tryz.prog 48 ++ y8.1.weights Tryz.prog 36),n≤140737488351232:=by
    intro n hn
    refine hz n ?_
    simp [DataW.weights,Tryz.underlying83,DataW.weightsEach]
    simp at hn
    exact Or.inr (Or.inr (Or.inr (Or.inr (Or.inr (Or.inr hn)))))
   obtain ⟨z0,e0,_⟩:=DataW.trod_int Tryz.underlying3 t0
   obtain ⟨z1,e1,_⟩:=DataW.trod_int Tryz.underlying3 t1
   obtain ⟨z2,e2,_⟩:=DataW.trod_int Tryz.underlying3 t2
   obtain ⟨z3,e3,_⟩:=DataW.trod_int Tryz.underlying3 t3
   obtain ⟨z4,e4,_⟩:=DataW.trod_int Tryz.underlying3 t4
   obtain ⟨z5,e5,_⟩:=DataW.trod_int Tryz.underlying2 t5
   obtain ⟨z6,e6,e6',_⟩:=DataW.trod_string Tryz.underlying9 t6
   obtain ⟨vn,p,A,e7,r7,s7,s7'⟩:=read_strs t7 (fun n hn=>hzz n (by simp [hn]))
   obtain ⟨vk,q,K,e8,r8,s8⟩:=read_ints t8 (fun n hn=>hzz n (by simp [hn]))
   simp only [List.cons.injEq,and_true] at e0 e1 e2 e3 e4 e5 e6 e7 e8
   subst e0 e1 e2 e3 e4 e5 e6 e7 e8
   refine ⟨⟨⟨z0,z1,z2,z3,z4,z5,z6⟩,p,A,q,K⟩,⟨_,_,⟨?_,?_,?_,?_,?_,?_,?_,?_,?_⟩,r7,r8⟩,?_,s7,s7',s8⟩
   ·have:=hcell 0 (by omega);simpa [Addr.add] using this
   ·have:=hcell 1 (by omega);simpa [Addr.add] using this
   ·have:=hcell 2 (by omega);simpa [Addr.add] using this
   ·have:=hcell 3 (by omega);simpa [Addr.add] using this
   ·have:=hcell 4 (by omega);simpa [Addr.add] using this
   ·have:=hcell 5 (by omega);simpa [Addr.add] using this
   ·have:=hcell 6 (by omega);simpa [Addr.add] using this
   ·have:=hcell 7 (by omega);simpa [Addr.add] using this
   ·have:=hcell 8 (by omega);simpa [Addr.add] using this
   ·have:=hzz z6.data.toList.length (by rw [e6'];simp [DataW.weights])
    show ((z6.size:Nat):Int) < _
    have e:z6.size=z6.data.toList.length:=by simp
    omega
instance:Inhabited Gv:=⟨⟨fv0,0,fun _=>⟨#[]⟩,0,fun _=>0⟩⟩
theorem read_forms {fuel : Nat} {cs : List Value} {x : DataW H × List MemPlace} (h : DataW.trod enc Tryz.prog w base sp held fuel 22 cs = some x) (hz : Sz 22 x.1) :
  ∃ (pa:Option Addr) (ca n:Nat) (F:Nat→Gv),cs = [.slice pa n ca]∧RowF w (.slice pa n ca) n F∧(n:Int) < 140737488355328∧∀ i,i < n→((F i).a.x.size:Int) < 140737488355328∧((F i).p:Int) < 140737488355328∧(∀ j,j < (F i).p→(((F i).A j).size:Int) < 140737488355328)∧((F i).q:Int) < 140737488355328:=by
 rcases Deep.open_slice Tryz.underlying22 h with ⟨rfl,rfl⟩ | ⟨a,len,cap,m,n,D,Pl,rfl,hb,hl,hm,hmm,rfl,hx⟩
 ·exact ⟨none,0,0,fun _=>default,rfl,⟨none,0,rfl,fun f=>by omega⟩,by omega,fun i hi=>by omega⟩
 ·have hle:len≤m:=by rw [hmm];split <;> omega
  have hh:=hz.head Tryz.underlying22
  rw [bytes47] at hh
  simp only [List.length_map,List.length_range] at hh
  rw [cells47] at hx
  obtain ⟨F,hF⟩:=Deep.choose_lt (α:=Gv) (n:=len) (p:=fun i g=>FormC w (a.add (i*9)) g∧(g.a.x.size:Int) < 140737488355328∧(g.p:Int) < 140737488355328∧(∀ j,j < g.p→((g.A j).size:Int) < 140737488355328)∧(g.q:Int) < 140737488355328) (fun i hi=>by
   obtain ⟨cs',h1,h2⟩:=hx i (by omega)
   exact read_form h2 h1 (hz.elem Tryz.underlying22 (List.mem_map.2 ⟨i,List.mem_range.2 hi,rfl⟩)))
  exact ⟨some a,cap,len,F,rfl,⟨some a,cap,rfl,fun _=>⟨a,rfl,hl,fun i hi=>(hF i hi).1⟩⟩,by omega,fun i hi=>(hF i hi).2⟩
end
noncomputable def dc (p:Prop):Bool:=@decide p (Classical.propDecidable p)
theorem dc_t {p:Prop} (h:p):dc p=true:=@decide_eq_true p (Classical.propDecidable p) h
theorem dc_f {p:Prop} (h:¬ p):dc p=false:=@decide_eq_false p (Classical.propDecidable p) h
theorem dc_iff {p q:Prop} (h:p↔q):dc p=dc q:=by rw [show p=q from propext h]
theorem sp_stat (k:Int) (w:World):Calls Tryz.prog 50 #[.int .i64 k] w fun e w'=>e = .returned (.bool (dc (1≤k∧k≤16)))∧w'=w:=by
 rcases Int.lt_or_le k 1 with h | h
 ·rw [dc_f (by omega)]
  have h':¬ 1≤k:=by omega
  go_enter Tryz.func50,Tryz.ntmps50
  go_wp2_with fail
  go_ret
  exact ⟨rfl,rfl⟩
 ·rcases Int.lt_or_le 16 k with g | g
  ·rw [dc_f (by omega)]
   have g':¬ k≤16:=by omega
   go_enter Tryz.func50,Tryz.ntmps50
   go_wp2_with fail
   go_ret
   exact ⟨rfl,rfl⟩
  ·rw [dc_t ⟨h,g⟩]
   go_enter Tryz.func50,Tryz.ntmps50
   go_wp2_with fail
   go_ret
   exact ⟨rfl,rfl⟩
theorem sp_expr (k:Int) (w:World):Calls Tryz.prog 91 #[.int .i64 k] w fun e w'=>e = .returned (.bool (dc (20≤k∧k≤37)))∧w'=w:=by
 rcases Int.lt_or_le k 20 with h | h
 ·rw [dc_f (by omega)]
  have h':¬ 20≤k:=by omega
  go_enter Tryz.func91,Tryz.ntmps91
  go_wp2_with fail
  go_ret
  exact ⟨rfl,rfl⟩
 ·rcases Int.lt_or_le 37 k with g | g
  ·rw [dc_f (by omega)]
   have g':¬ k≤37:=by omega
   go_enter Tryz.func91,Tryz.ntmps91
   go_wp2_with fail
   go_ret
   exact ⟨rfl,rfl⟩
  ·rw [dc_t ⟨h,g⟩]
   go_enter Tryz.func91,Tryz.ntmps91
   go_wp2_with fail
   go_ret
   exact ⟨rfl,rfl⟩
theorem bne {k m:Int} (h:k ≠ m):(k == m)=false:=beq_eq_false_iff_ne.2 h
theorem beq1 {k m:Int} (h:k=m):(k == m)=true:=beq_iff_eq.2 h
theorem sp_target (k:Int) (w:World):Calls Tryz.prog 74 #[.int .i64 k] w fun e w'=>e = .returned (.bool (dc (k=26∨k=32∨k=33)))∧w'=w:=by
 by_cases h1:k=26
 ·rw [dc_t (.inl h1)]
  have g1:=beq1 h1
  clear h1
  go_enter Tryz.func74,Tryz.ntmps74
  go_wp2_with fail
  go_ret
  exact ⟨rfl,rfl⟩
 ·have g1:=bne h1
  by_cases h2:k=32
  ·rw [dc_t (.inr (.inl h2))]
   have g2:=beq1 h2
   clear h1 h2
   go_enter Tryz.func74,Tryz.ntmps74
   go_wp2_with fail
   go_ret
   exact ⟨rfl,rfl⟩
  ·have g2:=bne h2
   by_cases h3:k=33
   ·rw [dc_t (.inr (.inr h3))]
    have g3:=beq1 h3
    clear h1 h2 h3
    go_enter Tryz.func74,Tryz.ntmps74
    go_wp2_with fail
    go_ret
    exact ⟨rfl,rfl⟩
   ·have g3:=bne h3
    rw [dc_f (by omega)]
    clear h1 h2 h3
    go_enter Tryz.func74,Tryz.ntmps74
    go_wp2_with fail
    go_ret
    exact ⟨rfl,rfl⟩
theorem str0 {x:ByteArray} (h:x=⟨#[]⟩):x.toList = []:=by rw [Lib.toList_data,h]
theorem str1 {x:ByteArray} (h:¬ x=⟨#[]⟩):¬ x.toList = []:=by
 rw [Lib.toList_data]
 intro e
 exact h (by apply ByteArray.ext;exact Array.toList_inj.1 (by simpa using e))
theorem nat0 {p:Nat} (h:p=0):((p:Int) == 0)=true:=by subst h;rfl
theorem nat1 {p:Nat} (h:¬ p=0):((p:Int) == 0)=false:=bne (by omega)
theorem sp_bare (a : Fv) (pn : Option Addr) (p cn : Nat) (vk : Value) (hvk : ∃ pk q ck, vk = .slice pk q ck) (op num text names : Bool) (w : World) (hp : (p : Int) ≤ 1048576) :
  Calls Tryz.prog 71 #[fmv a (.slice pn p cn) vk,.bool op,.bool num,.bool text,.bool names] w fun e w'=>e = .returned (.bool (dc ((op=true∨a.o=0)∧(num=true∨a.m=0)∧(text=true∨a.x=⟨#[]⟩)∧(names=true∨p=0))))∧Below w.heap.size w w':=by
 obtain ⟨pk,q,ck,rfl⟩:=hvk
 unfold fmv
 obtain ⟨k,f,t,l,o,m,x⟩:=a
 dsimp only
 cases op <;> cases num <;> cases text <;> cases names
 ·by_cases h0:o=0
  ·have g0:=beq1 h0
   by_cases h1:m=0
   ·have g1:=beq1 h1
    by_cases h2:x=⟨#[]⟩
    ·have g2:=str0 h2
     by_cases h3:p=0
     ·have g3:=nat0 h3
      rw [dc_t (by simp [*])]
      clear h0 h1 h2 h3
      go_enter Tryz.func71,Tryz.ntmps71
      go_wp2_with fail
      go_ret
      exact ⟨by first | rfl | (simp only [g3];rfl),bel1 _ _⟩
     ·have g3:=nat1 h3
      rw [dc_f (by simp [*])]
      clear h0 h1 h2 h3
      go_enter Tryz.func71,Tryz.ntmps71
      go_wp2_with fail
      go_ret
      exact ⟨by first | rfl | (simp only [g3];rfl),bel1 _ _⟩
    ·have g2:=str1 h2
     rw [dc_f (by simp [*])]
     clear h0 h1 h2
     go_enter Tryz.func71,Tryz.ntmps71
     go_wp2_with fail
     go_ret
     exact ⟨by first | rfl | (simp only [g3];rfl),bel1 _ _⟩
   ·have g1:=bne h1
    rw [dc_f (by simp [*])]
    clear h0 h1
    go_enter Tryz.func71,Tryz.ntmps71
    go_wp2_with fail
    go_ret
    exact ⟨by first | rfl | (simp only [g3];rfl),bel1 _ _⟩
  ·have g0:=bne h0
   rw [dc_f (by simp [*])]
   clear h0
   go_enter Tryz.func71,Tryz.ntmps71
   go_wp2_with fail
   go_ret
   exact ⟨by first | rfl | (simp only [g3];rfl),bel1 _ _⟩
 ·by_cases h0:o=0
  ·have g0:=beq1 h0
   by_cases h1:m=0
   ·have g1:=beq1 h1
    by_cases h2:x=⟨#[]⟩
    ·have g2:=str0 h2
     rw [dc_t (by simp [*])]
     clear h0 h1 h2
     go_enter Tryz.func71,Tryz.ntmps71
     go_wp2_with fail
     go_ret
     exact ⟨by first | rfl | (simp only [g3];rfl),bel1 _ _⟩
    ·have g2:=str1 h2
     rw [dc_f (by simp [*])]
     clear h0 h1 h2
     go_enter Tryz.func71,Tryz.ntmps71
     go_wp2_with fail
     go_ret
     exact ⟨by first | rfl | (simp only [g3];rfl),bel1 _ _⟩
   ·have g1:=bne h1
    rw [dc_f (by simp [*])]
    clear h0 h1
    go_enter Tryz.func71,Tryz.ntmps71
    go_wp2_with fail
    go_ret
    exact ⟨by first | rfl | (simp only [g3];rfl),bel1 _ _⟩
  ·have g0:=bne h0
   rw [dc_f (by simp [*])]
   clear h0
   go_enter Tryz.func71,Tryz.ntmps71
   go_wp2_with fail
   go_ret
   exact ⟨by first | rfl | (simp only [g3];rfl),bel1 _ _⟩
 ·by_cases h0:o=0
  ·have g0:=beq1 h0
   by_cases h1:m=0
   ·have g1:=beq1 h1
    by_cases h3:p=0
    ·have g3:=nat0 h3
     rw [dc_t (by simp [*])]
     clear h0 h1 h3
     go_enter Tryz.func71,Tryz.ntmps71
     go_wp2_with fail
     go_ret
     exact ⟨by first | rfl | (simp only [g3];rfl),bel1 _ _⟩
    ·have g3:=nat1 h3
     rw [dc_f (by simp [*])]
     clear h0 h1 h3
     go_enter Tryz.func71,Tryz.ntmps71
     go_wp2_with fail
     go_ret
     exact ⟨by first | rfl | (simp only [g3];rfl),bel1 _ _⟩
   ·have g1:=bne h1
    rw [dc_f (by simp [*])]
    clear h0 h1
    go_enter Tryz.func71,Tryz.ntmps71
    go_wp2_with fail
    go_ret
    exact ⟨by first | rfl | (simp only [g3];rfl),bel1 _ _⟩
  ·have g0:=bne h0
   rw [dc_f (by simp [*])]
   clear h0
   go_enter Tryz.func71,Tryz.ntmps71
   go_wp2_with fail
   go_ret
   exact ⟨by first | rfl | (simp only [g3];rfl),bel1 _ _⟩
 ·by_cases h0:o=0
  ·have g0:=beq1 h0
   by_cases h1:m=0
   ·have g1:=beq1 h1
    rw [dc_t (by simp [*])]
    clear h0 h1
    go_enter Tryz.func71,Tryz.ntmps71
    go_wp2_with fail
    go_ret
    exact ⟨by first | rfl | (simp only [g3];rfl),bel1 _ _⟩
   ·have g1:=bne h1
    rw [dc_f (by simp [*])]
    clear h0 h1
    go_enter Tryz.func71,Tryz.ntmps71
    go_wp2_with fail
    go_ret
    exact ⟨by first | rfl | (simp only [g3];rfl),bel1 _ _⟩
  ·have g0:=bne h0
   rw [dc_f (by simp [*])]
   clear h0
   go_enter Tryz.func71,Tryz.ntmps71
   go_wp2_with fail
   go_ret
   exact ⟨by first | rfl | (simp only [g3];rfl),bel1 _ _⟩
 ·by_cases h0:o=0
  ·have g0:=beq1 h0
   by_cases h2:x=⟨#[]⟩
   ·have g2:=str0 h2
    by_cases h3:p=0
    ·have g3:=nat0 h3
     rw [dc_t (by simp [*])]
     clear h0 h2 h3
     go_enter Tryz.func71,Tryz.ntmps71
     go_wp2_with fail
     go_ret
     exact ⟨by first | rfl | (simp only [g3];rfl),bel1 _ _⟩
    ·have g3:=nat1 h3
     rw [dc_f (by simp [*])]
     clear h0 h2 h3
     go_enter Tryz.func71,Tryz.ntmps71
     go_wp2_with fail
     go_ret
     exact ⟨by first | rfl | (simp only [g3];rfl),bel1 _ _⟩
   ·have g2:=str1 h2
    rw [dc_f (by simp [*])]
    clear h0 h2
    go_enter Tryz.func71,Tryz.ntmps71
    go_wp2_with fail
    go_ret
    exact ⟨by first | rfl | (simp only [g3];rfl),bel1 _ _⟩
  ·have g0:=bne h0
   rw [dc_f (by simp [*])]
   clear h0
   go_enter Tryz.func71,Tryz.ntmps71
   go_wp2_with fail
   go_ret
   exact ⟨by first | rfl | (simp only [g3];rfl),bel1 _ _⟩
 ·by_cases h0:o=0
  ·have g0:=beq1 h0
   by_cases h2:x=⟨#[]⟩
   ·have g2:=str0 h2
    rw [dc_t (by simp [*])]
    clear h0 h2
    go_enter Tryz.func71,Tryz.ntmps71
    go_wp2_with fail
    go_ret
    exact ⟨by first | rfl | (simp only [g3];rfl),bel1 _ _⟩
   ·have g2:=str1 h2
    rw [dc_f (by simp [*])]
    clear h0 h2
    go_enter Tryz.func71,Tryz.ntmps71
    go_wp2_with fail
    go_ret
    exact ⟨by first | rfl | (simp only [g3];rfl),bel1 _ _⟩
  ·have g0:=bne h0
   rw [dc_f (by simp [*])]
   clear h0
   go_enter Tryz.func71,Tryz.ntmps71
   go_wp2_with fail
   go_ret
   exact ⟨by first | rfl | (simp only [g3];rfl),bel1 _ _⟩
 ·by_cases h0:o=0
  ·have g0:=beq1 h0
   by_cases h3:p=0
   ·have g3:=nat0 h3
    rw [dc_t (by simp [*])]
    clear h0 h3
    go_enter Tryz.func71,Tryz.ntmps71
    go_wp2_with fail
    go_ret
    exact ⟨by first | rfl | (simp only [g3];rfl),bel1 _ _⟩
   ·have g3:=nat1 h3
    rw [dc_f (by simp [*])]
    clear h0 h3
    go_enter Tryz.func71,Tryz.ntmps71
    go_wp2_with fail
    go_ret
    exact ⟨by first | rfl | (simp only [g3];rfl),bel1 _ _⟩
  ·have g0:=bne h0
   rw [dc_f (by simp [*])]
   clear h0
   go_enter Tryz.func71,Tryz.ntmps71
   go_wp2_with fail
   go_ret
   exact ⟨by first | rfl | (simp only [g3];rfl),bel1 _ _⟩
 ·by_cases h0:o=0
  ·have g0:=beq1 h0
   rw [dc_t (by simp [*])]
   clear h0
   go_enter Tryz.func71,Tryz.ntmps71
   go_wp2_with fail
   go_ret
   exact ⟨by first | rfl | (simp only [g3];rfl),bel1 _ _⟩
  ·have g0:=bne h0
   rw [dc_f (by simp [*])]
   clear h0
   go_enter Tryz.func71,Tryz.ntmps71
   go_wp2_with fail
   go_ret
   exact ⟨by first | rfl | (simp only [g3];rfl),bel1 _ _⟩
 ·by_cases h1:m=0
  ·have g1:=beq1 h1
   by_cases h2:x=⟨#[]⟩
   ·have g2:=str0 h2
    by_cases h3:p=0
    ·have g3:=nat0 h3
     rw [dc_t (by simp [*])]
     clear h1 h2 h3
     go_enter Tryz.func71,Tryz.ntmps71
     go_wp2_with fail
     go_ret
     exact ⟨by first | rfl | (simp only [g3];rfl),bel1 _ _⟩
    ·have g3:=nat1 h3
     rw [dc_f (by simp [*])]
     clear h1 h2 h3
     go_enter Tryz.func71,Tryz.ntmps71
     go_wp2_with fail
     go_ret
     exact ⟨by first | rfl | (simp only [g3];rfl),bel1 _ _⟩
   ·have g2:=str1 h2
    rw [dc_f (by simp [*])]
    clear h1 h2
    go_enter Tryz.func71,Tryz.ntmps71
    go_wp2_with fail
    go_ret
    exact ⟨by first | rfl | (simp only [g3];rfl),bel1 _ _⟩
  ·have g1:=bne h1
   rw [dc_f (by simp [*])]
   clear h1
   go_enter Tryz.func71,Tryz.ntmps71
   go_wp2_with fail
   go_ret
   exact ⟨by first | rfl | (simp only [g3];rfl),bel1 _ _⟩
 ·by_cases h1:m=0
  ·have g1:=beq1 h1
   by_cases h2:x=⟨#[]⟩
   ·have g2:=str0 h2
    rw [dc_t (by simp [*])]
    clear h1 h2
    go_enter Tryz.func71,Tryz.ntmps71
    go_wp2_with fail
    go_ret
    exact ⟨by first | rfl | (simp only [g3];rfl),bel1 _ _⟩
   ·have g2:=str1 h2
    rw [dc_f (by simp [*])]
    clear h1 h2
    go_enter Tryz.func71,Tryz.ntmps71
    go_wp2_with fail
    go_ret
    exact ⟨by first | rfl | (simp only [g3];rfl),bel1 _ _⟩
  ·have g1:=bne h1
   rw [dc_f (by simp [*])]
   clear h1
   go_enter Tryz.func71,Tryz.ntmps71
   go_wp2_with fail
   go_ret
   exact ⟨by first | rfl | (simp only [g3];rfl),bel1 _ _⟩
 ·by_cases h1:m=0
  ·have g1:=beq1 h1
   by_cases h3:p=0
   ·have g3:=nat0 h3
    rw [dc_t (by simp [*])]
    clear h1 h3
    go_enter Tryz.func71,Tryz.ntmps71
    go_wp2_with fail
    go_ret
    exact ⟨by first | rfl | (simp only [g3];rfl),bel1 _ _⟩
   ·have g3:=nat1 h3
    rw [dc_f (by simp [*])]
    clear h1 h3
    go_enter Tryz.func71,Tryz.ntmps71
    go_wp2_with fail
    go_ret
    exact ⟨by first | rfl | (simp only [g3];rfl),bel1 _ _⟩
  ·have g1:=bne h1
   rw [dc_f (by simp [*])]
   clear h1
   go_enter Tryz.func71,Tryz.ntmps71
   go_wp2_with fail
   go_ret
   exact ⟨by first | rfl | (simp only [g3];rfl),bel1 _ _⟩
 ·by_cases h1:m=0
  ·have g1:=beq1 h1
   rw [dc_t (by simp [*])]
   clear h1
   go_enter Tryz.func71,Tryz.ntmps71
   go_wp2_with fail
   go_ret
   exact ⟨by first | rfl | (simp only [g3];rfl),bel1 _ _⟩
  ·have g1:=bne h1
   rw [dc_f (by simp [*])]
   clear h1
   go_enter Tryz.func71,Tryz.ntmps71
   go_wp2_with fail
   go_ret
   exact ⟨by first | rfl | (simp only [g3];rfl),bel1 _ _⟩
 ·by_cases h2:x=⟨#[]⟩
  ·have g2:=str0 h2
   by_cases h3:p=0
   ·have g3:=nat0 h3
    rw [dc_t (by simp [*])]
    clear h2 h3
    go_enter Tryz.func71,Tryz.ntmps71
    go_wp2_with fail
    go_ret
    exact ⟨by first | rfl | (simp only [g3];rfl),bel1 _ _⟩
   ·have g3:=nat1 h3
    rw [dc_f (by simp [*])]
    clear h2 h3
    go_enter Tryz.func71,Tryz.ntmps71
    go_wp2_with fail
    go_ret
    exact ⟨by first | rfl | (simp only [g3];rfl),bel1 _ _⟩
  ·have g2:=str1 h2
   rw [dc_f (by simp [*])]
   clear h2
   go_enter Tryz.func71,Tryz.ntmps71
   go_wp2_with fail
   go_ret
   exact ⟨by first | rfl | (simp only [g3];rfl),bel1 _ _⟩
 ·by_cases h2:x=⟨#[]⟩
  ·have g2:=str0 h2
   rw [dc_t (by simp [*])]
   clear h2
   go_enter Tryz.func71,Tryz.ntmps71
   go_wp2_with fail
   go_ret
   exact ⟨by first | rfl | (simp only [g3];rfl),bel1 _ _⟩
  ·have g2:=str1 h2
   rw [dc_f (by simp [*])]
   clear h2
   go_enter Tryz.func71,Tryz.ntmps71
   go_wp2_with fail
   go_ret
   exact ⟨by first | rfl | (simp only [g3];rfl),bel1 _ _⟩
 ·by_cases h3:p=0
  ·have g3:=nat0 h3
   rw [dc_t (by simp [*])]
   clear h3
   go_enter Tryz.func71,Tryz.ntmps71
   go_wp2_with fail
   go_ret
   exact ⟨by first | rfl | (simp only [g3];rfl),bel1 _ _⟩
  ·have g3:=nat1 h3
   rw [dc_f (by simp [*])]
   clear h3
   go_enter Tryz.func71,Tryz.ntmps71
   go_wp2_with fail
   go_ret
   exact ⟨by first | rfl | (simp only [g3];rfl),bel1 _ _⟩
 ·rw [dc_t (by simp [*])]
  skip
  go_enter Tryz.func71,Tryz.ntmps71
  go_wp2_with fail
  go_ret
  exact ⟨by first | rfl | (simp only [g3];rfl),bel1 _ _⟩
def NmS (nm:ByteArray→Prop):Prop:=∀ x w,Calls Tryz.prog 76 #[.string x] w fun e w'=>e = .returned (.bool (dc (nm x)))∧Below w.heap.size w w'
theorem sp_named {nm : ByteArray → Prop} (HN : NmS nm) {a : Fv} {vn vk : Value} {p : Nat} {A : Nat → ByteArray} (w : World) (hr : RowV w vn p (fun i => .string (A i))) (hvk : ∃ pk q ck, vk = .slice pk q ck) (x y : Int) (hp : p ≤ 1048576) (hx : 0 ≤ x) (hy : y ≤ 1000) :
  Calls Tryz.prog 72 #[fmv a vn vk,.int .i64 x,.int .i64 y] w fun e w'=>e = .returned (.bool (dc (x≤(p:Int)∧(p:Int)≤y∧∀ j,j < p→nm (A j))))∧Below w.heap.size w w':=by
 obtain ⟨pk,q,ck,rfl⟩:=hvk
 obtain ⟨pa,ca,rfl,ha2⟩:=hr
 unfold fmv
 obtain ⟨k,f,t,l,o,m,tx⟩:=a
 dsimp only
 have hpI:(p:Int)≤1048576:=by omega
 rcases Int.lt_or_le (p:Int) x with h1 | h1
 ·rw [dc_f (fun g=>by omega)]
  clear ha2
  go_enter Tryz.func72,Tryz.ntmps72
  go_wp2_with fail
  go_ret
  exact ⟨rfl,bel1 _ _⟩
 ·have h1':¬ (p:Int) < x:=by omega
  rcases Int.lt_or_le y (p:Int) with h2 | h2
  ·rw [dc_f (fun g=>by omega)]
   clear ha2
   go_enter Tryz.func72,Tryz.ntmps72
   go_wp2_with fail
   go_ret
   exact ⟨rfl,bel1 _ _⟩
  ·have h2':¬ y < (p:Int):=by omega
   have HD:Hid (dc (x≤(p:Int)∧(p:Int)≤y∧∀ j,j < p→nm (A j))=dc (∀ j,j < p→nm (A j))):=dc_iff ⟨fun g=>g.2.2,fun g=>⟨h1,h2,g⟩⟩
   rw [show dc (x≤(p:Int)∧(p:Int)≤y∧∀ j,j < p→nm (A j))=dc (∀ j,j < p→nm (A j)) from HD]
   have HA:Hid ((0 < p→∃ a:Addr,pa=some a∧p≤ca∧∀ i,i < p→w.cell? (a.add i)=some (.string (A i)))∧NmS nm):=(⟨ha2,HN⟩:_∧_)
   obtain ⟨R,hR⟩:∃ R,R=dc (∀ j,j < p→nm (A j)):=⟨_,rfl⟩
   have HR:Hid (R=dc (∀ j,j < p→nm (A j))):=hR
   rw [← hR]
   clear hR HD ha2 HN
   go_enter Tryz.func72,Tryz.ntmps72
   go_wp2_with fail
   go_loopw [24] (fun s24 wr=>∃ i:Nat,s24 = .int .i64 (i:Int)∧i≤p∧Hid (Below w.heap.size w wr∧∀ j,j < i→nm (A j))) (fun s24 _=>p - (intOf s24).toNat)
   case atStart=>exact ⟨0,rfl,Nat.zero_le _,(⟨bel1 _ _,fun j hj=>by omega⟩:_∧_)⟩
   case round =>
    obtain ⟨i,rfl,hin,HI⟩:=hrel
    have hI:=(show Below w.heap.size w wr∧∀ j,j < i→nm (A j) from HI)
    have hA:=(show (0 < p→∃ a:Addr,pa=some a∧p≤ca∧∀ i,i < p→w.cell? (a.add i)=some (.string (A i)))∧NmS nm from HA)
    rcases Nat.lt_or_ge i p with hi | hi
    ·have hiI:(i:Int) < (p:Int):=by omega
     obtain ⟨b,rfl,hca,hra⟩:=hA.1 (by omega)
     have q0:=hra i hi
     have qa:wr.cell? (b.add i)=some (.string (A i)):=(hI.1.cell (lt_of_cell' q0)).trans q0
     have hcl:=hA.2 (A i)
     by_cases hg:nm (A i)
     ·rw [dc_t hg] at hcl
      have HX:Hid (∀ j,j < i+1→nm (A j)):=(fun j hj=>by
       by_cases e:j=i
       ·rw [e];exact hg
       ·exact hI.2 j (by omega):∀ j,_)
      have HB:Hid (Below w.heap.size w wr):=hI.1
      have HCL:Hid (∀ w,Calls Tryz.prog 76 #[.string (A i)] w fun e w'=>e = .returned (.bool true)∧Below w.heap.size w w'):=hcl
      clear hI HI hA HA hra q0 hin hg hcl
      generalize A i=X at *
      go_wp2_with fail
      refine ((show ∀ w,_ from HCL) _).mono ?_
      rintro e w6 ⟨rfl,hb6⟩
      have HB6:Hid (Below w.heap.size w w6∧∀ j,j < i+1→nm (A j)):=(⟨(show Below w.heap.size w wr from HB).trans (hb6.mono (show Below w.heap.size w wr from HB).size),HX⟩:_∧_)
      clear HCL hb6 HX HB qa
      go_wp2_with fail
      go_roundw
      case rel=>exact ⟨i+1,by go_num,by omega,HB6⟩
      case measure=>simp [intOf];omega
     ·rw [dc_f hg] at hcl
      have HX:Hid (R=false):=(show R=dc (∀ j,j < p→nm (A j)) from HR).trans (dc_f (fun g=>hg (g i hi)))
      have HB:Hid (Below w.heap.size w wr):=hI.1
      have HCL:Hid (∀ w,Calls Tryz.prog 76 #[.string (A i)] w fun e w'=>e = .returned (.bool false)∧Below w.heap.size w w'):=hcl
      clear hI HI hA HA hra q0 hin hg hcl
      generalize A i=X at *
      go_wp2_with fail
      refine ((show ∀ w,_ from HCL) _).mono ?_
      rintro e w6 ⟨rfl,hb6⟩
      have HB6:Hid (Below w.heap.size w w6):=(show Below w.heap.size w wr from HB).trans (hb6.mono (show Below w.heap.size w wr from HB).size)
      clear HCL hb6 HB qa
      go_wp2_with fail
      go_ret
      exact ⟨by rw [show R=false from HX];rfl,HB6⟩
    ·obtain rfl:i=p:=by omega
     have HX:Hid (R=true∧Below w.heap.size w wr):=(⟨(show R=dc (∀ j,j < i→nm (A j)) from HR).trans (dc_t hI.2),hI.1⟩:_∧_)
     clear hI HI hA HA
     go_wp2_with fail
     go_ret
     exact ⟨by rw [show R=true from HX.1];rfl,HX.2⟩
def kdk (F:Nat→Gv) (K:Nat→Int) (j:Nat):Int:=(F (K j).toNat).a.k
theorem sp_kid {a : Fv} {vn vk v : Value} {q n : Nat} {K : Nat → Int} {F : Nat → Gv} (w : World) (hf : RowF w v n F) (hr : RowV w vk q (fun i => .int .i64 (K i))) (hvn : ∃ pn p cn, vn = .slice pn p cn) (x : Int) (i : Nat) (hx : x = (i : Int)) (hi : i < q) (hq : q ≤ 1048576) (hn : n ≤ 1048576) (h0 : 0 ≤ K i) (h1 : K i < (n : Int)) :
  Calls Tryz.prog 70 #[.agg #[v],fmv a vn vk,.int .i64 x] w fun e w'=>e = .returned (.int .i64 (kdk F K i))∧Below w.heap.size w w':=by
 subst hx
 obtain ⟨pn,p,cn,rfl⟩:=hvn
 obtain ⟨pk,ck,rfl,hk2⟩:=hr
 obtain ⟨pf,cf,rfl,hf2⟩:=hf
 obtain ⟨b,rfl,hcb,hrb⟩:=hk2 (by omega)
 obtain ⟨c,rfl,hcc,hrc⟩:=hf2 (by omega)
 have q0:=hrb i hi
 obtain ⟨un,uk,hc,_,_⟩:=hrc (K i).toNat (by omega)
 have e0:=hc.c0
 have HE:Hid (kdk F K i=(F (K i).toNat).a.k):=rfl
 rw [show kdk F K i=(F (K i).toNat).a.k from HE]
 have hB:∀ a b:Obj,Below w.heap.size w ((w.alloc a).alloc b):=fun a b=>bel2 _ _ _
 have q0':∀ x y:Obj,((w.alloc x).alloc y).cell? (b.add i)=some (.int .i64 (K i)):=fun x y=>((hB x y).cell (lt_of_cell' q0)).trans q0
 have e0':∀ x y:Obj,((w.alloc x).alloc y).cell? (c.add ((K i).toNat*9))=some (.int .i64 (F (K i).toNat).a.k):=fun x y=>((hB x y).cell (lt_of_cell' e0)).trans e0
 clear hc hrc hrb hk2 hf2 q0 e0 HE hB
 have hiI:(i:Int) < (q:Int):=by omega
 have hqI:(q:Int)≤1048576:=by omega
 have hnI:(n:Int)≤1048576:=by omega
 generalize (F (K i).toNat).a.k=z at *
 generalize K i=y at *
 unfold fmv
 obtain ⟨k,f,t,l,o,m,tx⟩:=a
 dsimp only
 go_enter Tryz.func70,Tryz.ntmps70
 go_wp2_with fail
 go_quiet (skip)
 go_wp2_with fail
 go_ret
 exact ⟨rfl,bdn (bel2 _ _ _) _⟩
theorem sp_exprs {a : Fv} {vn vk v : Value} {q n : Nat} {K : Nat → Int} {F : Nat → Gv} (w : World) (hf : RowF w v n F) (hr : RowV w vk q (fun i => .int .i64 (K i))) (hvn : ∃ pn p cn, vn = .slice pn p cn) (x y : Int) (i0 k0 : Nat) (hx : x = (i0 : Int)) (hy : y = (k0 : Int)) (hk : k0 ≤ q) (hi0 : i0 ≤ 1048576) (hq : q ≤ 1048576) (hn : n ≤ 1048576) (hK : ∀ j, j < q → 0 ≤ K j ∧ K j < (n : Int)) :
  Calls Tryz.prog 73 #[.agg #[v],fmv a vn vk,.int .i64 x,.int .i64 y] w fun e w'=>e = .returned (.bool (dc (∀ j,i0≤j→j < k0→20≤kdk F K j∧kdk F K j≤37)))∧Below w.heap.size w w':=by
 subst hx
 subst hy
 obtain ⟨pn,p,cn,rfl⟩:=hvn
 obtain ⟨pk,ck,rfl,hk2⟩:=hr
 obtain ⟨pf,cf,rfl,hf2⟩:=hf
 have HC:Hid (∀ j,j < q→0≤K j∧K j < (n:Int)∧∃ b c:Addr,pk=some b∧pf=some c∧q≤ck∧n≤cf∧(∀ (x y:Obj) (d:Nat),(((w.alloc x).alloc y).drewN d).cell? (b.add j)=some (.int .i64 (K j)))∧∀ (x y:Obj) (d:Nat),(((w.alloc x).alloc y).drewN d).cell? (c.add ((K j).toNat*9))=some (.int .i64 (kdk F K j))):=(fun j hj=>by
  obtain ⟨h0,h1⟩:=hK j hj
  obtain ⟨b,rfl,hcb,hrb⟩:=hk2 (by omega)
  obtain ⟨c,rfl,hcc,hrc⟩:=hf2 (by omega)
  have q0:=hrb j hj
  obtain ⟨un,uk,hc,_,_⟩:=hrc (K j).toNat (by omega)
  have e0:=hc.c0
  exact ⟨h0,h1,b,c,rfl,rfl,hcb,hcc,fun x y d=>((bdn (bel2 w x y) d).cell (lt_of_cell' q0)).trans q0,fun x y d=>((bdn (bel2 w x y) d).cell (lt_of_cell' e0)).trans e0⟩:∀ j,_)
 obtain ⟨R,hR⟩:∃ R,R=dc (∀ j,i0≤j→j < k0→20≤kdk F K j∧kdk F K j≤37):=⟨_,rfl⟩
 have HR:Hid (R=dc (∀ j,i0≤j→j < k0→20≤kdk F K j∧kdk F K j≤37)):=hR
 rw [← hR]
 have hqI:(q:Int)≤1048576:=by omega
 have hnI:(n:Int)≤1048576:=by omega
 have hkI:(k0:Int)≤(q:Int):=by omega
 have hi0I:(i0:Int)≤1048576:=by omega
 clear hR hK hk2 hf2
 unfold fmv
 obtain ⟨k,f,t,l,o,m,tx⟩:=a
 dsimp only
 go_enter Tryz.func73,Tryz.ntmps73
 go_wp2_with fail
 obtain ⟨W2,hW2⟩:∃ W2,W2=(w.alloc (.cells #[.slice pf n cf] 31)).alloc (.cells #[.int .i64 k,.int .i64 f,.int .i64 t,.int .i64 l,.int .i64 o,.int .i64 m,.string tx,.slice pn p cn,.slice pk q ck] 50):=⟨_,rfl⟩
 rw [← hW2]
 have c0:W2.cell? ⟨w.heap.size,0,none⟩=some (.slice pf n cf):=by
  rw [hW2]
  rw [World.cell?_alloc_past _ _ _ (by simp),World.cell?_alloc_at _ _ _ _ rfl];rfl
 have c8:W2.cell? ⟨w.heap.size+1,8,none⟩=some (.slice pk q ck):=by
  rw [hW2]
  rw [World.cell?_alloc_at _ _ _ _ (by simp)];rfl
 have HB:Hid (∀ d,Below w.heap.size w (W2.drewN d)):=(fun d=>by rw [hW2];exact bdn (bel2 _ _ _) _:∀ d,_)
 have HC2:Hid (∀ j,j < q→0≤K j∧K j < (n:Int)∧∃ b c:Addr,pk=some b∧pf=some c∧q≤ck∧n≤cf∧W2.cell? (b.add j)=some (.int .i64 (K j))∧W2.cell? (c.add ((K j).toNat*9))=some (.int .i64 (kdk F K j))):=(fun j hj=>by
  obtain ⟨h0,h1,b,c,e1,e2,h2,h3,h4,h5⟩:=(show ∀ j,j < q→_ from HC) j hj
  exact ⟨h0,h1,b,c,e1,e2,h2,h3,by rw [hW2];exact h4 _ _ 0,by rw [hW2];exact h5 _ _ 0⟩:∀ j,_)
 clear hW2 HC
 go_loopw [9] (fun s9 wr=>∃ i:Nat,s9 = .int .i64 (i:Int)∧i≤max i0 k0∧Hid (wr.heap=W2.heap∧Below w.heap.size w wr)∧Hid (i0≤i∧∀ j,i0≤j→j < i→20≤kdk F K j∧kdk F K j≤37)) (fun s9 _=>k0 - (intOf s9).toNat)
 case atStart=>exact ⟨i0,rfl,by omega,(⟨rfl,(show ∀ d,Below w.heap.size w (W2.drewN d) from HB) 0⟩:_∧_),(⟨Nat.le_refl _,fun j h1 h2=>by omega⟩:_∧_)⟩
 case round =>
  obtain ⟨i,rfl,hin,HW,HI⟩:=hrel
  have hW:=(show wr.heap=W2.heap∧Below w.heap.size w wr from HW)
  have hcw:∀ p:Addr,wr.cell? p=W2.cell? p:=fun p=>World.cell?_of_block (by rw [hW.1])
  have hI:=(show i0≤i∧∀ j,i0≤j→j < i→20≤kdk F K j∧kdk F K j≤37 from HI)
  rcases Nat.lt_or_ge i k0 with hi | hi
  ·have hiI:(i:Int) < (k0:Int):=by omega
   have hiq:(i:Int) < (q:Int):=by omega
   obtain ⟨h0,h1,b,c,rfl,rfl,h2,h3,h4,h5⟩:=(show ∀ j,j < q→_ from HC2) i (by omega)
   rw [← hcw] at h4 h5 c0 c8
   have HW2:Hid (∀ d,(wr.drewN d).heap=W2.heap∧Below w.heap.size w (wr.drewN d)):=(fun d=>⟨hW.1,bdn hW.2 d⟩:∀ d,_)
   clear hcw hW
   by_cases hg : 20≤kdk F K i∧kdk F K i≤37
   ·have he:∀ w,Calls Tryz.prog 91 #[.int .i64 (kdk F K i)] w fun e w'=>e = .returned (.bool true)∧w'=w:=fun w=>by have:=sp_expr (kdk F K i) w;rw [dc_t hg] at this;exact this
    have HX:Hid (i0≤i+1∧∀ j,i0≤j→j < i+1→20≤kdk F K j∧kdk F K j≤37):=(⟨by omega,fun j h1 h2=>by
     by_cases e:j=i
     ·rw [e];exact hg
     ·exact hI.2 j h1 (by omega)⟩:_∧_)
    clear hI HI HC2 hg
    generalize kdk F K i=z at *
    generalize K i=y at *
    go_wp2_with fail
    go_quiet ((go_at_call 91;exact Calls.quiet_of_same (he _)))
    go_wp2_with fail
    go_roundw
    case rel=>exact ⟨i+1,by go_num,by omega,(show ∀ d,(wr.drewN d).heap=W2.heap∧Below w.heap.size w (wr.drewN d) from HW2) _,HX⟩
    case measure=>simp [intOf];omega
   ·have he:∀ w,Calls Tryz.prog 91 #[.int .i64 (kdk F K i)] w fun e w'=>e = .returned (.bool false)∧w'=w:=fun w=>by have:=sp_expr (kdk F K i) w;rw [dc_f hg] at this;exact this
    have HX:Hid (R=false):=(show R=dc (∀ j,i0≤j→j < k0→20≤kdk F K j∧kdk F K j≤37) from HR).trans (dc_f (fun g=>hg (g i hI.1 hi)))
    clear hI HI HC2 hg
    generalize kdk F K i=z at *
    generalize K i=y at *
    go_wp2_with fail
    go_quiet ((go_at_call 91;exact Calls.quiet_of_same (he _)))
    go_wp2_with fail
    go_ret
    exact ⟨by rw [show R=false from HX];rfl,((show ∀ d,(wr.drewN d).heap=W2.heap∧Below w.heap.size w (wr.drewN d) from HW2) _).2⟩
  ·have hiI:¬ (i:Int) < (k0:Int):=by omega
   have HX:Hid (R=true):=(show R=dc (∀ j,i0≤j→j < k0→20≤kdk F K j∧kdk F K j≤37) from HR).trans (dc_t (fun j h1 h2=>hI.2 j h1 (by omega)))
   clear hI HI HC2 hcw hW
   go_wp2_with fail
   go_ret
   exact ⟨by rw [show R=true from HX];rfl,HW.2⟩
theorem below_to {a W W':World} (h:Below a.heap.size a W) (k:Below W.heap.size W W'):Below a.heap.size a W':=h.trans (k.mono h.size)
def Nt (p:Prop):Prop:=¬ p
structure Bx (W:World) (b:Nat) (a:Fv) (vn vk:Value):Prop where
 c0:W.cell? ⟨b,0,none⟩=some (.int .i64 a.k)
 c1:W.cell? ⟨b,1,none⟩=some (.int .i64 a.f)
 c2:W.cell? ⟨b,2,none⟩=some (.int .i64 a.t)
 c3:W.cell? ⟨b,3,none⟩=some (.int .i64 a.l)
 c4:W.cell? ⟨b,4,none⟩=some (.int .i64 a.o)
 c5:W.cell? ⟨b,5,none⟩=some (.int .i64 a.m)
 c6:W.cell? ⟨b,6,none⟩=some (.string a.x)
 c7:W.cell? ⟨b,7,none⟩=some vn
 c8:W.cell? ⟨b,8,none⟩=some vk
theorem Bx.below {W W':World} {b:Nat} {a:Fv} {vn vk:Value} (h:Bx W b a vn vk) (hb:Below W.heap.size W W'):Bx W' b a vn vk:=by
 have hl:=lt_of_cell h.c0
 have e:∀ j,W'.cell? ⟨b,j,none⟩=W.cell? ⟨b,j,none⟩:=fun j=>hb.cell (p:=⟨b,j,none⟩) hl
 exact ⟨(e _).trans h.c0,(e _).trans h.c1,(e _).trans h.c2,(e _).trans h.c3,(e _).trans h.c4,(e _).trans h.c5,(e _).trans h.c6,(e _).trans h.c7,(e _).trans h.c8⟩
theorem Bx.new (W:World) (a:Fv) (vn vk:Value) (t:TypeId):Bx (W.alloc (.cells #[.int .i64 a.k,.int .i64 a.f,.int .i64 a.t,.int .i64 a.l,.int .i64 a.o,.int .i64 a.m,.string a.x,vn,vk] t)) W.heap.size a vn vk:=by
 have e:∀ j,(W.alloc (.cells #[.int .i64 a.k,.int .i64 a.f,.int .i64 a.t,.int .i64 a.l,.int .i64 a.o,.int .i64 a.m,.string a.x,vn,vk] t)).cell? ⟨W.heap.size,j,none⟩=(#[.int .i64 a.k,.int .i64 a.f,.int .i64 a.t,.int .i64 a.l,.int .i64 a.o,.int .i64 a.m,.string a.x,vn,vk]:Array Value)[j]?:=fun j=>World.cell?_alloc_at _ _ _ _ rfl
 exact ⟨e 0,e 1,e 2,e 3,e 4,e 5,e 6,e 7,e 8⟩
def br (a:Fv) (p:Nat) (op num text names:Bool):Prop:=(op=true∨a.o=0)∧(num=true∨a.m=0)∧(text=true∨a.x=⟨#[]⟩)∧(names=true∨p=0)
def nd (nm:ByteArray→Prop) (p:Nat) (A:Nat→ByteArray) (x y:Int):Prop:=x≤(p:Int)∧(p:Int)≤y∧∀ j,j < p→nm (A j)
def ex (F:Nat→Gv) (K:Nat→Int) (i k:Nat):Prop:=∀ j,i≤j→j < k→20≤kdk F K j∧kdk F K j≤37
structure Sy (nm:ByteArray→Prop) (W2:World) (b:Nat) (v:Value) (n:Nat) (F:Nat→Gv) (a:Fv) (vn vk:Value) (p:Nat) (A:Nat→ByteArray) (q:Nat) (K:Nat→Int):Prop where
 hn:NmS nm
 ct:W2.cell? ⟨b,0,none⟩=some v
 bx:Bx W2 (b+1) a vn vk
 rf:RowF W2 v n F
 rn:RowV W2 vn p (fun i=>.string (A i))
 rk:RowV W2 vk q (fun i=>.int .i64 (K i))
 hp:p≤1048576
 hq:q≤1048576
 hnn:n≤1048576
 hk:∀ j,j < q→0≤K j∧K j < (n:Int)
section
variable {nm:ByteArray→Prop} {W2:World} {b:Nat} {v:Value} {n:Nat} {F:Nat→Gv} {a:Fv} {vn vk:Value} {p:Nat} {A:Nat→ByteArray} {q:Nat} {K:Nat→Int}
theorem Sy.bare (s:Sy nm W2 b v n F a vn vk p A q K) (op num text names:Bool) (W:World) (hb:Below W2.heap.size W2 W):Calls Tryz.prog 71 #[fmv a vn vk,.bool op,.bool num,.bool text,.bool names] W fun e w'=>e = .returned (.bool (dc (br a p op num text names)))∧Below W2.heap.size W2 w':=by
 obtain ⟨pn,cn,rfl,_⟩:=s.rn
 obtain ⟨pk,ck,rfl,_⟩:=s.rk
 have hp:=s.hp
 exact (sp_bare a pn p cn _ ⟨pk,q,ck,rfl⟩ op num text names W (by omega)).mono fun e w' h=>⟨h.1,below_to hb h.2⟩
theorem Sy.named (s:Sy nm W2 b v n F a vn vk p A q K) (x y:Int) (hx : 0≤x) (hy:y≤1000) (W:World) (hb:Below W2.heap.size W2 W):Calls Tryz.prog 72 #[fmv a vn vk,.int .i64 x,.int .i64 y] W fun e w'=>e = .returned (.bool (dc (nd nm p A x y)))∧Below W2.heap.size W2 w':=by
 obtain ⟨pk,ck,hv,_⟩:=s.rk
 exact (sp_named s.hn W (s.rn.below hb) ⟨pk,q,ck,hv⟩ x y s.hp hx hy).mono fun e w' h=>⟨h.1,below_to hb h.2⟩
theorem Sy.kid (s:Sy nm W2 b v n F a vn vk p A q K) (x:Int) (i:Nat) (hx:x=(i:Int)) (hi:i < q) (W:World) (hb:Below W2.heap.size W2 W):Calls Tryz.prog 70 #[.agg #[v],fmv a vn vk,.int .i64 x] W fun e w'=>e = .returned (.int .i64 (kdk F K i))∧Below W2.heap.size W2 w':=by
 obtain ⟨pn,cn,hv,_⟩:=s.rn
 exact (sp_kid W (s.rf.below hb) (s.rk.below hb) ⟨pn,p,cn,hv⟩ x i hx hi s.hq s.hnn (s.hk i hi).1 (s.hk i hi).2).mono fun e w' h=>⟨h.1,below_to hb h.2⟩
theorem Sy.exprs (s:Sy nm W2 b v n F a vn vk p A q K) (x y:Int) (i k:Nat) (hx:x=(i:Int)) (hy:y=(k:Int)) (hk:k≤q) (hi:i≤1048576) (W:World) (hb:Below W2.heap.size W2 W):Calls Tryz.prog 73 #[.agg #[v],fmv a vn vk,.int .i64 x,.int .i64 y] W fun e w'=>e = .returned (.bool (dc (ex F K i k)))∧Below W2.heap.size W2 w':=by
 obtain ⟨pn,cn,hv,_⟩:=s.rn
 exact (sp_exprs W (s.rf.below hb) (s.rk.below hb) ⟨pn,p,cn,hv⟩ x y i k hx hy hk hi s.hq s.hnn s.hk).mono fun e w' h=>⟨h.1,below_to hb h.2⟩
end
end Go.Proofs.YtklaniaolddamaaGreatDoor.Fo
