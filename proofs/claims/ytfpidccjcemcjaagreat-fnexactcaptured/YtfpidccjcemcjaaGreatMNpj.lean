import Derived.Test.YtfpidccjcemcjaaGreatMZsq
import Derived.Test.YtfpidccjcemcjaaGreatMNpi
import Derived.Test.YtfpidccjcemcjaaGreatMNhb
import Derived.Maps.AppendAt
import Derived.Sort.CutIn
set_option maxRecDepth 100000
set_option maxHeartbeats 16000000
namespace Go.Proofs.YtfpidccjcemcjaaGreat.Fo
open Go.ChangeShapes Go.WideShapes Go.ChangeAt Go.RowKit Go.Shelf
set_option linter.unusedVariables false
set_option maxRecDepth 100000
attribute [local go_sem] Oper.semAt_some
def Spots (Q:Nat→Prop) (G:Nat) (d:Fd) (W:World):Prop:=∀ k,k < d.n→∃ (a:Option Addr) (b:Bool) (l:List Vs),W.cell? ⟨G,k*2,none⟩=some (.pointer a)∧W.cell? ⟨G,k*2+1,none⟩=some (.bool b)∧Scx Q W (.pointer a) l∧(∀ x,inS x l↔SS d.N d.n d.m x k)∧b=dc (LL d.N d.n k)
theorem Spots.keep {Q:Nat→Prop} {G:Nat} {d:Fd} {W W':World} (h:Spots Q G d W) (k:Kb 0 W W'):Spots Q G d W':=fun j hj=>by
 obtain ⟨a,b,l,e1,e2,e3,e4⟩:=h j hj
 exact ⟨a,b,l,k.cell e1,k.cell e2,e3.keep (.of_blk (fun i hi _=>k.block i zq hi)),e4⟩
def ups (i:Nat):List Value:=(List.range i).map (fun j:Nat=>Value.int .i64 (j:Int))
theorem ups_succ (i:Nat):ups (i+1)=ups i ++ [.int .i64 (i:Int)]:=by simp [ups,List.range_succ]
structure Pm (w W5:World) (i:Nat) (v:Value) (W:World):Prop where
 os:W.os=W5.os
 output:W.output=W5.output
 keep:∀ k,k < w.heap.size+4→W.heap[k]? = W5.heap[k]?
 pb:W.heap[w.heap.size+1+1+1+1]? = some (.cells #[.pointer none,v] 145 (0,0))
 row:W.ownsRow (w.heap.size+5) 3 1 v i (ups i)
 size:w.heap.size+5≤W.heap.size
theorem Pm.shape {w W5:World} {i:Nat} {v:Value} {W:World} (h:Pm w W5 i v W):∃ (ad:Option Addr) (cap:Nat),v = .slice ad i cap:=by
 rcases h.row.2 with ⟨rfl,e⟩ | ⟨g,cap,cur,rfl,_⟩
 ·exact ⟨none,0,by rw [show i=0 from e]⟩
 ·exact ⟨_,cap,rfl⟩
theorem Pm.step {w W5 : World} {i : Nat} {v v' : Value} {W w7 : World} {E : Obj} (h : Pm w W5 i v W) (ho : w7.ownsRow (w.heap.size + 5) 3 1 v' (i + 1) (ups i ++ [.int .i64 (i : Int)])) (hg : (W.alloc E).grownBy w7 v.ownBlock) :
  w7.cell? ⟨w.heap.size+1+1+1+1,1,none⟩=some v∧w7.frozen? ⟨w.heap.size+1+1+1+1,1,none⟩=false∧Pm w W5 (i+1) v' (w7.setCell ⟨w.heap.size+1+1+1+1,1,none⟩ v'):=by
 have hs:=h.size
 have hblk:∀ k,k < w.heap.size+5→w7.heap[k]? = W.heap[k]?:=fun k hk=>(hg.block k (by simp;omega) (fun e=>by have:=(h.row.lt k e.symm).1;omega)).trans (Below.heap_alloc _ _ _ (by omega))
 have hb:=(hblk (w.heap.size+1+1+1+1) (by omega)).trans h.pb
 have hse:∀ k,k ≠ w.heap.size+1+1+1+1→(w7.setCell ⟨w.heap.size+1+1+1+1,1,none⟩ v').heap[k]? = w7.heap[k]?:=fun k hne=>Below.heap_setCell w7 _ _ _ hne
 have hgs:=hg.size
 rw [World.size_alloc] at hgs
 refine ⟨cell_of hb rfl,frozen_of hb,⟨hg.os.trans h.os,hg.output.trans h.output,fun k hk=>(hse k (by omega)).trans ((hblk k (by omega)).trans (h.keep k hk)),?_,?_,by rw [World.size_setCell];omega⟩⟩
 ·exact set_known v' hb
 ·rw [ups_succ]
  exact rowBlk ho (fun g e=>hse g (by have:=(ho.lt g e).1;omega))
theorem five_new (w : World) (a b c d e : Array Value) (t0 t1 t2 t3 t4 : TypeId) (W : World) (h : W = ((((w.alloc (.cells a t0)).alloc (.cells b t1)).alloc (.cells c t2)).alloc (.cells d t3)).alloc (.cells e t4)) :
  W.heap.size=w.heap.size+5∧W.heap[w.heap.size]? = some (.cells a t0 (0,0))∧W.heap[w.heap.size+1]? = some (.cells b t1 (0,0))∧W.heap[w.heap.size+1+1]? = some (.cells c t2 (0,0))∧W.heap[w.heap.size+1+1+1]? = some (.cells d t3 (0,0))∧W.heap[w.heap.size+1+1+1+1]? = some (.cells e t4 (0,0))∧Kb 0 w W:=by
 obtain ⟨V,hV⟩:∃ V,V=(((w.alloc (.cells a t0)).alloc (.cells b t1)).alloc (.cells c t2)).alloc (.cells d t3):=⟨_,rfl⟩
 rw [← hV] at h
 have hz:V.heap.size=w.heap.size+1+1+1+1:=by rw [hV];simp
 obtain ⟨q0,q1,q2,q3,q4⟩:=four_new w _ _ _ _ _ _ _ _ V hV
 have kv:=kb_alloc 0 V (.cells e t4)
 rw [← h] at kv
 refine ⟨by rw [h,World.size_alloc,hz],(kv.block _ zq (by omega)).trans q0,(kv.block _ zq (by omega)).trans q1,(kv.block _ zq (by omega)).trans q2,(kv.block _ zq (by omega)).trans q3,?_,?_⟩
 ·rw [h,← hz];exact alloc_new _ _ _
 ·rw [h,hV];exact (((((Kb.refl 0 w).alloc _).alloc _).alloc _).alloc _).alloc _
theorem made2 {W:World} {G n:Nat} {t:TypeId} (h:W.heap[G]? = some (.cells (madeCells #[.pointer none,.bool false] (n*Tryz.t124.size)) t (0,0))):(∀ k,k < n→W.cell? ⟨G,k*2,none⟩=some (.pointer none)∧W.cell? ⟨G,k*2+1,none⟩=some (.bool false))∧∀ j,W.frozen? ⟨G,j,none⟩=false:=by
 refine ⟨fun k hk=>?_,fun j=>frozen_of h⟩
 have e:Tryz.t124.size=2:=rfl
 rw [e] at h
 have e2:(madeCells (#[.pointer none,.bool false]:Array Value) (n*2)).size=n*2:=by simp [madeCells]
 constructor
 ·exact cell_of h (by simp [madeCells,show k*2 < n*2 by omega])
 ·exact cell_of h (by simp [madeCells,show k*2+1 < n*2 by omega])
theorem Pm.rowG {w W5:World} {i:Nat} {v:Value} {W:World} (h:Pm w W5 i v W) {G Bs:Nat} (hG:G < w.heap.size+5) (hB:W.heap.size≤Bs) {Q:Nat→Prop} (hQ:∀ k,Q k→k < w.heap.size):RowG (Bd2 Q G Bs) W v i (fun j=>(j:Int)):=by
 rcases h.row.2 with ⟨rfl,e⟩ | ⟨g,cap,cur,rfl,hg,hcur,hc1,_,hsz,hx⟩
 ·exact ⟨none,0,by rw [e],fun h=>by omega⟩
 ·refine ⟨_,cap,rfl,fun _=>⟨_,rfl,hc1,?_,fun j hj=>?_⟩⟩
  ·have:=lt_of_obj hcur
   rintro (e | e | e)
   ·dsimp only at e;omega
   ·dsimp only at e;omega
   ·have:=hQ _ e;dsimp only at this;omega
  ·rw [addr0]
   have:(ups i)[j]? = some (.int .i64 (j:Int)):=by simp [ups,hj]
   rw [← this,← hx,List.getElem?_take_of_lt (by omega)]
   simp [World.cell?,hcur]
variable {Q:Nat→Prop}
def Pp (N:Nat→Nd) (n:Nat) (pre:List {j:Nat // j < n}) (k:Nat):Prop:=k+1=n∨∃ t i,Kid N n t i k∧n≤t+pre.length
theorem sp_start {w W5 wr : World} {N : Nat → Nd} {n n1 mm : Nat} {m : Int} {AN : Addr} {ca : Nat} {v : Value} (T : Tree N n) (hm : m = (mm : Int)) (hmm : mm ≤ 1048576) (hn1 : n = n1 + 1) (hv : Pm w W5 mm v wr) (k5 : Kb 0 w W5) (e1 : wr.cell? ⟨w.heap.size + 1, 0, none⟩ = some (.slice (some AN) n ca)) (e3 : wr.cell? ⟨w.heap.size + 1 + 1 + 1, 0, none⟩ = some (.slice (some ⟨w.heap.size + 1 + 1, 0, none⟩) n n))
    (hg:∀ k,k < n→wr.cell? ⟨w.heap.size+1+1,k*2,none⟩=some (.pointer none)∧wr.cell? ⟨w.heap.size+1+1,k*2+1,none⟩=some (.bool false)) (gf:∀ j,wr.frozen? ⟨w.heap.size+1+1,j,none⟩=false) (hQ:∀ k,Q k→k < w.heap.size) (o:Obj) :
    Sp Q w N n m AN ca wr.heap.size (Pp N n []) ((wr.setCell ⟨w.heap.size+1+1,n1*2,none⟩ (.pointer (some ⟨w.heap.size+1+1+1+1,0,none⟩))).alloc o):=by
  obtain ⟨W6,hW6⟩:∃ W6,W6=wr.setCell ⟨w.heap.size+1+1,n1*2,none⟩ (.pointer (some ⟨w.heap.size+1+1+1+1,0,none⟩)):=⟨_,rfl⟩
  rw [← hW6]
  have hs:=hv.size
  have z6:W6.heap.size=wr.heap.size:=by rw [hW6];simp
  have ka:=kb_alloc 0 W6 o
  have hse:∀ k,k ≠ w.heap.size+1+1→k < wr.heap.size→(W6.alloc o).heap[k]? = wr.heap[k]?:=fun k hne hl=>by
    rw [ka.block k zq (by omega),hW6]
    exact Below.heap_setCell _ _ _ _ hne
  have hG:∀ j,(W6.alloc o).cell? ⟨w.heap.size+1+1,j,none⟩=W6.cell? ⟨w.heap.size+1+1,j,none⟩:=fun j=>World.cell?_of_block (ka.block _ zq (by show w.heap.size+1+1 < _;omega))
  have gl:=hg n1 (by omega)
  have c0:W6.cell? ⟨w.heap.size+1+1,n1*2,none⟩=some (.pointer (some ⟨w.heap.size+1+1+1+1,0,none⟩)):=by rw [hW6];exact set_eq _ _ _ _ _ gl.1
  have cf:∀ j,j ≠ n1*2→W6.cell? ⟨w.heap.size+1+1,j,none⟩=wr.cell? ⟨w.heap.size+1+1,j,none⟩:=fun j hj=>by rw [hW6];exact set_ne _ _ _ _ _ hj
  refine ⟨?_,?_,by omega,hQ,by rw [World.size_alloc];omega,fun k hk=>(hse k (by omega) (by omega)).trans ((hv.keep k (by omega)).trans (k5.block k zq hk)),?_,?_,fun j=>?_,fun k hk=>?_,fun k hk hp=>?_⟩
  · show W6.os=w.os
    rw [hW6];exact hv.os.trans k5.os
  · show W6.output=w.output
    rw [hW6];exact hv.output.trans k5.output
  · exact (World.cell?_of_block (hse _ (by show w.heap.size+1 ≠ _;omega) (by show w.heap.size+1 < _;omega))).trans e1
  · exact (World.cell?_of_block (hse _ (by show w.heap.size+1+1+1 ≠ _;omega) (by show w.heap.size+1+1+1 < _;omega))).trans e3
  · rw [ka.frozen zq (by omega),hW6,set_fz]
    exact gf j
  · by_cases e:k=n1
    · subst e;exact ⟨_,false,(hG _).trans c0,(hG _).trans ((cf _ (by omega)).trans gl.2)⟩
    · exact ⟨none,false,(hG _).trans ((cf _ (by omega)).trans (hg k hk).1),(hG _).trans ((cf _ (by omega)).trans (hg k hk).2)⟩
  · have hk1 : k = n1 := by
      rcases hp with h | ⟨t,i,h1,h2⟩
      · omega
      · have:=h1.1;simp at h2;omega
    subst hk1
    have pb:(W6.alloc o).heap[w.heap.size+1+1+1+1]? = some (.cells #[.pointer none,v] 145 (0,0)):=(hse _ (by omega) (by omega)).trans hv.pb
    have hrow:RowG (Bd2 Q (w.heap.size+1+1) wr.heap.size) (W6.alloc o) v mm (fun j=>(j:Int)):=(hv.rowG (by omega) (Nat.le_refl _) hQ).keep (.of_blk (fun k hk hb=>hse k (fun e=>hb (.inl e)) hk))
    refine ⟨_,false,[(mm,fun j=>(j:Int))],(hG _).trans c0,(hG _).trans ((cf _ (by omega)).trans gl.2),⟨_,.pointer none,v,rfl,?_,cell_of pb rfl,cell_of pb rfl,hrow,hmm,rfl⟩,fun x=>?_,(dc_f ?_).symm⟩
    · rintro (e | e | e)
      · omega
      · have:w.heap.size+1+1+1+1=wr.heap.size:=e
        omega
      · have:=hQ _ e
        omega
    · have e:k=n - 1:=by omega
      rw [e,ss_top T,hm]
      constructor
      · rintro ⟨v,hv,j,hj,rfl⟩
        have:v=(mm,fun j:Nat=>(j:Int)):=by simpa using hv
        subst this
        have hj':j < mm:=hj
        exact ⟨Int.natCast_nonneg _,by show (j:Int) < _;omega⟩
      · rintro ⟨h0,h1⟩
        refine ⟨_,List.mem_singleton.2 rfl,x.toNat,?_,?_⟩
        · show x.toNat < mm
          omega
        · show x=(x.toNat:Int)
          omega
    · have e:k=n - 1:=by omega
      rw [e];exact ll_top T
theorem Sp.begin {w : World} {N : Nat → Nd} {n : Nat} {m : Int} {AN : Addr} {ca Bs : Nat} {P : Nat → Prop} {X : World} (h : Sp Q w N n m AN ca Bs P X) {t : Nat} {a : Option Addr} {b : Bool} {l : List Vs} (h3 : Scx (Bd2 Q (w.heap.size + 1 + 1) Bs) X (.pointer a) l) (h4 : ∀ x, inS x l ↔ SS N n m x t) (ty : TypeId) :
  Rm Q N n m (w.heap.size+1+1) Bs X.heap.size X (fun x=>SS N n m x t) a b P (X.alloc (.cells #[.pointer a,.bool b] ty)):=by
 have ka:=kb_alloc 0 X (.cells #[.pointer a,.bool b] ty)
 have hs:=h.size
 have hB:=h.sB
 have nb:∀ k,k < X.heap.size→Bd3 Q (w.heap.size+1+1) Bs X.heap.size k→Bd2 Q (w.heap.size+1+1) Bs k:=by
  rintro k hk (e | e | e | e)
  ·exact .inl e
  ·exact .inr (.inl e)
  ·omega
  ·exact .inr (.inr e)
 have kc:Kc (Bd3 Q (w.heap.size+1+1) Bs X.heap.size) X (X.alloc (.cells #[.pointer a,.bool b] ty)):=.of_blk (fun k hk _=>ka.block k zq hk)
 have ce:∀ j,(X.alloc (.cells #[.pointer a,.bool b] ty)).cell? ⟨w.heap.size+1+1,j,none⟩=X.cell? ⟨w.heap.size+1+1,j,none⟩:=fun j=>World.cell?_of_block (ka.block _ zq (by show w.heap.size+1+1 < _;omega))
 refine ⟨rfl,rfl,rfl,by omega,by omega,by omega,fun k hk=>by have:=h.lQ k hk;omega,by rw [World.size_alloc];omega,fun k hk _=>ka.block k zq hk,cell_of (alloc_new _ _ _) rfl,cell_of (alloc_new _ _ _) rfl,fun j=>frozen_of (alloc_new _ _ _),fun j=>(ka.frozen zq (by omega)).trans (h.gf j),fun k hk=>?_,⟨l,(h3.bad nb).keep kc,h4⟩,fun k hk hp=>?_⟩
 ·obtain ⟨a2,b2,q1,q2⟩:=h.any k hk
  exact ⟨a2,b2,(ce _).trans q1,(ce _).trans q2⟩
 ·obtain ⟨a2,b2,l2,q1,q2,q3,q4⟩:=h.ok k hk hp
  exact ⟨a2,b2,l2,(ce _).trans q1,(ce _).trans q2,(q3.bad nb).keep kc,q4⟩
theorem Rm.done {w:World} {N:Nat→Nd} {n:Nat} {m:Int} {AN:Addr} {ca Bs:Nat} {P P2:Nat→Prop} {X W:World} {C:Int→Prop} {a:Option Addr} {b:Bool} (h:Sp Q w N n m AN ca Bs P X) (r:Rm Q N n m (w.heap.size+1+1) Bs X.heap.size X C a b P2 W) {P3:Nat→Prop} (hP:∀ k,k < n→P3 k→P2 k):Sp Q w N n m AN ca Bs P3 W:=by
 have hs:=h.size
 have hB:=h.sB
 have hr:=r.size
 have cb:∀ k,k ≠ w.heap.size+1+1→k < X.heap.size→W.heap[k]? = X.heap[k]?:=fun k h1 h2=>r.old k h2 h1
 refine ⟨r.os.trans h.os,r.output.trans h.output,h.sB,h.lQ,by omega,fun k hk=>(cb k (by omega) (by omega)).trans (h.old k hk),(World.cell?_of_block (cb _ (by show w.heap.size+1 ≠ _;omega) (by show w.heap.size+1 < _;omega))).trans h.b1,(World.cell?_of_block (cb _ (by show w.heap.size+1+1+1 ≠ _;omega) (by show w.heap.size+1+1+1 < _;omega))).trans h.b3,r.gf,r.any,fun k hk hp=>?_⟩
 obtain ⟨a2,b2,l2,q1,q2,q3,q4⟩:=r.ok k hk (hP k hk hp)
 exact ⟨a2,b2,l2,q1,q2,q3.bad (fun k hk hb=>hb.elim .inl (fun e=>e.elim (fun e=>.inr (.inl e)) (fun e=>.inr (.inr (.inr e))))),q4⟩
theorem Rm.keeps {N:Nat→Nd} {n:Nat} {m:Int} {G Bs A:Nat} {X:World} {C:Int→Prop} {a:Option Addr} {b:Bool} {P:Nat→Prop} {W:World} (r:Rm Q N n m G Bs A X C a b P W) (hX:∃ o:Obj,X.heap[G]? = some o∧o.isCells=true) (b0:Nat):KeepsFrom b0 X W :=
 ⟨by have:=r.size;omega,fun k o _ hk ho=>by
  by_cases e:k=G
  ·subst e
   obtain ⟨o',h1,h2⟩:=hX
   rw [hk] at h1
   have:o=o':=by simpa using h1
   subst this
   rw [ho] at h2
   cases h2
  ·exact (r.old k (lt_of_obj hk) e).trans hk⟩
theorem im_spots {d : Fd} {AN : Addr} {cnn : Nat} {vv vu : Value} (w0 w : World) (hvv : ∃ a b c, vv = .slice a b c) (hvu : ∃ a b c, vu = .slice a b c) (hra0 : ∀ i, i < d.n → NodeC 0 w0 (AN.add (i * 8)) (d.N i)) (h0 : ∀ k, k < w0.heap.size → w.heap[k]? = w0.heap[k]?) (hzw : w0.heap.size ≤ w.heap.size) (hQ0 : ∀ k, Q k → w0.heap.size ≤ k ∧ k < w.heap.size) (hca : d.n ≤ cnn) (T : Tree d.N d.n) (hn : d.n ≤ 3000) (hq : ∀ t, t < d.n → (d.N t).q ≤ 200) (hp : ∀ t, t < d.n → (d.N t).p ≤ 1048576) (hm0 : 0 ≤ d.m) (hm1 : d.m ≤ 1048576) :
    Calls Tryz.prog 85 #[fnv d vv vu (.slice (some AN) d.n cnn)] w fun e w'=>∃ G,e = .returned (.slice (some ⟨G,0,none⟩) d.n d.n)∧Spots Q G d w'∧w.heap.size≤G∧Kb 0 w w':=by
  obtain ⟨v1,v2,v3,rfl⟩:=hvv
  obtain ⟨u1,u2,u3,rfl⟩:=hvu
  obtain ⟨PR,PK,CR,CK,hsl0⟩:=node_slots hra0
  have hsl:∀ i,i < d.n→CelN w (AN.add (i*8)) (d.N i).a (.slice (PR i) (d.N i).p (CR i)) (.slice (PK i) (d.N i).q (CK i))∧RowB 0 w (.slice (PR i) (d.N i).p (CR i)) (d.N i).p (fun j=>.int .i64 ((d.N i).R j))∧RowB 0 w (.slice (PK i) (d.N i).q (CK i)) (d.N i).q (fun j=>.int .i64 ((d.N i).K j)):=fun i hi=>by
    have kl:∀ {p:Addr} {u:Value},w0.cell? p=some u→w.cell? p=some u:=fun {p u} h=>(World.cell?_of_block (h0 _ (lt_of_cell' h))).trans h
    obtain ⟨⟨y0,y1,y2,y3,y4,y5,y6,y7⟩,⟨pa,ca,e1,r1⟩,⟨pa',ca',e1',r1'⟩⟩:=hsl0 i hi
    exact ⟨⟨kl y0,kl y1,kl y2,kl y3,kl y4,kl y5,kl y6,kl y7⟩,⟨pa,ca,e1,fun hn=>by obtain ⟨a,z1,z2,z3,z4⟩:=r1 hn;exact ⟨a,z1,z2,z3,fun j hj=>kl (z4 j hj)⟩⟩,⟨pa',ca',e1',fun hn=>by obtain ⟨a,z1,z2,z3,z4⟩:=r1' hn;exact ⟨a,z1,z2,z3,fun j hj=>kl (z4 j hj)⟩⟩⟩
  have HSL0:Hid ((∀ i,i < d.n→CelN w0 (AN.add (i*8)) (d.N i).a (.slice (PR i) (d.N i).p (CR i)) (.slice (PK i) (d.N i).q (CK i))∧RowB 0 w0 (.slice (PR i) (d.N i).p (CR i)) (d.N i).p (fun j=>.int .i64 ((d.N i).R j))∧RowB 0 w0 (.slice (PK i) (d.N i).q (CK i)) (d.N i).q (fun j=>.int .i64 ((d.N i).K j)))∧(∀ k,k < w0.heap.size→w.heap[k]? = w0.heap[k]?)∧w0.heap.size≤w.heap.size∧∀ k,Q k→w0.heap.size≤k∧k < w.heap.size):=(⟨hsl0,h0,hzw,hQ0⟩:_∧_)
  unfold fnv
  obtain ⟨mm,hmm⟩:=Int.eq_ofNat_of_zero_le hm0
  have hnI:(d.n:Int)≤3000:=by omega
  have hn0:(0:Int) < (d.n:Int):=by have:=T.pos;omega
  obtain ⟨xs,hxo,hxl⟩:=ord_ex d.n d.n (Nat.le_refl _)
  have hmk:∀ W:World,_:=fun W=>run_make (P:=Tryz.prog) W 117 124 Tryz.t124 (.agg #[.pointer none,.bool false]) Tryz.underlying117 (by kernel_rfl) (by kernel_rfl) .i64 .i64 (d.n:Int) (d.n:Int) (by omega) (Int.le_refl _) (by show (16:Int)*(d.n:Int)≤_;omega) (by omega)
  simp only [Int.toNat_natCast] at hmk
  obtain ⟨i0,hi0,hz0,hz1,hz2⟩:=info_parts infoI
  have HI0:Hid (Tryz.prog.info? 3=some i0):=hi0
  have hmI:(mm:Int)≤1048576:=by omega
  have HST:Hid ((∀ i,i < d.n→CelN w (AN.add (i*8)) (d.N i).a (.slice (PR i) (d.N i).p (CR i)) (.slice (PK i) (d.N i).q (CK i))∧RowB 0 w (.slice (PR i) (d.N i).p (CR i)) (d.N i).p (fun j=>.int .i64 ((d.N i).R j))∧RowB 0 w (.slice (PK i) (d.N i).q (CK i)) (d.N i).q (fun j=>.int .i64 ((d.N i).K j)))∧Tree d.N d.n∧(∀ t,t < d.n→(d.N t).q≤200)∧(∀ t,t < d.n→(d.N t).p≤1048576)∧Ord xs∧xs.length=d.n∧d.n≤cnn∧d.n≤3000∧d.m=(mm:Int)):=(⟨hsl,T,hq,hp,hxo,hxl,hca,hn,hmm⟩:_∧_)
  have HMB:=fun W=>bwn_make (some AN) d.n cnn W
  rw [hmm]
  clear hi0 hsl hsl0 hra0 h0 hzw hQ0 T hq hp hxo hca hm0 hm1 hmm hn
  refine (callsIn_wide (n:=3)).1 ?_
  refine callsIn_of_wp_marks Tryz.func85 rfl trivial ?_ rfl
  simp only [Tryz.ntmps85,List.size_toArray,List.length_cons,List.length_nil,Nat.reduceAdd,Nat.reduceSub,Array.replicate_succ,Array.replicate_zero,List.push_toArray,List.append_toArray,List.nil_append,List.cons_append]
  gi_wp2_with fail
  obtain ⟨W5,hW5⟩:∃ W5,W5=(((((w.alloc (.cells #[.string d.x,.int .i64 d.l,.int .i64 (mm:Int),.bool d.r,.slice v1 v2 v3,.slice u1 u2 u3,.slice (some AN) d.n cnn] 48)).alloc (.cells #[.slice (some AN) d.n cnn] 46)).alloc (.cells (madeCells #[.pointer none,.bool false] (d.n*Tryz.t124.size)) 124)).alloc (.cells #[.slice (some ⟨w.heap.size+1+1,0,none⟩) d.n d.n] 117)).alloc (.cells #[.pointer none,.slice none 0 0] 145)):=⟨_,rfl⟩
  rw [← hW5]
  obtain ⟨z5,p0,p1,p2,p3,p4,k5⟩:=five_new w _ _ _ _ _ _ _ _ _ _ W5 hW5
  have hmd:=made2 (W:=W5) (G:=w.heap.size+1+1) (n:=d.n) p2
  have P0:Pm w W5 0 (.slice none 0 0) W5:=⟨rfl,rfl,fun _ _=>rfl,p4,World.ownsRow_nil _ _ _ _,by omega⟩
  have HP0:Hid (Pm w W5 0 (.slice none 0 0) W5):=P0
  have HW5:Hid (W5.heap.size=w.heap.size+5∧W5.cell? ⟨w.heap.size+1,0,none⟩=some (.slice (some AN) d.n cnn)∧W5.cell? ⟨w.heap.size+1+1+1,0,none⟩=some (.slice (some ⟨w.heap.size+1+1,0,none⟩) d.n d.n)∧((∀ k,k < d.n→W5.cell? ⟨w.heap.size+1+1,k*2,none⟩=some (.pointer none)∧W5.cell? ⟨w.heap.size+1+1,k*2+1,none⟩=some (.bool false))∧∀ j,W5.frozen? ⟨w.heap.size+1+1,j,none⟩=false)∧Kb 0 w W5):=(⟨z5,cell_of p1 rfl,cell_of p3 rfl,hmd,k5⟩:_∧_)
  clear hW5 z5 p0 p1 p2 p3 p4 k5 hmd P0 hmk
  gi_loopw [21] (fun s21 wr=>∃ i:Nat,s21 = .int .i64 (i:Int)∧i≤mm∧Hid (∃ v,Pm w W5 i v wr)) (fun s21 _=>mm - (intOf s21).toNat)
  case atStart=>exact ⟨0,rfl,Nat.zero_le _,(⟨_,HP0⟩:∃ v,Pm w W5 0 v W5)⟩
  case round =>
    clear HP0
    obtain ⟨i,rfl,him,HV⟩:=hrel
    obtain ⟨v,hv⟩:=(uh HV)
    obtain ⟨ad,cap,rfl⟩:=hv.shape
    have c1:wr.cell? ⟨w.heap.size+1+1+1+1,1,none⟩=some (.slice ad i cap):=cell_of hv.pb rfl
    rcases Nat.lt_or_ge i mm with hi | hi
    · have hiI:(i:Int) < (mm:Int):=by omega
      have HSTP:Hid (∀ (E:Obj) (v':Value) (w7:World),w7.ownsRow (w.heap.size+5) 3 1 v' (i+1) (ups i ++ [.int .i64 (i:Int)])→(wr.alloc E).grownBy w7 (Value.slice ad i cap).ownBlock→w7.cell? ⟨w.heap.size+1+1+1+1,1,none⟩=some (.slice ad i cap)∧w7.frozen? ⟨w.heap.size+1+1+1+1,1,none⟩=false∧Pm w W5 (i+1) v' (w7.setCell ⟨w.heap.size+1+1+1+1,1,none⟩ v')):=(fun E v' w7 a b=>hv.step a b:∀ (E:Obj),_)
      have howna:∀ a:Obj,(wr.alloc a).ownsRow (w.heap.size+5) 3 1 (.slice ad i cap) i (ups i):=fun a=>hv.row.alloc a
      have hbs:w.heap.size+5≤wr.heap.size:=hv.size
      have hqc:∀ (j:Nat) (u:Value),([.int .i64 (i:Int)]:List Value)[j]? = some u→(wr.alloc (.cells #[.int .i64 (i:Int)] 3)).cell? ((⟨wr.heap.size,0,none⟩:Addr).add j)=some u:=qr_cells wr #[.int .i64 (i:Int)] 3 [.int .i64 (i:Int)] rfl
      have h1c:∀ u ∈ ([.int .i64 (i:Int)]:List Value),u.oneCell'=true:=by intro u hu;simp at hu;subst hu;rfl
      clear HV hv HST HW5 HMB
      gi_wp2_with (gi_at_builtin;refine wpListIn_append_own _ rfl (.tmp 28) (.tmp 30) 57 rfl (w.heap.size+5) 3 i0 (.int .i64 0) 1 8 Tryz.underlying57 HI0 hz0 hz1 hz2 rfl (by decide) _ _ _ rfl (howna _) ⟨wr.heap.size,0,none⟩ 1 1 [.int .i64 (i:Int)] rfl rfl hqc h1c (by unfold maxLen;omega) (by omega) (by simp;omega) ?_;intro v' w1 hown1 hgrow1 _;obtain ⟨g',cap',rfl,_,_⟩:=hown1.form (by omega);obtain ⟨s0,s1,s2⟩:=(uh HSTP) _ _ _ hown1 hgrow1;have HN:Hid (∃ v,Pm w W5 (i+1) v (w1.setCell ⟨w.heap.size+1+1+1+1,1,none⟩ (.slice (some ⟨g',0,none⟩) (i+1) cap'))):=(⟨_,s2⟩:∃ v,Pm w W5 (i+1) v (w1.setCell ⟨w.heap.size+1+1+1+1,1,none⟩ (.slice (some ⟨g',0,none⟩) (i+1) cap')));clear HSTP hown1 hgrow1 howna hqc h1c c1 s2)
      go_roundw
      case rel=>exact ⟨i+1,by go_num,by omega,HN⟩
      case measure=>simp [intOf];omega
    · obtain rfl:i=mm:=by omega
      have hW5:=(uh HW5)
      have hv':=hv
      have e3:wr.cell? ⟨w.heap.size+1+1+1,0,none⟩=some (.slice (some ⟨w.heap.size+1+1,0,none⟩) d.n d.n):=(World.cell?_of_block (hv.keep _ (by show w.heap.size+1+1+1 < _;omega))).trans hW5.2.2.1
      have e1:wr.cell? ⟨w.heap.size+1,0,none⟩=some (.slice (some AN) d.n cnn):=(World.cell?_of_block (hv.keep _ (by show w.heap.size+1 < _;omega))).trans hW5.2.1
      have eg:∀ j,wr.cell? ⟨w.heap.size+1+1,j,none⟩=W5.cell? ⟨w.heap.size+1+1,j,none⟩:=fun j=>World.cell?_of_block (hv.keep _ (by show w.heap.size+1+1 < _;omega))
      have ef:∀ j,wr.frozen? ⟨w.heap.size+1+1,j,none⟩=false:=fun j=>(World.frozen?_of_block (hv.keep _ (by show w.heap.size+1+1 < _;omega))).trans (hW5.2.2.2.1.2 j)
      obtain ⟨n1,hn1⟩:∃ n1,d.n=n1+1:=⟨d.n - 1,by omega⟩
      have g0:wr.cell? ⟨w.heap.size+1+1,n1*2,none⟩=some (.pointer none):=(eg _).trans (hW5.2.2.2.1.1 n1 (by omega)).1
      have f0:=ef (n1*2)
      have hq1:(d.n:Int) - 1=(n1:Int):=by omega
      have hn1I:(n1:Int) < (d.n:Int):=by omega
      obtain ⟨W6,hW6⟩:∃ W6,W6=wr.setCell ⟨w.heap.size+1+1,n1*2,none⟩ (.pointer (some ⟨w.heap.size+1+1+1+1,0,none⟩)):=⟨_,rfl⟩
      have z6:W6.heap.size=wr.heap.size:=by rw [hW6];simp
      have e16:W6.cell? ⟨w.heap.size+1,0,none⟩=some (.slice (some AN) d.n cnn):=by rw [hW6];exact (World.cell?_of_block (Below.heap_setCell _ _ _ _ (by show w.heap.size+1 ≠ w.heap.size+1+1;omega))).trans e1
      have HW6:Hid (W6=wr.setCell ⟨w.heap.size+1+1,n1*2,none⟩ (.pointer (some ⟨w.heap.size+1+1+1+1,0,none⟩))):=hW6
      have HN1:Hid (d.n=n1+1):=hn1
      have HV2:Hid (Pm w W5 i (.slice ad i cap) wr):=hv
      clear hv hv' hW6 HV hn1 hi him hW5 eg ef z6
      gi_wp2_with fail
      rw [← (uh HW6)]
      refine ⟨trivial,(callsIn_wide.2 (HMB _)).mono ?_⟩
      rintro en w4 ⟨rfl,hw4⟩
      subst hw4
      gi_wp2_with fail
      obtain ⟨hsl,T,hq,hp,hxo,hxl',hca,hn,hmm⟩:=(uh HST)
      have hz6:W6.heap.size=wr.heap.size:=by rw [show W6 = _ from HW6];simp
      obtain ⟨z5,-,-,hmd,k5⟩:=(uh HW5)
      have hv:=(uh HV2)
      have eg:∀ j,wr.cell? ⟨w.heap.size+1+1,j,none⟩=W5.cell? ⟨w.heap.size+1+1,j,none⟩:=fun j=>World.cell?_of_block (hv.keep _ (by show w.heap.size+1+1 < _;omega))
      have ef:∀ j,wr.frozen? ⟨w.heap.size+1+1,j,none⟩=false:=fun j=>(World.frozen?_of_block (hv.keep _ (by show w.heap.size+1+1 < _;omega))).trans (hmd.2 j)
      have d3:=sp_start (Q:=Q) (N:=d.N) (m:=d.m) (AN:=AN) (ca:=cnn) T hmm (by omega) HN1 hv k5 e1 e3 (fun k hk=>⟨(eg _).trans (hmd.1 k hk).1,(eg _).trans (hmd.1 k hk).2⟩) ef (fun k hk=>(HSL0.2.2.2 k hk).2) (.cells #[.slice (some AN) d.n cnn] 46)
      rw [← (uh HW6)] at d3
      obtain ⟨W3,hW3⟩:∃ W3,W3=W6.alloc (.cells #[.slice (some AN) d.n cnn] 46):=⟨_,rfl⟩
      have s3:W3.cell? ⟨wr.heap.size,0,none⟩=some (.slice (some AN) d.n cnn):=by rw [hW3,← hz6];exact cell_of (alloc_new _ _ _) rfl
      have z3:W3.heap.size=wr.heap.size+1:=by rw [hW3,World.size_alloc,hz6]
      rw [← hW3] at d3 ⊢
      rw [hz6]
      obtain ⟨Bs,hBs⟩:∃ Bs,Bs=wr.heap.size:=⟨_,rfl⟩
      rw [← hBs] at d3 s3 z3
      clear HW6 hW3 hv eg ef hmd k5 z5 e1 e3 g0 f0 hq1 hn1I e16 hz6 HV2 HMB HW5 c1
      refine wpIn_rangeFunc_sc (α:={j:Nat // j < d.n}) (n:=3) Ord (by omega) (gf:=108) (lb:=#[.pointer (some ⟨wr.heap.size,0,none⟩)]) rfl (enters_of Tryz.func108 (by kernel_rfl) rfl)
        (encs:=fun x=>#[.int .i64 (x.val:Int),.agg #[.int .i64 (d.N x.val).a.k,.int .i64 (d.N x.val).a.l,.int .i64 (d.N x.val).a.o,.int .i64 (d.N x.val).a.m,.float .f64 (d.N x.val).a.g,.string (d.N x.val).a.x,.slice (PR x.val) (d.N x.val).p (CR x.val),.slice (PK x.val) (d.N x.val).q (CK x.val)]]) (fun _=>rfl) Bs (by omega) xs (fun _=>True) (fun pre=>Sp Q w d.N d.n d.m AN cnn Bs (Pp d.N d.n pre)) (own_sp (by omega))
        (fun s X X' h hk=>h.blk hk.os hk.output hk.size (fun k hl=>hk.block k (by have:=h.size;have:=h.sB;omega) (by have:=h.sB;omega)) (.of_blk (fun k hl hb=>hk.block k hl (fun e=>hb (.inr (.inl e)))))) d3 (fun _ _ _ _ _=>trivial) ?iter
        (fun x=>.cells #[.int .i64 (d.N x.val).a.k,.int .i64 (d.N x.val).a.l,.int .i64 (d.N x.val).a.o,.int .i64 (d.N x.val).a.m,.float .f64 (d.N x.val).a.g,.string (d.N x.val).a.x,.slice (PR x.val) (d.N x.val).p (CR x.val),.slice (PK x.val) (d.N x.val).q (CK x.val)] 59) (fun x bx=>{ tmps:=#[.agg #[.string d.x,.int .i64 d.l,.int .i64 (i:Int),.bool d.r,.slice v1 v2 v3,.slice u1 u2 u3,.slice (some AN) d.n cnn],.pointer (some ⟨w.heap.size,0,none⟩),.slice none 0 0,.pointer (some ⟨w.heap.size+1,0,none⟩),.pointer (some ⟨w.heap.size+1+1+1,0,none⟩),.pointer (some ⟨w.heap.size+1+1+1+1,0,none⟩),u6,.int .i64 (x.val:Int),.pointer (some ⟨bx,0,none⟩),undef,undef,undef,.pointer (some ⟨w.heap.size,6,none⟩),.slice (some AN) d.n cnn,.slice (some AN) d.n cnn,.int .i64 (d.n:Int),.slice (some ⟨w.heap.size+1+1,0,none⟩) d.n d.n,.agg #[.pointer none,.slice none 0 0],.pointer (some ⟨w.heap.size+1+1+1+1,0,none⟩),.pointer (some ⟨w.heap.size,2,none⟩),.int .i64 (i:Int),.int .i64 (i:Int),.bool false,u23,u24,u25,u26,u27,u28,u29,u30,u31,u32,u33,u34,.slice (some ⟨w.heap.size+1+1,0,none⟩) d.n d.n,.slice (some AN) d.n cnn,.int .i64 (d.n:Int),.int .i64 (n1:Int),.pointer (some ⟨w.heap.size+1+1+1+1,0,none⟩),.pointer (some ⟨w.heap.size+1+1,n1*2,none⟩),.pointer (some ⟨w.heap.size+1+1,n1*2,none⟩),.slice (some AN) d.n cnn,.func (.func 108) #[] #[.pointer (some ⟨wr.heap.size,0,none⟩)],.int .i64 (x.val:Int),.agg #[.int .i64 (d.N x.val).a.k,.int .i64 (d.N x.val).a.l,.int .i64 (d.N x.val).a.o,.int .i64 (d.N x.val).a.m,.float .f64 (d.N x.val).a.g,.string (d.N x.val).a.x,.slice (PR x.val) (d.N x.val).p (CR x.val),.slice (PK x.val) (d.N x.val).q (CK x.val)],undef,undef,undef,undef,undef,undef,undef,undef,undef,undef,undef,undef,undef,undef,undef,undef,undef,undef,undef,undef,undef,undef,undef,undef,undef,undef,undef,undef,undef,undef,undef,undef,undef,undef,undef,undef,undef,undef,undef,undef,undef,undef,undef,undef,undef,undef,undef,undef,undef,undef,undef,undef,undef,undef,undef,undef,undef,undef,undef,undef],defers:=[] }) ?assign ?body ?done
      case iter =>
        intro lp J X hb hJ hJI hY h0
        rw [← hBs]
        refine (bwn_in 2 (by omega) lp Bs w (q:=d.n) (N:=d.N) (by omega) (fun i hi=>(hsl i hi).1) J (fun pre x W1 hj hl hC=>?_) X (fun k hk=>(hb.block k (by have:=d3.sB;omega)).trans (d3.old k hk)) ((hb.cell (p:=⟨Bs,0,none⟩) (lt_of_cell s3)).trans s3) hca h0).mono ?_
        · obtain ⟨fn,tmps,assign,body,hy,hR⟩:=hY pre x W1 hj (by rw [hxl];exact hl) hC
          refine ⟨fn,tmps,assign,body,hy,hR.mono fun e W' ⟨he,hj',hB⟩=>⟨he,hj',fun k hk=>?_⟩⟩
          rcases hk with hk | rfl
          · exact ((hJI _ _ hj').old k hk).trans ((hJI _ _ hj).old k hk).symm
          · exact hB
        · rintro e W' ⟨he,ys,⟨o,l⟩,hj⟩
          rw [ord_uniq hxo o (hxl.trans l.symm)];exact ⟨he,hj,trivial⟩
      case assign =>
        intro l x X K hKK
        have hst:=hst0
        gi_wp2
        exact hKK
      case body =>
        intro l pre x bx X hpl hC hi hbx hbo
        obtain ⟨hop,hxv⟩:=hC.app
        obtain ⟨t,htx⟩:∃ t,t=x.val:=⟨_,rfl⟩
        have htn:t < d.n:=by rw [htx];exact x.property
        have hP:Pp d.N d.n pre t:=by
          by_cases e:t+1=d.n
          · exact .inl e
          · obtain ⟨t',i',hk⟩:=T.par (k:=t) (by omega)
            have:=hk.lt T
            exact .inr ⟨t',i',hk,by omega⟩
        obtain ⟨a,b,la,q1,q2,q3,q4,q5⟩:=hi.ok t htn hP
        have HR0:Hid (Rm Q d.N d.n d.m (w.heap.size+1+1) Bs X.heap.size X (fun x=>SS d.N d.n d.m x t) a b (Pp d.N d.n pre) (X.alloc (.cells #[.pointer a,.bool b] 124))):=hi.begin q3 q4 _
        have b3:=hi.b3
        have hsB:=hi.sB
        have hsz:=hi.size
        have hGX:∃ o:Obj,X.heap[w.heap.size+1+1]? = some o∧o.isCells=true:=cell_is q1
        have hbxl:bx < X.heap.size:=lt_of_obj hbo
        have hbG:bx ≠ w.heap.size+1+1:=by omega
        have HF:Hid (∀ V,(∀ k,k < X.heap.size→k ≠ w.heap.size+1+1→V.heap[k]? = X.heap[k]?)→V.cell? ⟨bx,0,none⟩=some (.int .i64 (d.N t).a.k)∧V.cell? ⟨bx,6,none⟩=some (.slice (PR t) (d.N t).p (CR t))∧V.cell? ⟨bx,7,none⟩=some (.slice (PK t) (d.N t).q (CK t))∧V.cell? ⟨w.heap.size+1+1+1,0,none⟩=some (.slice (some ⟨w.heap.size+1+1,0,none⟩) d.n d.n)∧V.cell? ⟨w.heap.size+1,0,none⟩=some (.slice (some AN) d.n cnn)∧(∀ c,c < d.n→CelN V (AN.add (c*8)) (d.N c).a (.slice (PR c) (d.N c).p (CR c)) (.slice (PK c) (d.N c).q (CK c))∧RowG (Bd3 Q (w.heap.size+1+1) Bs X.heap.size) V (.slice (PR c) (d.N c).p (CR c)) (d.N c).p (d.N c).R∧RowG (Bd3 Q (w.heap.size+1+1) Bs X.heap.size) V (.slice (PK c) (d.N c).q (CK c)) (d.N c).q (d.N c).K)):=(fun V ho=>by
          have hob:V.heap[bx]? = some (.cells #[.int .i64 (d.N t).a.k,.int .i64 (d.N t).a.l,.int .i64 (d.N t).a.o,.int .i64 (d.N t).a.m,.float .f64 (d.N t).a.g,.string (d.N t).a.x,.slice (PR t) (d.N t).p (CR t),.slice (PK t) (d.N t).q (CK t)] 59 (0,0)):=by rw [ho bx hbxl hbG,htx];exact hbo
          have hlow:∀ k,k < w.heap.size→V.heap[k]? = w.heap[k]?:=fun k hk=>(ho k (by omega) (by omega)).trans (hi.old k hk)
          refine ⟨cell_of hob rfl,cell_of hob rfl,cell_of hob rfl,(World.cell?_of_block (ho _ (by show w.heap.size+1+1+1 < _;omega) (by show w.heap.size+1+1+1 ≠ _;omega))).trans hi.b3,(World.cell?_of_block (ho _ (by show w.heap.size+1 < _;omega) (by show w.heap.size+1 ≠ _;omega))).trans hi.b1,fun c hc=>?_⟩
          obtain ⟨c1,-,-⟩:=hsl c hc
          obtain ⟨hsl0,h0,hz0,hQ0⟩:=(uh HSL0)
          have nb:∀ k,k < w0.heap.size→¬ Bd3 Q (w.heap.size+1+1) Bs X.heap.size k:=by
            rintro k hk (e | e | e | e)
            · omega
            · omega
            · omega
            · have:=(hQ0 k e).1;omega
          have kc:Kc (Bd3 Q (w.heap.size+1+1) Bs X.heap.size) w0 V:=.of_blk (fun k hk _=>(hlow k (by omega)).trans (h0 k hk))
          obtain ⟨-,c2,c3⟩:=hsl0 c hc
          have kl:∀ {p:Addr} {u:Value},w.cell? p=some u→V.cell? p=some u:=fun {p u} h=>(World.cell?_of_block (hlow _ (lt_of_cell' h))).trans h
          obtain ⟨y0,y1,y2,y3,y4,y5,y6,y7⟩:=c1
          exact ⟨⟨kl y0,kl y1,kl y2,kl y3,kl y4,kl y5,kl y6,kl y7⟩,(c2.rowG nb).keep kc,(c3.rowG nb).keep kc⟩:∀ V,_)
        obtain ⟨n0,n6,n7,-,-,-⟩:=(uh HF) X (fun _ _ _=>rfl)
        have HEND:Hid (∀ W,(∃ C a b,Rm Q d.N d.n d.m (w.heap.size+1+1) Bs X.heap.size X C a b (fun k=>Pp d.N d.n pre k∨∃ j,j < (d.N t).q∧(d.N t).K j=(k:Int)) W∧((d.N t).q < (d.N t).q→∀ x,C x↔(SS d.N d.n d.m x t∨∃ j,j < (d.N t).q∧LetAt d.N t j x))∧b=dc (LL d.N d.n t∨(0 < (d.N t).q∧Lop d.N t)))→bodyEnd W3.heap.size Bs (fun pre=>Sp Q w d.N d.n d.m AN cnn Bs (Pp d.N d.n pre)) (pre ++ [x]) X .normal { tmps:=#[],defers:=[] } W):=(fun W ⟨C,a,b,hr,_,_⟩=>by
          refine (⟨hr.keeps hGX _,Rm.done hi hr (fun k hk hpk=>?_),hr.old Bs hsz (by omega)⟩:_∧_∧_)
          rcases hpk with h | ⟨t',i',h1,h2⟩
          · exact .inl (.inl h)
          · rw [List.length_append,List.length_cons,List.length_nil] at h2
            by_cases e:t'=t
            · subst e;exact .inr ⟨i',h1.2.1,h1.2.2⟩
            · exact .inl (.inr ⟨t',i',h1,by omega⟩):∀ W,_)
        have HI:Hid (t < d.n∧Tree d.N d.n∧(∀ t,t < d.n→(d.N t).q≤200)∧(∀ t,t < d.n→(d.N t).p≤1048576)∧b=dc (LL d.N d.n t)):=(⟨htn,T,hq,hp,q5⟩:_∧_)
        have htI:(t:Int) < (d.n:Int):=by omega
        have hqI:((d.N t).q:Int)≤200:=by have:=hq t htn;omega
        have ka:=kb_alloc 0 X (.cells #[.pointer a,.bool b] 124)
        have n7a:(X.alloc (.cells #[.pointer a,.bool b] 124)).cell? ⟨bx,7,none⟩=some (.slice (PK t) (d.N t).q (CK t)):=ka.cell n7
        have HX0:Hid (bx < X.heap.size∧w.heap.size+4 < Bs∧Bs < X.heap.size):=(⟨hbxl,hsB,hsz⟩:_∧_)
        rw [← htx]
        have mixed:Tryz.prog.follows .mixedOrders=true:=by kernel_rfl
        clear hi hbo hC hop hxv hP q3 q4 q5 hsl T hq hp hxo hxl' hca hmm HST d3 s3 hbx hGX hbG hpl ka hBs htx
        gi_wp2_with fail
        clear q1 q2 b3 n7a n0 n6 n7
        gi_loopw [53] (fun s53 wr=>∃ i2:Nat,s53 = .int .i64 (i2:Int)∧i2≤(d.N t).q∧Hid (∃ C a b,Rm Q d.N d.n d.m (w.heap.size+1+1) Bs X.heap.size X C a b (fun k=>Pp d.N d.n pre k∨∃ j,j < i2∧(d.N t).K j=(k:Int)) wr∧(i2 < (d.N t).q→∀ x,C x↔(SS d.N d.n d.m x t∨∃ j,j < i2∧LetAt d.N t j x))∧b=dc (LL d.N d.n t∨(0 < i2∧Lop d.N t)))) (fun s53 _=>(d.N t).q - (intOf s53).toNat)
        case atStart =>
          refine ⟨0,rfl,Nat.zero_le _,?_⟩
          have hr:=(uh HR0)
          refine (⟨_,a,b,⟨hr.os,hr.output,hr.eA,hr.lG,hr.gB,hr.lB,hr.lQ,hr.size,hr.old,hr.a0,hr.a1,hr.af,hr.gf,hr.any,hr.sc,fun k hk hp=>hr.ok k hk (hp.resolve_right (fun ⟨j,hj,_⟩=>by omega))⟩,fun _ x=>⟨.inl,fun g=>g.elim id (fun ⟨j,hj,_⟩=>by omega)⟩,?_⟩:∃ C a b,Rm Q d.N d.n d.m (w.heap.size+1+1) Bs X.heap.size X C a b (fun k=>Pp d.N d.n pre k∨∃ j,j < 0∧(d.N t).K j=(k:Int)) _∧(0 < (d.N t).q→∀ x,C x↔(SS d.N d.n d.m x t∨∃ j,j < 0∧LetAt d.N t j x))∧b=dc (LL d.N d.n t∨(0 < 0∧Lop d.N t)))
          rw [HI.2.2.2.2]
          congr 1
          exact propext ⟨.inl,fun g=>g.elim id (fun g=>by omega)⟩
        case round =>
          clear HR0
          obtain ⟨i2,rfl,hiq,HJ⟩:=hrel
          rcases Nat.lt_or_ge i2 (d.N t).q with hlt | hge
          · have hjI:(i2:Int) < ((d.N t).q:Int):=by omega
            obtain ⟨C,a,b,hr,hCx,hbb⟩:=(uh HJ)
            obtain ⟨htn,T,hq,hp,-⟩:=(uh HI)
            obtain ⟨k0,hk0⟩:=Int.eq_ofNat_of_zero_le (T.kid t htn i2 hlt).1
            have hkid:Kid d.N d.n t i2 k0:=⟨htn,hlt,hk0⟩
            have hk0t:=hkid.lt T
            have hk0I:(k0:Int) < (d.n:Int):=by omega
            have hpt:=hp t htn
            have hpk:=hp k0 (by omega)
            have hssk:=fun x=>ss_kid (m:=d.m) (x:=x) T hkid
            have hllk:=ll_kid T hkid
            have HK:Hid (k0 < d.n∧Kid d.N d.n t i2 k0∧(d.N t).p≤1048576∧(d.N k0).p≤1048576∧(∀ x,SS d.N d.n d.m x k0↔(SS d.N d.n d.m x t∨∃ j,j < i2∧LetAt d.N t j x)∨(FoL d.N t∧i2+1=(d.N t).q∧Rfs d.N t x))∧(LL d.N d.n k0↔(LL d.N d.n t∨Lop d.N t))):=(⟨by omega,hkid,hpt,hpk,hssk,hllk⟩:_∧_)
            obtain ⟨n0,n6,n7,e3,e1,hcc⟩:=(uh HF) wr hr.old
            have a0:=hr.a0
            have HRT:Hid (RowG (Bd3 Q (w.heap.size+1+1) Bs X.heap.size) wr (.slice (PR t) (d.N t).p (CR t)) (d.N t).p (d.N t).R):=(hcc t htn).2.1
            obtain ⟨pk',ck',hpe,hra⟩:=(hcc t htn).2.2
            obtain ⟨bk,hbk,-,-,hrb⟩:=hra (by omega)
            obtain ⟨ep,-,-⟩:PK t=pk'∧(d.N t).q=(d.N t).q∧CK t=ck':=by simpa using hpe
            have qk:=hrb i2 hlt
            rw [hk0] at qk
            have HPK:Hid (PK t=some bk):=ep.trans hbk
            rw [show PK t=some bk from HPK] at n7 ⊢
            have a0a:∀ o,(wr.alloc o).cell? ⟨X.heap.size,0,none⟩=some (.pointer a):=fun o=>(kb_alloc 0 wr o).cell a0
            have af:=hr.af 0
            have afa:∀ o,(wr.alloc o).frozen? ⟨X.heap.size,0,none⟩=false:=fun o=>((kb_alloc 0 wr o).frozen zq (lt_of_cell' a0)).trans af
            have HR:Hid (Rm Q d.N d.n d.m (w.heap.size+1+1) Bs X.heap.size X C a b (fun k=>Pp d.N d.n pre k∨∃ j,j < i2∧(d.N t).K j=(k:Int)) wr):=hr
            have HC:Hid (∀ x,C x↔(SS d.N d.n d.m x t∨∃ j,j < i2∧LetAt d.N t j x)):=hCx hlt
            have HBB:Hid (b=dc (LL d.N d.n t∨(0 < i2∧Lop d.N t))):=hbb
            have hqp:(0:Int) < ((d.N t).q:Int):=by omega
            obtain ⟨qq,hqq⟩:∃ qq:Nat,((d.N t).q:Int) - 1=(qq:Int):=⟨(d.N t).q - 1,by omega⟩
            obtain ⟨z,hz⟩:∃ z,z=dc (FoL d.N t∧i2+1=(d.N t).q):=⟨_,rfl⟩
            have HZ:Hid (z=dc (FoL d.N t∧i2+1=(d.N t).q)):=hz
            clear hr hCx hbb htn T hq hp hkid hk0t hpt hpk hssk hllk hcc hpe hra hrb hbk ep HJ hk0 hiq HEND hz
            gi_upto_region 17 with fail
            gi_cut [68] from 106 (fun s68 wc=>s68 = .bool z∧wr=wc)
            case first =>
              clear qk a0a afa
              by_cases hf:FoL d.N t
              · by_cases hl:i2+1=(d.N t).q
                · have hle:((i2:Int) == (qq:Int))=true:=by simp;omega
                  have HFL:∀ W,Calls Tryz.prog 100 #[.int .i64 (d.N t).a.k] W fun e w'=>e = .returned (.bool true)∧w'=W:=fun W=>by
                    have:=im_forlast (d.N t).a.k W
                    rw [dc_t (show _∨_∨_ from hf)] at this
                    exact this
                  have hzz:z=true:=(uh HZ).trans (dc_t ⟨hf,hl⟩)
                  clear HR HC HBB HK HF HI HRT
                  generalize (d.N t).a.k=kk at *
                  gi_wp2_with fail
                  refine ⟨trivial,((callsIn_wide.2 (HFL _)).inRound l).mono ?_⟩
                  rintro e w1 ⟨rfl,rfl⟩
                  gi_wp2_with fail
                  all_goals
                    gi_meet
                    case rel=>exact ⟨by rw [hzz],rfl⟩
                · have hle:((i2:Int) == (qq:Int))=false:=by simp;omega
                  have HFL:∀ W,Calls Tryz.prog 100 #[.int .i64 (d.N t).a.k] W fun e w'=>e = .returned (.bool true)∧w'=W:=fun W=>by
                    have:=im_forlast (d.N t).a.k W
                    rw [dc_t (show _∨_∨_ from hf)] at this
                    exact this
                  have hzz:z=false:=(uh HZ).trans (dc_f (fun g=>hl g.2))
                  clear HR HC HBB HK HF HI HRT
                  generalize (d.N t).a.k=kk at *
                  gi_wp2_with fail
                  refine ⟨trivial,((callsIn_wide.2 (HFL _)).inRound l).mono ?_⟩
                  rintro e w1 ⟨rfl,rfl⟩
                  gi_wp2_with fail
                  all_goals
                    gi_meet
                    case rel=>exact ⟨by rw [hzz],rfl⟩
              · skip
                have HFL:∀ W,Calls Tryz.prog 100 #[.int .i64 (d.N t).a.k] W fun e w'=>e = .returned (.bool false)∧w'=W:=fun W=>by
                  have:=im_forlast (d.N t).a.k W
                  rw [dc_f (show ¬ (_∨_∨_) from hf)] at this
                  exact this
                have hzz:z=false:=(uh HZ).trans (dc_f (fun g=>hf g.1))
                clear HR HC HBB HK HF HI HRT
                generalize (d.N t).a.k=kk at *
                gi_wp2_with fail
                refine ⟨trivial,((callsIn_wide.2 (HFL _)).inRound l).mono ?_⟩
                rintro e w1 ⟨rfl,rfl⟩
                gi_wp2_with fail
                all_goals
                  gi_meet
                  case rel=>exact ⟨by rw [hzz],rfl⟩
            case rest =>
              obtain ⟨rfl,rfl⟩:=hcut
              clear n0 n7 e3 e1
              gi_upto_if 68 with fail
              gi_cut [] from 106 (fun wc=>Hid (∃ C1 a1,Rm Q d.N d.n d.m (w.heap.size+1+1) Bs X.heap.size X C1 a1 b (fun k=>Pp d.N d.n pre k∨∃ j,j < i2∧(d.N t).K j=(k:Int)) wc∧∀ x,C1 x↔SS d.N d.n d.m x k0))
              case first =>
                obtain ⟨_,_,hpt,_,hss,_⟩:=(uh HK)
                by_cases hz:FoL d.N t∧i2+1=(d.N t).q
                · have HP : Hid (∃ C1 a1, Rm Q d.N d.n d.m (w.heap.size + 1 + 1) Bs X.heap.size X C1 a1 b (fun k => Pp d.N d.n pre k ∨ ∃ j, j < i2 ∧ (d.N t).K j = (k : Int)) ((wr.alloc (.cells #[.pointer a, .slice (PR t) (d.N t).p (CR t)] 145)).setCell ⟨X.heap.size, 0, none⟩ (.pointer (some ⟨wr.heap.size, 0, none⟩))) ∧ ∀ x, C1 x ↔ SS d.N d.n d.m x k0) := by
                    refine (show ∃ C1 a1,Rm Q d.N d.n d.m (w.heap.size+1+1) Bs X.heap.size X C1 a1 b (fun k=>Pp d.N d.n pre k∨∃ j,j < i2∧(d.N t).K j=(k:Int)) ((wr.alloc (.cells #[.pointer a,.slice (PR t) (d.N t).p (CR t)] 145)).setCell ⟨X.heap.size,0,none⟩ (.pointer (some ⟨wr.heap.size,0,none⟩)))∧∀ x,C1 x↔SS d.N d.n d.m x k0 from ⟨_,_,(uh HR).push HRT hpt _,fun x=>?_⟩)
                    rw [hss x,← (uh HC) x]
                    exact ⟨fun g=>g.elim .inl (fun g=>.inr ⟨hz.1,hz.2,g⟩),fun g=>g.elim .inl (fun g=>.inr g.2.2)⟩
                  obtain rfl:z=true:=(uh HZ).trans (dc_t hz)
                  clear hz hss hpt HR HC HBB HK HF HI HRT HZ qk
                  gi_wp2_with fail
                  gi_meet
                  case rel=>exact HP
                · have HP : Hid (∃ C1 a1, Rm Q d.N d.n d.m (w.heap.size + 1 + 1) Bs X.heap.size X C1 a1 b (fun k => Pp d.N d.n pre k ∨ ∃ j, j < i2 ∧ (d.N t).K j = (k : Int)) wr ∧ ∀ x, C1 x ↔ SS d.N d.n d.m x k0) := by
                    refine (show ∃ C1 a1,Rm Q d.N d.n d.m (w.heap.size+1+1) Bs X.heap.size X C1 a1 b (fun k=>Pp d.N d.n pre k∨∃ j,j < i2∧(d.N t).K j=(k:Int)) wr∧∀ x,C1 x↔SS d.N d.n d.m x k0 from ⟨_,_,(uh HR),fun x=>?_⟩)
                    rw [hss x,← (uh HC) x]
                    exact ⟨.inl,fun g=>g.elim id (fun g=>absurd ⟨g.1,g.2.1⟩ hz)⟩
                  obtain rfl:z=false:=(uh HZ).trans (dc_f hz)
                  clear hz hss hpt HR HC HBB HK HF HI HRT HZ qk
                  gi_wp2_with fail
                  gi_meet
                  case rel=>exact HP
              case rest =>
                obtain ⟨C1,a1,hr1,hC1⟩:=(show ∃ C1 a1,Rm Q d.N d.n d.m (w.heap.size+1+1) Bs X.heap.size X C1 a1 b (fun k=>Pp d.N d.n pre k∨∃ j,j < i2∧(d.N t).K j=(k:Int)) wc∧∀ x,C1 x↔SS d.N d.n d.m x k0 from hcut)
                clear n6
                obtain ⟨n0,n6,n7,e3,e1,hcc⟩:=(uh HF) wc hr1.old
                have b0:=hr1.a1
                have bf:=hr1.af 1
                have HR1:Hid (Rm Q d.N d.n d.m (w.heap.size+1+1) Bs X.heap.size X C1 a1 b (fun k=>Pp d.N d.n pre k∨∃ j,j < i2∧(d.N t).K j=(k:Int)) wc):=hr1
                have hll:=(uh HK).2.2.2.2.2
                clear hcut hr1 HR HC HRT a0 a0a af afa hcc n6 n7 e3 e1 qk HZ
                gi_upto_region 19 with fail
                gi_cut [] from 106 (fun wc=>Hid (∃ C1 a1,Rm Q d.N d.n d.m (w.heap.size+1+1) Bs X.heap.size X C1 a1 (dc (LL d.N d.n k0)) (fun k=>Pp d.N d.n pre k∨∃ j,j < i2∧(d.N t).K j=(k:Int)) wc∧∀ x,C1 x↔SS d.N d.n d.m x k0))
                case first =>
                  cases b with
                  | true =>
                    have hbl:LL d.N d.n t∨(0 < i2∧Lop d.N t):=by
                      refine Classical.byContradiction fun g=>?_
                      have:=(uh HBB)
                      rw [dc_f g] at this
                      cases this
                    have HP:Hid (∃ C1 a1,Rm Q d.N d.n d.m (w.heap.size+1+1) Bs X.heap.size X C1 a1 (dc (LL d.N d.n k0)) (fun k=>Pp d.N d.n pre k∨∃ j,j < i2∧(d.N t).K j=(k:Int)) (wc.setCell ⟨X.heap.size,1,none⟩ (.bool true))∧∀ x,C1 x↔SS d.N d.n d.m x k0):=by
                      refine (show ∃ C1 a1,Rm Q d.N d.n d.m (w.heap.size+1+1) Bs X.heap.size X C1 a1 (dc (LL d.N d.n k0)) (fun k=>Pp d.N d.n pre k∨∃ j,j < i2∧(d.N t).K j=(k:Int)) (wc.setCell ⟨X.heap.size,1,none⟩ (.bool true))∧∀ x,C1 x↔SS d.N d.n d.m x k0 from ⟨C1,a1,?_,hC1⟩)
                      rw [show dc (LL d.N d.n k0)=true from dc_t (hll.2 (hbl.elim .inl (fun g=>.inr g.2)))]
                      exact (uh HR1).setb true
                    clear HR1 hC1 hll HF HI HK HBB hbl
                    generalize (d.N t).a.k=kk at *
                    gi_wp2_with fail
                    refine ⟨trivial,?_⟩
                    gi_wp2_with fail
                    all_goals
                      gi_meet
                      case rel=>exact HP
                  | false =>
                    have hbl:¬ (LL d.N d.n t∨(0 < i2∧Lop d.N t)):=by
                      intro g
                      have:=(uh HBB)
                      rw [dc_t g] at this
                      cases this
                    by_cases hlo:Lop d.N t
                    · skip
                      have HLO:∀ W,Calls Tryz.prog 101 #[.int .i64 (d.N t).a.k] W fun e w'=>e = .returned (.bool true)∧w'=W:=fun W=>by
                        have:=im_loop (d.N t).a.k W
                        rw [dc_t (show _∨_∨_ from hlo)] at this
                        exact this
                      have HP:Hid (∃ C1 a1,Rm Q d.N d.n d.m (w.heap.size+1+1) Bs X.heap.size X C1 a1 (dc (LL d.N d.n k0)) (fun k=>Pp d.N d.n pre k∨∃ j,j < i2∧(d.N t).K j=(k:Int)) (wc.setCell ⟨X.heap.size,1,none⟩ (.bool true))∧∀ x,C1 x↔SS d.N d.n d.m x k0):=by
                        refine (show ∃ C1 a1,Rm Q d.N d.n d.m (w.heap.size+1+1) Bs X.heap.size X C1 a1 (dc (LL d.N d.n k0)) (fun k=>Pp d.N d.n pre k∨∃ j,j < i2∧(d.N t).K j=(k:Int)) (wc.setCell ⟨X.heap.size,1,none⟩ (.bool true))∧∀ x,C1 x↔SS d.N d.n d.m x k0 from ⟨C1,a1,?_,hC1⟩)
                        rw [show dc (LL d.N d.n k0)=true from dc_t (hll.2 (.inr hlo))]
                        exact (uh HR1).setb true
                      clear HR1 hC1 hll HF HI HK HBB hbl hlo
                      generalize (d.N t).a.k=kk at *
                      gi_wp2_with fail
                      refine ⟨trivial,((callsIn_wide.2 (HLO _)).inRound l).mono ?_⟩
                      rintro e w1 ⟨rfl,rfl⟩
                      gi_wp2_with fail
                      all_goals
                        gi_meet
                        case rel=>exact HP
                    · skip
                      have HLO:∀ W,Calls Tryz.prog 101 #[.int .i64 (d.N t).a.k] W fun e w'=>e = .returned (.bool false)∧w'=W:=fun W=>by
                        have:=im_loop (d.N t).a.k W
                        rw [dc_f (show ¬ (_∨_∨_) from hlo)] at this
                        exact this
                      have HP:Hid (∃ C1 a1,Rm Q d.N d.n d.m (w.heap.size+1+1) Bs X.heap.size X C1 a1 (dc (LL d.N d.n k0)) (fun k=>Pp d.N d.n pre k∨∃ j,j < i2∧(d.N t).K j=(k:Int)) (wc.setCell ⟨X.heap.size,1,none⟩ (.bool false))∧∀ x,C1 x↔SS d.N d.n d.m x k0):=by
                        refine (show ∃ C1 a1,Rm Q d.N d.n d.m (w.heap.size+1+1) Bs X.heap.size X C1 a1 (dc (LL d.N d.n k0)) (fun k=>Pp d.N d.n pre k∨∃ j,j < i2∧(d.N t).K j=(k:Int)) (wc.setCell ⟨X.heap.size,1,none⟩ (.bool false))∧∀ x,C1 x↔SS d.N d.n d.m x k0 from ⟨C1,a1,?_,hC1⟩)
                        rw [show dc (LL d.N d.n k0)=false from dc_f (fun g=>(hll.1 g).elim (fun g=>hbl (.inl g)) hlo)]
                        exact (uh HR1).setb false
                      clear HR1 hC1 hll HF HI HK HBB hbl hlo
                      generalize (d.N t).a.k=kk at *
                      gi_wp2_with fail
                      refine ⟨trivial,((callsIn_wide.2 (HLO _)).inRound l).mono ?_⟩
                      rintro e w1 ⟨rfl,rfl⟩
                      gi_wp2_with fail
                      all_goals
                        gi_meet
                        case rel=>exact HP
                case rest =>
                  clear b0 bf HR1 hC1 hll n0 HBB
                  obtain ⟨C2,a2,hr2,hC2⟩:=(show ∃ C1 a1,Rm Q d.N d.n d.m (w.heap.size+1+1) Bs X.heap.size X C1 a1 (dc (LL d.N d.n k0)) (fun k=>Pp d.N d.n pre k∨∃ j,j < i2∧(d.N t).K j=(k:Int)) wc∧∀ x,C1 x↔SS d.N d.n d.m x k0 from hcut)
                  obtain ⟨n0,n6,n7,e3,e1,hcc⟩:=(uh HF) wc hr2.old
                  obtain ⟨hk0n,hkid,hpt,hpk,hss,hll⟩:=(uh HK)
                  obtain ⟨b1,hb1⟩:∃ b1,b1=dc (LL d.N d.n k0):=⟨_,rfl⟩
                  rw [← hb1] at hr2
                  have hr3:=hr2.store hk0n hC2 hb1
                  have a0:=hr2.a0
                  have a1':=hr2.a1
                  obtain ⟨ga,gb,g0,g1⟩:=hr2.any k0 hk0n
                  have f0:=hr2.gf (k0*2)
                  obtain ⟨V1,hV1⟩:∃ V,wc.setCell ⟨w.heap.size+1+1,k0*2,none⟩ (.pointer a2)=V:=⟨_,rfl⟩
                  have v1:V1.cell? ⟨w.heap.size+1+1,k0*2+1,none⟩=some (.bool gb):=by rw [← hV1,set_ne _ _ _ _ _ (by omega)];exact g1
                  have vf:V1.frozen? ⟨w.heap.size+1+1,k0*2+1,none⟩=false:=by rw [← hV1,set_fz];exact hr2.gf _
                  obtain ⟨V2,hV2⟩:∃ V,V1.setCell ⟨w.heap.size+1+1,k0*2+1,none⟩ (.bool b1)=V:=⟨_,rfl⟩
                  rw [hV1,hV2] at hr3
                  obtain ⟨-,-,-,-,w1',wcc⟩:=(uh HF) V2 hr3.old
                  obtain ⟨⟨y0,y1,y2,y3,y4,y5,y6,y7⟩,hrk,-⟩:=wcc k0 hk0n
                  have HR3:Hid (Rm Q d.N d.n d.m (w.heap.size+1+1) Bs X.heap.size X C2 a2 b1 (fun k=>(fun k=>Pp d.N d.n pre k∨∃ j,j < i2∧(d.N t).K j=(k:Int)) k∨k=k0) V2):=hr3
                  have HRK:Hid (RowG (Bd3 Q (w.heap.size+1+1) Bs X.heap.size) V2 (.slice (PR k0) (d.N k0).p (CR k0)) (d.N k0).p (d.N k0).R):=hrk
                  have z0:=hr3.a0
                  have zf:=hr3.af 0
                  have HN:Hid (∀ (C:Int→Prop) (a:Option Addr) (W:World),Rm Q d.N d.n d.m (w.heap.size+1+1) Bs X.heap.size X C a b1 (fun k=>(fun k=>Pp d.N d.n pre k∨∃ j,j < i2∧(d.N t).K j=(k:Int)) k∨k=k0) W→(i2+1 < (d.N t).q→∀ x,C x↔(SS d.N d.n d.m x t∨∃ j,j < (i2+1)∧LetAt d.N t j x))→∃ C a b,Rm Q d.N d.n d.m (w.heap.size+1+1) Bs X.heap.size X C a b (fun k=>Pp d.N d.n pre k∨∃ j,j < (i2+1)∧(d.N t).K j=(k:Int)) W∧((i2+1) < (d.N t).q→∀ x,C x↔(SS d.N d.n d.m x t∨∃ j,j < (i2+1)∧LetAt d.N t j x))∧b=dc (LL d.N d.n t∨(0 < (i2+1)∧Lop d.N t))):=(fun C a W h1 h2=>⟨C,a,b1,⟨h1.os,h1.output,h1.eA,h1.lG,h1.gB,h1.lB,h1.lQ,h1.size,h1.old,h1.a0,h1.a1,h1.af,h1.gf,h1.any,h1.sc,fun k hk hp=>h1.ok k hk (by
                    rcases hp with g | ⟨j,hj,e⟩
                    · exact .inl (.inl g)
                    · by_cases ej:j=i2
                      · subst ej
                        exact .inr (Int.ofNat_inj.1 (e.symm.trans hkid.2.2))
                      · exact .inl (.inr ⟨j,by omega,e⟩))⟩,h2,by
                    rw [hb1]
                    congr 1
                    exact propext ⟨fun g=>(hll.1 g).elim .inl (fun g=>.inr ⟨by omega,g⟩),fun g=>hll.2 (g.elim .inl (fun g=>.inr g.2))⟩⟩:∀ (C:Int→Prop),_)
                  have HL:Hid (∀ x,C2 x↔(SS d.N d.n d.m x t∨∃ j,j < i2∧LetAt d.N t j x)∨(FoL d.N t∧i2+1=(d.N t).q∧Rfs d.N t x)):=(fun x=>(hC2 x).trans (hss x):∀ x,_)
                  have hLA:∀ x,LetAt d.N t i2 x↔(d.N k0).a.k=2∧Rfs d.N k0 x:=fun x=>⟨fun ⟨c,e,h1,h2⟩=>by
                    have:c=k0:=Int.ofNat_inj.1 (e.symm.trans hkid.2.2)
                    subst this;exact ⟨h1,h2⟩,fun ⟨h1,h2⟩=>⟨k0,hkid.2.2,h1,h2⟩⟩
                  clear hcut hr2 hr3 hC2 hss hll hkid hpt HK HF HI hcc wcc hrk hb1 y1 y2 y3 y4 y5 y7 n0 n6 n7 e1
                  gi_upto_region 21 with fail
                  clear hV1 hV2 v1 vf g0 g1 f0 a0 a1' e3
                  by_cases hk2:(d.N k0).a.k=2
                  · have gk:=beq1 hk2
                    have z0a:∀ o,(V2.alloc o).cell? ⟨X.heap.size,0,none⟩=some (.pointer a2):=fun o=>(kb_alloc 0 V2 o).cell z0
                    have zfa:∀ o,(V2.alloc o).frozen? ⟨X.heap.size,0,none⟩=false:=fun o=>((kb_alloc 0 V2 o).frozen zq (lt_of_cell' z0)).trans zf
                    have HP:Hid (∀ n2,∃ C a b,Rm Q d.N d.n d.m (w.heap.size+1+1) Bs X.heap.size X C a b (fun k=>Pp d.N d.n pre k∨∃ j,j < (i2+1)∧(d.N t).K j=(k:Int)) (((V2.alloc (.cells #[.pointer a2,.slice (PR k0) (d.N k0).p (CR k0)] 145)).setCell ⟨X.heap.size,0,none⟩ (.pointer (some ⟨V2.heap.size,0,none⟩))).drewN n2)∧((i2+1) < (d.N t).q→∀ x,C x↔(SS d.N d.n d.m x t∨∃ j,j < (i2+1)∧LetAt d.N t j x))∧b=dc (LL d.N d.n t∨(0 < (i2+1)∧Lop d.N t))):=(fun n2=>by
                      refine (uh HN) _ _ _ (((uh HR3).push HRK hpk _).drewN n2) (fun hl x=>?_)
                      have h1:=(uh HL) x
                      constructor
                      · rintro (g | g)
                        · rcases h1.1 g with (g | ⟨j,hj,g⟩) | g
                          · exact .inl g
                          · exact .inr ⟨j,by omega,g⟩
                          · omega
                        · exact .inr ⟨i2,by omega,(hLA x).2 ⟨hk2,g⟩⟩
                      · rintro (g | ⟨j,hj,g⟩)
                        · exact .inl (h1.2 (.inl (.inl g)))
                        · by_cases ej:j=i2
                          · subst ej;exact .inr ((hLA x).1 g).2
                          · exact .inl (h1.2 (.inl (.inr ⟨j,by omega,g⟩))):∀ n2,_)
                    clear HN HL hLA HR3 HRK hk2 hpk
                    generalize (d.N k0).a.k=kk at *
                    gi_wp2_with fail
                    gi_region_with_o (fail)
                    all_goals
                      have HP1:Hid (∃ C a b,Rm Q d.N d.n d.m (w.heap.size+1+1) Bs X.heap.size X C a b (fun k=>Pp d.N d.n pre k∨∃ j,j < (i2+1)∧(d.N t).K j=(k:Int)) (((V2.alloc (.cells #[.pointer a2,.slice (PR k0) (d.N k0).p (CR k0)] 145)).setCell ⟨X.heap.size,0,none⟩ (.pointer (some ⟨V2.heap.size,0,none⟩))).drew)∧((i2+1) < (d.N t).q→∀ x,C x↔(SS d.N d.n d.m x t∨∃ j,j < (i2+1)∧LetAt d.N t j x))∧b=dc (LL d.N d.n t∨(0 < (i2+1)∧Lop d.N t))):=(uh HP) 1
                      clear HP z0a zfa z0 zf y0 y6 w1'
                      gi_wp2_with fail
                      go_roundw
                      case rel=>exact ⟨i2+1,by go_num,by omega,HP1⟩
                      case measure=>simp [intOf];omega
                  · have gk:=bne hk2
                    have HP:Hid (∃ C a b,Rm Q d.N d.n d.m (w.heap.size+1+1) Bs X.heap.size X C a b (fun k=>Pp d.N d.n pre k∨∃ j,j < (i2+1)∧(d.N t).K j=(k:Int)) V2∧((i2+1) < (d.N t).q→∀ x,C x↔(SS d.N d.n d.m x t∨∃ j,j < (i2+1)∧LetAt d.N t j x))∧b=dc (LL d.N d.n t∨(0 < (i2+1)∧Lop d.N t))):=by
                      refine (uh HN) _ _ _ (uh HR3) (fun hl x=>?_)
                      have h1:=(uh HL) x
                      constructor
                      · intro g
                        rcases h1.1 g with (g | ⟨j,hj,g⟩) | g
                        · exact .inl g
                        · exact .inr ⟨j,by omega,g⟩
                        · omega
                      · rintro (g | ⟨j,hj,g⟩)
                        · exact h1.2 (.inl (.inl g))
                        · by_cases ej:j=i2
                          · subst ej;exact absurd ((hLA x).1 g).1 hk2
                          · exact h1.2 (.inl (.inr ⟨j,by omega,g⟩))
                    clear HN HL hLA HR3 HRK hk2 hpk z0 zf
                    generalize (d.N k0).a.k=kk at *
                    gi_wp2_with fail
                    go_roundw
                    case rel=>exact ⟨i2+1,by go_num,by omega,HP⟩
                    case measure=>simp [intOf];omega
          · have ei:i2=(d.N t).q:=by omega
            have HX2:Hid (bodyEnd W3.heap.size Bs (fun pre=>Sp Q w d.N d.n d.m AN cnn Bs (Pp d.N d.n pre)) (pre ++ [x]) X .normal { tmps:=#[],defers:=[] } wr):=(uh HEND) wr (by have h:=(uh HJ);rw [ei] at h;exact h)
            rw [ei]
            clear HJ HEND HI HF hge hiq ei
            gi_wp2_with fail
            exact HX2
      case done =>
        rintro D' X hD hi _ hx
        have e3:=hi.b3
        have HX:Hid ((∀ k,k < d.n→Oks (Bd2 Q (w.heap.size+1+1) Bs) d.N d.n d.m (w.heap.size+1+1) X k)∧Kb 0 w X∧X.heap[D']? = some (.deferred (some []))∧w.heap.size+4 < D'∧D' < X.heap.size):=(⟨fun k hk=>by
          have hPk:Pp d.N d.n xs k:=by
            by_cases e:k+1=d.n
            · exact .inl e
            · obtain ⟨t',i',hk'⟩:=T.par (k:=k) (by omega)
              exact .inr ⟨t',i',hk',by omega⟩
          exact hi.ok k hk hPk,⟨hi.os,hi.output,by have:=hi.size;have:=hi.sB;omega,fun k _ hk=>hi.old k hk⟩,hx,by have:=hi.sB;omega,lt_of_obj hx⟩:_∧_)
        clear hi hx HST d3 s3 hsl T hq hp hxo hxl' hca hmm
        gi_wp2_with fail
        refine leaves_marks [D'] X (by simp) (fun r' hr'=>by rw [List.mem_singleton.1 hr'];exact HX.2.2.1) (fun w' h1 h2 h3 h4=>?_)
        refine ⟨_,by simp [results,Tryz.results85,go_sem];rfl,?_⟩
        obtain ⟨x1,x2,x3,x4,x5⟩:=(uh HX)
        refine ⟨w.heap.size+1+1,rfl,?_,by omega,⟨h1.trans x2.os,h2.trans x2.output,by have:=x2.size;omega,fun k _ hk=>(h4 k (fun e=>by have:=List.mem_singleton.1 e;omega)).trans (x2.block k zq hk)⟩⟩
        have kc:Kc (Bd2 Q (w.heap.size+1+1) Bs) X w':=fun k o _ ho hc=>by
          by_cases e:k=D'
          · subst e
            rw [x3] at ho
            have:o = .deferred (some []):=by simpa using ho.symm
            subst this
            cases hc
          · exact (h4 k (fun g=>e (List.mem_singleton.1 g))).trans ho
        intro k hk
        obtain ⟨a,b,la,q1,q2,q3,q4,q5⟩:=x1 k hk
        have ce:∀ j,w'.cell? ⟨w.heap.size+1+1,j,none⟩=X.cell? ⟨w.heap.size+1+1,j,none⟩:=fun j=>World.cell?_of_block (h4 _ (fun g=>by have:w.heap.size+1+1=D':=List.mem_singleton.1 g;omega))
        exact ⟨a,b,la,(ce _).trans q1,(ce _).trans q2,(q3.keep kc).bad (fun k hk hq=>.inr (.inr hq)),q4,q5⟩
end Go.Proofs.YtfpidccjcemcjaaGreat.Fo
