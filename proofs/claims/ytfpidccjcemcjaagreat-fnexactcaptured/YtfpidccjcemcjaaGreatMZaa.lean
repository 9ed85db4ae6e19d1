import Derived.Test.YtfpidccjcemcjaaGreatMZsq
import Derived.Test.YtfpidccjcemcjaaGreatMBab
import Derived.Test.YtfpidccjcemcjaaGreatMFlt
set_option maxRecDepth 100000
set_option maxHeartbeats 4000000
namespace Go.Proofs.YtfpidccjcemcjaaGreat.Fo
open Go.ChangeShapes Go.WideShapes Go.ChangeAt Go.RowKit
set_option linter.unusedVariables false
theorem quo_run {x r:Nat} (h:floatBits .quo .f64 4607182418800017408 x=some r) (w:World):(binOp .quo 56 (.float .f64 4607182418800017408) (.float .f64 x)).run Tryz.prog w = .ok (.float .f64 r) w :=
 run_float_arith w .quo 56 .f64 _ _ _ h
theorem same_flt (x:Nat) (hx:x < 18446744073709551616) (w:World):Calls Tryz.prog 90 #[.float .f64 x,.float .f64 x] w fun e w'=>e = .returned (.bool true)∧w'=w:=by
 rcases Flt.zero_cases x hx with h | ⟨h,h0,hz⟩ | ⟨h,h0⟩
 ·go_enter Tryz.func90,Tryz.ntmps90
  go_wp2
  go_ret
  exact ⟨rfl,rfl⟩
 ·rcases hz with rfl | rfl
  ·have hq:=quo_run (x:=0) (r:=9218868437227405312) (by decide)
   have hg:FloatKind.f64.format.order 9218868437227405312 0=some .gt:=by decide
   go_enter Tryz.func90,Tryz.ntmps90
   go_wp2
   go_ret
   exact ⟨rfl,rfl⟩
  ·have hq:=quo_run (x:=9223372036854775808) (r:=18442240474082181120) (by decide)
   have hg:FloatKind.f64.format.order 18442240474082181120 0=some .lt:=by decide
   go_enter Tryz.func90,Tryz.ntmps90
   go_wp2
   go_ret
   exact ⟨rfl,rfl⟩
 ·rcases h0 with h0 | h0
  all_goals
   go_enter Tryz.func90,Tryz.ntmps90
   go_wp2
   go_ret
   exact ⟨rfl,rfl⟩
def fz (g:Nat):Prop:=FloatKind.f64.format.order g 0=some .eq
def fn (g:Nat):Prop:=FloatKind.f64.format.order g g=some .eq
theorem f_cases (g : Nat) (hg : g < 18446744073709551616) :
  (¬ fz g∧¬ fn g∧FloatKind.f64.format.order g g=none∧FloatKind.f64.format.order g 0=none) ∨
  (fz g∧fn g∧FloatKind.f64.format.order g g=some .eq∧FloatKind.f64.format.order g 0=some .eq) ∨
  (¬ fz g∧fn g∧FloatKind.f64.format.order g g=some .eq∧(FloatKind.f64.format.order g 0=some .lt∨FloatKind.f64.format.order g 0=some .gt)):=by
 unfold fz fn
 rcases Flt.zero_cases g hg with h | ⟨h,h0,_⟩ | ⟨h,h0⟩
 ·left
  have h0:FloatKind.f64.format.order g 0=none:=by
   rcases Flt.order_cases g 0 with ⟨_,k⟩ | ⟨k,_⟩ | ⟨k,_⟩
   ·exact k
   ·rw [h] at k;cases k
   ·rw [h] at k;cases k
  exact ⟨by rw [h0];simp,by rw [h];simp,h,h0⟩
 ·right;left;exact ⟨h0,h,h,h0⟩
 ·right;right
  refine ⟨?_,h,h,h0⟩
  rcases h0 with h0 | h0 <;> rw [h0] <;> simp
end Go.Proofs.YtfpidccjcemcjaaGreat.Fo
namespace Go.Proofs.YtfpidccjcemcjaaGreat.Fo
open Go.ChangeShapes Go.WideShapes Go.ChangeAt Go.RowKit
set_option linter.unusedVariables false
set_option maxRecDepth 100000
structure Kb (b:Nat) (a w:World):Prop where
 os:w.os=a.os
 output:w.output=a.output
 size:a.heap.size≤w.heap.size
 block:∀ k,b≤k→k < a.heap.size→w.heap[k]? = a.heap[k]?
theorem Kb.refl (b:Nat) (a:World):Kb b a a:=⟨rfl,rfl,Nat.le_refl _,fun _ _ _=>rfl⟩
theorem Kb.trans {b:Nat} {x y z:World} (h:Kb b x y) (k:Kb b y z):Kb b x z:=⟨k.os.trans h.os,k.output.trans h.output,Nat.le_trans h.size k.size,fun i h1 hi=>(k.block i h1 (Nat.lt_of_lt_of_le hi h.size)).trans (h.block i h1 hi)⟩
theorem Kb.mono {b c:Nat} {x y:World} (h:Kb b x y) (hc:b≤c):Kb c x y:=⟨h.os,h.output,h.size,fun i h1 hi=>h.block i (Nat.le_trans hc h1) hi⟩
theorem Kb.of_below {a w:World} (h:Below a.heap.size a w) (b:Nat):Kb b a w:=⟨h.os,h.output,h.size,fun k _ hk=>h.block k hk⟩
theorem Kb.drewN {b:Nat} {a w:World} (h:Kb b a w) (n:Nat):Kb b a (w.drewN n):=⟨h.os,h.output,h.size,h.block⟩
theorem Kb.drew {b:Nat} {a w:World} (h:Kb b a w):Kb b a w.drew:=⟨h.os,h.output,h.size,h.block⟩
theorem Kb.alloc {b:Nat} {a w:World} (h:Kb b a w) (o:Obj):Kb b a (w.alloc o) :=
 h.trans (.of_below ((Below.refl _ w).alloc (Nat.le_refl _) o) b)
theorem Kb.setCell {b:Nat} {a w:World} (h:Kb b a w) (p:Addr) (hp:p.block < b∨a.heap.size≤p.block) (v:Value):Kb b a (w.setCell p v) :=
 ⟨h.os,h.output,by simpa using h.size,fun k h1 hk=>(Below.heap_setCell w p v k (by omega)).trans (h.block k h1 hk)⟩
theorem Kb.cellA {a w:World} {c:Nat} (h:Kb c a w) {b:Addr} {v:Value} (hb:c≤b.block) (hc:a.cell? b=some v):w.cell? b=some v :=
 (World.cell?_of_block (h.block b.block hb (lt_of_cell' hc))).trans hc
theorem Kb.cell {a w:World} (h:Kb 0 a w) {b:Addr} {v:Value} (hc:a.cell? b=some v):w.cell? b=some v:=h.cellA zq hc
theorem Kb.frozen {a w:World} {c:Nat} (h:Kb c a w) {b j:Nat} (hb:c≤b) (hl:b < a.heap.size):w.frozen? ⟨b,j,none⟩=a.frozen? ⟨b,j,none⟩:=World.frozen?_of_block (h.block b hb hl)
theorem Kb.kept {a w:World} (h:Kb 0 a w):a.keptBut w (fun _=>False):=by
 refine ⟨h.os,h.output,fun i hi=>?_⟩
 rw [h.block i zq hi]
 generalize a.heap[i]? = o
 cases o with
 | none=>rfl
 | some o=>cases o <;> first | exact ⟨rfl,rfl,rfl,fun _ _=>rfl⟩ | exact .inr ⟨rfl,rfl⟩ | rfl
theorem kb_alloc (b:Nat) (w:World) (o:Obj):Kb b w (w.alloc o):=(Kb.refl b w).alloc o
theorem kb_alloc2 (b:Nat) (w:World) (o p:Obj):Kb b w ((w.alloc o).alloc p):=((Kb.refl b w).alloc o).alloc p
theorem kb_alloc3 (b:Nat) (w:World) (o p q:Obj):Kb b w (((w.alloc o).alloc p).alloc q):=(((Kb.refl b w).alloc o).alloc p).alloc q
def RowB (b:Nat) (W:World) (v:Value) (n:Nat) (A:Nat→Value):Prop :=
 ∃ pa cap,v = .slice pa n cap∧(0 < n→∃ a:Addr,pa=some a∧n≤cap∧b≤a.block∧∀ i,i < n→W.cell? (a.add i)=some (A i))
theorem RowB.row {b:Nat} {W:World} {v:Value} {n:Nat} {A:Nat→Value} (h:RowB b W v n A):RowV W v n A:=by
 obtain ⟨pa,cap,h1,h2⟩:=h
 refine ⟨pa,cap,h1,fun hn=>?_⟩
 obtain ⟨a,e1,e2,_,e3⟩:=h2 hn
 exact ⟨a,e1,e2,e3⟩
theorem RowV.rowB {W:World} {v:Value} {n:Nat} {A:Nat→Value} (h:RowV W v n A):RowB 0 W v n A:=by
 obtain ⟨pa,cap,h1,h2⟩:=h
 refine ⟨pa,cap,h1,fun hn=>?_⟩
 obtain ⟨a,e1,e2,e3⟩:=h2 hn
 exact ⟨a,e1,e2,Nat.zero_le _,e3⟩
theorem RowB.keep {b:Nat} {W W':World} {v:Value} {n:Nat} {A:Nat→Value} (h:RowB b W v n A) (k:Kb b W W'):RowB b W' v n A:=by
 obtain ⟨pa,cap,h1,h2⟩:=h
 refine ⟨pa,cap,h1,fun hn=>?_⟩
 obtain ⟨a,e1,e2,e0,e3⟩:=h2 hn
 exact ⟨a,e1,e2,e0,fun i hi=>k.cellA (by rw [add_block];exact e0) (e3 i hi)⟩
theorem RowB.mono {b c:Nat} {W:World} {v:Value} {n:Nat} {A:Nat→Value} (h:RowB b W v n A) (hc:c≤b):RowB c W v n A:=by
 obtain ⟨pa,cap,h1,h2⟩:=h
 refine ⟨pa,cap,h1,fun hn=>?_⟩
 obtain ⟨a,e1,e2,e0,e3⟩:=h2 hn
 exact ⟨a,e1,e2,Nat.le_trans hc e0,e3⟩
theorem OwnR.rowB {W:World} {v:Value} {g n b:Nat} {A:Nat→Value} (h:OwnR W v g n A) (hb:b≤g):RowB b W v n A:=by
 obtain ⟨pa,cap,h1,h2⟩:=h.sl
 refine ⟨pa,cap,h1,fun hn=>⟨⟨g,0,none⟩,(h2 hn).1,(h2 hn).2,hb,fun i hi=>?_⟩⟩
 have:=h.cell i hi
 rw [show (⟨g,0,none⟩:Addr).add i=⟨g,i,none⟩ from by
  by_cases e:i=0
  ·subst e;rfl
  ·simp [Addr.add,e]]
 exact this
theorem addr0 (g i:Nat):(⟨g,0,none⟩:Addr).add i=⟨g,i,none⟩:=by
 by_cases e:i=0
 ·subst e;rfl
 ·simp [Addr.add,e]
def setL (W:World) (g o:Nat):List Value→World
 | []=>W
 | v :: r=>setL (W.setCell ⟨g,o,none⟩ v) g (o+1) r
theorem setL_size (g:Nat):∀ (l:List Value) (W:World) (o:Nat),(setL W g o l).heap.size=W.heap.size
 | [],_,_=>rfl
 | v :: r,W,o=>by unfold setL;rw [setL_size g r];simp
theorem setL_os (g:Nat):∀ (l:List Value) (W:World) (o:Nat),(setL W g o l).os=W.os∧(setL W g o l).output=W.output
 | [],_,_=>⟨rfl,rfl⟩
 | v :: r,W,o=>by unfold setL;exact setL_os g r _ _
theorem setL_block (g:Nat) (b:Nat) (h:b ≠ g):∀ (l:List Value) (W:World) (o:Nat),(setL W g o l).heap[b]? = W.heap[b]?
 | [],_,_=>rfl
 | v :: r,W,o=>by unfold setL;rw [setL_block g b h r];exact Below.heap_setCell _ _ _ _ h
theorem setL_fz (g b j:Nat):∀ (l:List Value) (W:World) (o:Nat),(setL W g o l).frozen? ⟨b,j,none⟩=W.frozen? ⟨b,j,none⟩
 | [],_,_=>rfl
 | v :: r,W,o=>by unfold setL;rw [setL_fz g b j r];simp
theorem setL_far (g j:Nat):∀ (l:List Value) (W:World) (o:Nat),j < o∨o+l.length≤j→(setL W g o l).cell? ⟨g,j,none⟩=W.cell? ⟨g,j,none⟩
 | [],_,_,_=>rfl
 | v :: r,W,o,h=>by
  unfold setL
  simp only [List.length_cons] at h
  rw [setL_far g j r _ _ (by omega),set_ne _ _ _ _ _ (by omega)]
theorem setL_at (g:Nat):∀ (l:List Value) (W:World) (o:Nat),(∀ t,t < l.length→∃ u,W.cell? ⟨g,o+t,none⟩=some u)→∀ t,t < l.length→(setL W g o l).cell? ⟨g,o+t,none⟩=l[t]?
 | [],_,_,_,t,ht=>by simp at ht
 | v :: r,W,o,h,t,ht=>by
  unfold setL
  simp only [List.length_cons] at h ht
  cases t with
  | zero =>
   obtain ⟨u,hu⟩:=h 0 (by omega)
   rw [setL_far g _ r _ _ (by omega)]
   exact set_eq _ _ _ _ _ hu
  | succ t =>
   have:=setL_at g r (W.setCell ⟨g,o,none⟩ v) (o+1) (fun t ht=>by
    obtain ⟨u,hu⟩:=h (t+1) (by omega)
    refine ⟨u,?_⟩
    rw [set_ne _ _ _ _ _ (by omega),show o+1+t=o+(t+1) by omega]
    exact hu) t (by omega)
   rw [show o+(t+1)=o+1+t by omega,this]
   rfl
def Blk (W:World) (g:Nat) (t:TypeId) (m:Nat):Prop:=∃ c,W.heap[g]? = some (.cells c t (0,0))∧m≤c.size
theorem Blk.of_eq {W W':World} {g:Nat} {t:TypeId} {m:Nat} (h:Blk W g t m) (e:W'.heap[g]? = W.heap[g]?):Blk W' g t m:=by
 obtain ⟨c,h1,h2⟩:=h
 exact ⟨c,e.trans h1,h2⟩
theorem Blk.set {W:World} {g:Nat} {t:TypeId} {m:Nat} (h:Blk W g t m) (j:Nat) (v:Value):Blk (W.setCell ⟨g,j,none⟩ v) g t m:=by
 obtain ⟨c,h1,h2⟩:=h
 exact ⟨_,heap_setCell_same W g j c t v h1,by rw [Array.size_setIfInBounds];exact h2⟩
theorem Blk.setL {g:Nat} {t:TypeId} {m:Nat}:∀ (l:List Value) (W:World) (o:Nat),Blk W g t m→Blk (setL W g o l) g t m
 | [],_,_,h=>h
 | v :: l,W,o,h=>Blk.setL l _ _ (h.set o v)
structure Mk (c:Nat) (w1:World) (g n:Nat) (E:Nat→List Value) (i:Nat) (W:World):Prop where
 os:W.os=w1.os
 output:W.output=w1.output
 size:w1.heap.size≤W.heap.size
 block:∀ b,b < w1.heap.size→b ≠ g→W.heap[b]? = w1.heap[b]?
 ce:∀ j,j < i→∀ t,t < c→W.cell? ⟨g,j*c+t,none⟩=(E j)[t]?
 rest:∀ j,i≤j→j < n→∀ t,t < c→∃ u,W.cell? ⟨g,j*c+t,none⟩=some u
 fz:∀ j,W.frozen? ⟨g,j,none⟩=false
 gl:g < w1.heap.size
 bt:∀ t m,Blk w1 g t m→Blk W g t m
theorem Mk.kb {c:Nat} {w1 W W':World} {g n i:Nat} {E:Nat→List Value} (h:Mk c w1 g n E i W) (k:Kb 0 W W'):Mk c w1 g n E i W':=by
 have hg:=Nat.lt_of_lt_of_le h.gl h.size
 have e:∀ j,W'.cell? ⟨g,j,none⟩=W.cell? ⟨g,j,none⟩:=fun j=>World.cell?_of_block (k.block g zq hg)
 exact ⟨k.os.trans h.os,k.output.trans h.output,Nat.le_trans h.size k.size,fun b hb hn=>(k.block b zq (Nat.lt_of_lt_of_le hb h.size)).trans (h.block b hb hn),fun j hj t ht=>(e _).trans (h.ce j hj t ht),fun j h1 h2 t ht=>by rw [e];exact h.rest j h1 h2 t ht,fun j=>(k.frozen zq hg).trans (h.fz j),h.gl,fun t m hb=>(h.bt t m hb).of_eq (k.block g zq hg)⟩
theorem Mk.step {c:Nat} {w1 W:World} {g n i:Nat} {E:Nat→List Value} (h:Mk c w1 g n E i W) (hi:i < n) {l:List Value} (hl:l.length=c):Mk c w1 g n (fun j=>if j=i then l else E j) (i+1) (setL W g (i*c) l):=by
 have hc0:∀ j,j ≠ i→∀ t,t < c→j*c+t < i*c∨i*c+c≤j*c+t:=by
  intro j hj t ht
  rcases Nat.lt_or_gt_of_ne hj with q | q
  ·left
   have:(j+1)*c≤i*c:=Nat.mul_le_mul_right c q
   rw [Nat.add_mul] at this;omega
  ·right
   have:(i+1)*c≤j*c:=Nat.mul_le_mul_right c q
   rw [Nat.add_mul] at this;omega
 have far:∀ j,j ≠ i→∀ t,t < c→(setL W g (i*c) l).cell? ⟨g,j*c+t,none⟩=W.cell? ⟨g,j*c+t,none⟩:=fun j hj t ht=>setL_far _ _ _ _ _ (by rw [hl];exact hc0 j hj t ht)
 refine ⟨(setL_os _ _ _ _).1.trans h.os,(setL_os _ _ _ _).2.trans h.output,by rw [setL_size];exact h.size,fun b hb hn=>(setL_block _ _ hn _ _ _).trans (h.block b hb hn),fun j hj t ht=>?_,fun j h1 h2 t ht=>by rw [far j (by omega) t ht];exact h.rest j (by omega) h2 t ht,fun j=>(setL_fz _ _ _ _ _ _).trans (h.fz j),h.gl,fun t m hb=>Blk.setL _ _ _ (h.bt t m hb)⟩
 by_cases e:j=i
 ·subst e
  rw [if_pos rfl]
  exact setL_at g l W (j*c) (fun t ht=>h.rest j (Nat.le_refl _) hi t (by omega)) t (by omega)
 ·rw [if_neg e,far j e t ht]
  exact h.ce j (by omega) t ht
theorem made_at (w:World) (z:Value) (c e n:Nat) (hz:z.cells.size=c) (j t:Nat) (hj:j < n) (ht:t < c):(w.alloc (.cells (madeCells z.cells (n*c)) e)).cell? ⟨w.heap.size,j*c+t,none⟩=z.cells[t]?:=by
 have hb:j*c+t < n*c:=by
  have:(j+1)*c≤n*c:=Nat.mul_le_mul_right c hj
  rw [Nat.add_mul] at this;omega
 have hg:(madeCells z.cells (n*c))[j*c+t]? = z.cells[t]?:=by
  have hm:(j*c+t) % c=t:=by rw [Nat.add_comm,Nat.add_mul_mod_self_right];exact Nat.mod_eq_of_lt ht
  simp [madeCells,hz,hb,hm]
  rw [getElem?_pos z.cells t (by omega),getElem!_pos z.cells t (by omega)]
 rw [World.cell?_alloc_at _ _ _ _ rfl]
 exact hg
theorem mk_zero (w:World) (z:Value) (c e n:Nat) (E:Nat→List Value) (hz:z.cells.size=c):Mk c (w.alloc (.cells (madeCells z.cells (n*c)) e)) w.heap.size n E 0 (w.alloc (.cells (madeCells z.cells (n*c)) e)):=by
 refine ⟨rfl,rfl,Nat.le_refl _,fun _ _ _=>rfl,fun j hj=>by omega,fun j _ hj t ht=>?_,fun j=>made_fz _ _ _ _,by simp,fun _ _ h=>h⟩
 rw [made_at w z c e n hz j t hj ht]
 exact ⟨_,getElem?_pos z.cells t (by omega)⟩
theorem cell_of {W:World} {b j:Nat} {c:Array Value} {t:TypeId} {v:Value} (h:W.heap[b]? = some (.cells c t (0,0))) (hv:c[j]? = some v):W.cell? ⟨b,j,none⟩=some v:=by simp [World.cell?,h,hv]
theorem frozen_of {W:World} {b j:Nat} {c:Array Value} {t:TypeId} (h:W.heap[b]? = some (.cells c t (0,0))):W.frozen? ⟨b,j,none⟩=false:=by simp [World.frozen?,h]
theorem alloc_new (w:World) (c:Array Value) (t:TypeId):(w.alloc (.cells c t)).heap[w.heap.size]? = some (.cells c t (0,0)):=by
 show (w.heap.push _)[w.heap.size]? = _
 exact Array.getElem?_push_size
theorem set_known {W:World} {b j:Nat} {c:Array Value} {t:TypeId} (v:Value) (h:W.heap[b]? = some (.cells c t (0,0))):(W.setCell ⟨b,j,none⟩ v).heap[b]? = some (.cells (c.setIfInBounds j v) t (0,0)):=heap_setCell_same W b j c t v h
theorem three_new (w:World) (a b c:Array Value) (t1 t2 t3:TypeId) (W:World) (h:W=((w.alloc (.cells a t1)).alloc (.cells b t2)).alloc (.cells c t3)):W.heap[w.heap.size]? = some (.cells a t1 (0,0))∧W.heap[w.heap.size+1]? = some (.cells b t2 (0,0))∧W.heap[w.heap.size+1+1]? = some (.cells c t3 (0,0))∧W.heap.size=w.heap.size+3∧Kb 0 w W:=by
 subst h
 have e1:(w.alloc (.cells a t1)).heap.size=w.heap.size+1:=World.size_alloc _ _
 have e2:((w.alloc (.cells a t1)).alloc (.cells b t2)).heap.size=w.heap.size+1+1:=by rw [World.size_alloc,e1]
 refine ⟨?_,?_,?_,by rw [World.size_alloc,e2],kb_alloc3 _ _ _ _ _⟩
 ·rw [(kb_alloc 0 _ _).block _ zq (by omega),(kb_alloc 0 _ _).block _ zq (by omega)]
  exact alloc_new _ _ _
 ·rw [(kb_alloc 0 _ _).block _ zq (by omega),← e1]
  exact alloc_new _ _ _
 ·rw [← e2]
  exact alloc_new _ _ _
structure Nv where
 k:Int
 l:Int
 o:Int
 m:Int
 g:Nat
 x:ByteArray
structure Nd where
 a:Nv
 p:Nat
 R:Nat→Int
 q:Nat
 K:Nat→Int
structure Fd where
 x:ByteArray
 l:Int
 m:Int
 r:Bool
 p:Nat
 V:Nat→ByteArray
 u:Nat
 U:Nat→Bool × Int
 n:Nat
 N:Nat→Nd
instance:Inhabited Nd:=⟨⟨⟨0,0,0,0,0,⟨#[]⟩⟩,0,fun _=>0,0,fun _=>0⟩⟩
instance:Inhabited Fd:=⟨⟨⟨#[]⟩,0,0,false,0,fun _=>⟨#[]⟩,0,fun _=>(false,0),0,fun _=>default⟩⟩
def ndv (a:Nv) (vr vk:Value):Value:=.agg #[.int .i64 a.k,.int .i64 a.l,.int .i64 a.o,.int .i64 a.m,.float .f64 a.g,.string a.x,vr,vk]
def upv (u:Bool × Int):Value:=.agg #[.bool u.1,.int .i64 u.2]
def fnv (f:Fd) (vv vu vn:Value):Value:=.agg #[.string f.x,.int .i64 f.l,.int .i64 f.m,.bool f.r,vv,vu,vn]
structure CelN (W:World) (b:Addr) (a:Nv) (vr vk:Value):Prop where
 c0:W.cell? b=some (.int .i64 a.k)
 c1:W.cell? ⟨b.block,b.off+1,none⟩=some (.int .i64 a.l)
 c2:W.cell? ⟨b.block,b.off+2,none⟩=some (.int .i64 a.o)
 c3:W.cell? ⟨b.block,b.off+3,none⟩=some (.int .i64 a.m)
 c4:W.cell? ⟨b.block,b.off+4,none⟩=some (.float .f64 a.g)
 c5:W.cell? ⟨b.block,b.off+5,none⟩=some (.string a.x)
 c6:W.cell? ⟨b.block,b.off+6,none⟩=some (vr)
 c7:W.cell? ⟨b.block,b.off+7,none⟩=some (vk)
theorem CelN.keep {W W':World} {c:Nat} {b:Addr} {a:Nv} {vr vk:Value} (h:CelN W b a vr vk) (hb:c≤b.block) (k:Kb c W W'):CelN W' b a vr vk :=
 ⟨k.cellA hb h.c0,k.cellA hb h.c1,k.cellA hb h.c2,k.cellA hb h.c3,k.cellA hb h.c4,k.cellA hb h.c5,k.cellA hb h.c6,k.cellA hb h.c7⟩
theorem CelN.of {W:World} {g o:Nat} {a:Nv} {vr vk:Value} (h:∀ t,t < 8→W.cell? ⟨g,o+t,none⟩=([.int .i64 a.k,.int .i64 a.l,.int .i64 a.o,.int .i64 a.m,.float .f64 a.g,.string a.x,vr,vk]:List Value)[t]?):CelN W ⟨g,o,none⟩ a vr vk :=
 ⟨h 0 (by omega),h 1 (by omega),h 2 (by omega),h 3 (by omega),h 4 (by omega),h 5 (by omega),h 6 (by omega),h 7 (by omega)⟩
structure CelU (W:World) (b:Addr) (u:Bool × Int):Prop where
 c0:W.cell? b=some (.bool u.1)
 c1:W.cell? ⟨b.block,b.off+1,none⟩=some (.int .i64 u.2)
theorem CelU.keep {W W':World} {c:Nat} {b:Addr} {u:Bool × Int} (h:CelU W b u) (hb:c≤b.block) (k:Kb c W W'):CelU W' b u :=
 ⟨k.cellA hb h.c0,k.cellA hb h.c1⟩
theorem CelU.of {W:World} {g o:Nat} {u:Bool × Int} (h:∀ t,t < 2→W.cell? ⟨g,o+t,none⟩=([.bool u.1,.int .i64 u.2]:List Value)[t]?):CelU W ⟨g,o,none⟩ u :=
 ⟨h 0 (by omega),h 1 (by omega)⟩
structure CelF (W:World) (b:Addr) (f:Fd) (vv vu vn:Value):Prop where
 c0:W.cell? b=some (.string f.x)
 c1:W.cell? ⟨b.block,b.off+1,none⟩=some (.int .i64 f.l)
 c2:W.cell? ⟨b.block,b.off+2,none⟩=some (.int .i64 f.m)
 c3:W.cell? ⟨b.block,b.off+3,none⟩=some (.bool f.r)
 c4:W.cell? ⟨b.block,b.off+4,none⟩=some (vv)
 c5:W.cell? ⟨b.block,b.off+5,none⟩=some (vu)
 c6:W.cell? ⟨b.block,b.off+6,none⟩=some (vn)
theorem CelF.keep {W W':World} {c:Nat} {b:Addr} {f:Fd} {vv vu vn:Value} (h:CelF W b f vv vu vn) (hb:c≤b.block) (k:Kb c W W'):CelF W' b f vv vu vn :=
 ⟨k.cellA hb h.c0,k.cellA hb h.c1,k.cellA hb h.c2,k.cellA hb h.c3,k.cellA hb h.c4,k.cellA hb h.c5,k.cellA hb h.c6⟩
theorem CelF.of {W:World} {g o:Nat} {f:Fd} {vv vu vn:Value} (h:∀ t,t < 7→W.cell? ⟨g,o+t,none⟩=([.string f.x,.int .i64 f.l,.int .i64 f.m,.bool f.r,vv,vu,vn]:List Value)[t]?):CelF W ⟨g,o,none⟩ f vv vu vn :=
 ⟨h 0 (by omega),h 1 (by omega),h 2 (by omega),h 3 (by omega),h 4 (by omega),h 5 (by omega),h 6 (by omega)⟩
def NodeC (b:Nat) (W:World) (p:Addr) (g:Nd):Prop:=∃ vr vk,CelN W p g.a vr vk∧RowB b W vr g.p (fun i=>.int .i64 (g.R i))∧RowB b W vk g.q (fun i=>.int .i64 (g.K i))
theorem NodeC.keep {b:Nat} {W W':World} {p:Addr} {g:Nd} (h:NodeC b W p g) (hb:b≤p.block) (k:Kb b W W'):NodeC b W' p g:=by
 obtain ⟨vr,vk,h1,h2,h3⟩:=h
 exact ⟨vr,vk,h1.keep hb k,h2.keep k,h3.keep k⟩
theorem NodeC.mono {b c:Nat} {W:World} {p:Addr} {g:Nd} (h:NodeC b W p g) (hc:c≤b):NodeC c W p g:=by
 obtain ⟨vr,vk,h1,h2,h3⟩:=h
 exact ⟨vr,vk,h1,h2.mono hc,h3.mono hc⟩
def UpC (b:Nat) (W:World) (p:Addr) (u:Bool × Int):Prop:=CelU W p u
theorem UpC.keep {b:Nat} {W W':World} {p:Addr} {u:Bool × Int} (h:UpC b W p u) (hb:b≤p.block) (k:Kb b W W'):UpC b W' p u:=CelU.keep h hb k
theorem UpC.mono {b c:Nat} {W:World} {p:Addr} {u:Bool × Int} (h:UpC b W p u) (hc:c≤b):UpC c W p u:=h
def RowN (b:Nat) (W:World) (v:Value) (n:Nat) (N:Nat→Nd):Prop :=
 ∃ pa cap,v = .slice pa n cap∧(0 < n→∃ a:Addr,pa=some a∧n≤cap∧b≤a.block∧∀ i,i < n→NodeC b W (a.add (i*8)) (N i))
theorem RowN.keep {b:Nat} {W W':World} {v:Value} {n:Nat} {N:Nat→Nd} (h:RowN b W v n N) (k:Kb b W W'):RowN b W' v n N:=by
 obtain ⟨pa,cap,h1,h2⟩:=h
 refine ⟨pa,cap,h1,fun hn=>?_⟩
 obtain ⟨a,e1,e2,e0,e3⟩:=h2 hn
 exact ⟨a,e1,e2,e0,fun i hi=>(e3 i hi).keep (by rw [add_block];exact e0) k⟩
theorem RowN.mono {b c:Nat} {W:World} {v:Value} {n:Nat} {N:Nat→Nd} (h:RowN b W v n N) (hc:c≤b):RowN c W v n N:=by
 obtain ⟨pa,cap,h1,h2⟩:=h
 refine ⟨pa,cap,h1,fun hn=>?_⟩
 obtain ⟨a,e1,e2,e0,e3⟩:=h2 hn
 exact ⟨a,e1,e2,Nat.le_trans hc e0,fun i hi=>(e3 i hi).mono hc⟩
def RowU (b:Nat) (W:World) (v:Value) (n:Nat) (U:Nat→Bool × Int):Prop :=
 ∃ pa cap,v = .slice pa n cap∧(0 < n→∃ a:Addr,pa=some a∧n≤cap∧b≤a.block∧∀ i,i < n→UpC b W (a.add (i*2)) (U i))
theorem RowU.keep {b:Nat} {W W':World} {v:Value} {n:Nat} {U:Nat→Bool × Int} (h:RowU b W v n U) (k:Kb b W W'):RowU b W' v n U:=by
 obtain ⟨pa,cap,h1,h2⟩:=h
 refine ⟨pa,cap,h1,fun hn=>?_⟩
 obtain ⟨a,e1,e2,e0,e3⟩:=h2 hn
 exact ⟨a,e1,e2,e0,fun i hi=>(e3 i hi).keep (by rw [add_block];exact e0) k⟩
theorem RowU.mono {b c:Nat} {W:World} {v:Value} {n:Nat} {U:Nat→Bool × Int} (h:RowU b W v n U) (hc:c≤b):RowU c W v n U:=by
 obtain ⟨pa,cap,h1,h2⟩:=h
 refine ⟨pa,cap,h1,fun hn=>?_⟩
 obtain ⟨a,e1,e2,e0,e3⟩:=h2 hn
 exact ⟨a,e1,e2,Nat.le_trans hc e0,fun i hi=>(e3 i hi).mono hc⟩
def FnC (b:Nat) (W:World) (p:Addr) (f:Fd):Prop:=∃ vv vu vn,CelF W p f vv vu vn∧RowB b W vv f.p (fun i=>.string (f.V i))∧RowU b W vu f.u f.U∧RowN b W vn f.n f.N
theorem FnC.keep {b:Nat} {W W':World} {p:Addr} {g:Fd} (h:FnC b W p g) (hb:b≤p.block) (k:Kb b W W'):FnC b W' p g:=by
 obtain ⟨vr,vk,vn,h1,h2,h3,h4⟩:=h
 exact ⟨vr,vk,vn,h1.keep hb k,h2.keep k,h3.keep k,h4.keep k⟩
theorem FnC.mono {b c:Nat} {W:World} {p:Addr} {g:Fd} (h:FnC b W p g) (hc:c≤b):FnC c W p g:=by
 obtain ⟨vr,vk,vn,h1,h2,h3,h4⟩:=h
 exact ⟨vr,vk,vn,h1,h2.mono hc,h3.mono hc,h4.mono hc⟩
def RowF (b:Nat) (W:World) (v:Value) (n:Nat) (F:Nat→Fd):Prop :=
 ∃ pa cap,v = .slice pa n cap∧(0 < n→∃ a:Addr,pa=some a∧n≤cap∧b≤a.block∧∀ i,i < n→FnC b W (a.add (i*7)) (F i))
theorem RowF.keep {b:Nat} {W W':World} {v:Value} {n:Nat} {F:Nat→Fd} (h:RowF b W v n F) (k:Kb b W W'):RowF b W' v n F:=by
 obtain ⟨pa,cap,h1,h2⟩:=h
 refine ⟨pa,cap,h1,fun hn=>?_⟩
 obtain ⟨a,e1,e2,e0,e3⟩:=h2 hn
 exact ⟨a,e1,e2,e0,fun i hi=>(e3 i hi).keep (by rw [add_block];exact e0) k⟩
theorem RowF.mono {b c:Nat} {W:World} {v:Value} {n:Nat} {F:Nat→Fd} (h:RowF b W v n F) (hc:c≤b):RowF c W v n F:=by
 obtain ⟨pa,cap,h1,h2⟩:=h
 refine ⟨pa,cap,h1,fun hn=>?_⟩
 obtain ⟨a,e1,e2,e0,e3⟩:=h2 hn
 exact ⟨a,e1,e2,Nat.le_trans hc e0,fun i hi=>(e3 i hi).mono hc⟩
def sm (s:Nat→Nat):Nat→Nat
 | 0=>0
 | i+1=>sm s i+s i
theorem sm_mono (s:Nat→Nat) {i n:Nat} (h:i≤n):sm s i≤sm s n:=by
  induction n with
  | zero => obtain rfl : i = 0 := by omega
            exact Nat.le_refl _
  | succ n ih =>
    by_cases e:i=n+1
    · subst e;exact Nat.le_refl _
    · have:=ih (by omega)
      show _≤sm s n+s n
      omega
theorem sm_one (s:Nat→Nat) {i n:Nat} (h:i < n):s i≤sm s n:=by
 have:=sm_mono s (show i+1≤n from h)
 have e:sm s (i+1)=sm s i+s i:=rfl
 omega
def Szd (s:Nat) (l:Int) (W:World):Ending→World→Prop:=fun e w'=>∃ r:Int,e = .returned (.int .i64 r)∧(0≤r→r+(s:Int)≤l) ∧ -1≤r∧r≤l∧Kb 0 W w'
theorem szd_ints {va : Value} {n : Nat} {A : Nat → Value} (w : World) (l : Int) (ha : RowV w va n A) (hn : (n : Int) < 140737488355328) (hl0 : 0 ≤ l) (hl : l ≤ 1048576) :
  Calls Tryz.prog 70 #[va,.int .i64 l] w (Szd n l w):=by
 refine (sz_ints w l ha hn hl0 hl).mono ?_
 rintro e w' ⟨rfl,rfl⟩
 exact ⟨_,rfl,by split <;> omega,by split <;> omega,by split <;> omega,Kb.refl _ _⟩
theorem szd_strs {va : Value} {n : Nat} {A : Nat → ByteArray} (w : World) (l : Int) (ha : RowV w va n (fun i => .string (A i))) (hn : (n : Int) < 140737488355328) (hA : ∀ i, i < n → ((A i).size : Int) < 140737488355328) (hl0 : 0 ≤ l) (hl : l ≤ 1048576) :
  Calls Tryz.prog 33 #[va,.int .i64 l] w (Szd n l w):=by
 refine (sz_strs w l ha hn hA hl0 hl).mono ?_
 rintro e w' ⟨rfl,rfl⟩
 have:=lfs_le A (l - n) n
 exact ⟨_,rfl,by split <;> omega,by split <;> omega,by split <;> omega,Kb.refl _ _⟩
theorem szd_ups {va : Value} {n : Nat} {A : Nat → Bool × Int} (w : World) (l : Int) (ha : RowU 0 w va n A) (hn : (n : Int) < 140737488355328) (hl0 : 0 ≤ l) (hl : l ≤ 1048576) :
  Calls Tryz.prog 34 #[va,.int .i64 l] w (Szd n l w):=by
 obtain ⟨pa,ca,rfl,-⟩:=ha
 go_enter Tryz.func34,Tryz.ntmps34
 rcases Int.lt_or_le (l - n) 0 with h | h
 ·go_wp2_with fail
  go_ret
  exact ⟨-1,rfl,by omega,by omega,by omega,Kb.refl _ _⟩
 ·have h':¬ (l - n < 0):=by omega
  go_wp2_with fail
  go_ret
  exact ⟨_,rfl,by omega,by omega,by omega,Kb.refl _ _⟩
theorem sz_node {a : Nv} {vr vk : Value} {p q : Nat} (w : World) (l : Int) (hx : (a.x.size : Int) < 140737488355328)
  (g0:∀ W (l:Int),Kb 0 w W→0≤l→l≤1048576→Calls Tryz.prog 70 #[vr,.int .i64 l] W (Szd p l W))
  (g1:∀ W (l:Int),Kb 0 w W→0≤l→l≤1048576→Calls Tryz.prog 70 #[vk,.int .i64 l] W (Szd q l W)) (hl0 : 0≤l) (hl:l≤1048576) :
  Calls Tryz.prog 51 #[ndv a vr vk,.int .i64 l] w (Szd (a.x.size+p+q) l w):=by
 unfold ndv
 have G0:Hid (∀ W (l:Int),Kb 0 w W→0≤l→l≤1048576→Calls Tryz.prog 70 #[vr,.int .i64 l] W (Szd p l W)):=g0
 have G1:Hid (∀ W (l:Int),Kb 0 w W→0≤l→l≤1048576→Calls Tryz.prog 70 #[vk,.int .i64 l] W (Szd q l W)):=g1
 clear g0 g1
 have hs0:(0:Int)≤(a.x.size:Int):=Int.natCast_nonneg _
 generalize hX:a.x.size=X at *
 go_enter Tryz.func51,Tryz.ntmps51
 rcases Int.lt_or_le (l - (X:Int)) 0 with c | c
 ·clear G0 G1
  go_wp2_with fail
  go_ret
  exact ⟨-1,rfl,fun h=>by omega,by omega,by omega,kb_alloc _ _ _⟩
 ·have c':¬ (l - (X:Int) < 0):=by omega
  go_wp2_with fail
  refine ((show ∀ W (l:Int),Kb 0 w W→0≤l→l≤1048576→Calls Tryz.prog 70 #[vr,.int .i64 l] W (Szd p l W) from G0) _ _ (kb_alloc _ _ _) c (by omega)).mono ?_
  rintro e w1 ⟨r0,rfl,s0,m0,t0,k0⟩
  have HK0:Hid (Kb 0 w w1):=(kb_alloc _ _ _).trans k0
  have d0_0:w1.cell? ⟨w.heap.size,0,none⟩=some (.int .i64 a.k):=k0.cell (cell_of (alloc_new w #[.int .i64 a.k,.int .i64 a.l,.int .i64 a.o,.int .i64 a.m,.float .f64 a.g,.string a.x,vr,vk] _) rfl)
  have d0_1:w1.cell? ⟨w.heap.size,1,none⟩=some (.int .i64 a.l):=k0.cell (cell_of (alloc_new w #[.int .i64 a.k,.int .i64 a.l,.int .i64 a.o,.int .i64 a.m,.float .f64 a.g,.string a.x,vr,vk] _) rfl)
  have d0_2:w1.cell? ⟨w.heap.size,2,none⟩=some (.int .i64 a.o):=k0.cell (cell_of (alloc_new w #[.int .i64 a.k,.int .i64 a.l,.int .i64 a.o,.int .i64 a.m,.float .f64 a.g,.string a.x,vr,vk] _) rfl)
  have d0_3:w1.cell? ⟨w.heap.size,3,none⟩=some (.int .i64 a.m):=k0.cell (cell_of (alloc_new w #[.int .i64 a.k,.int .i64 a.l,.int .i64 a.o,.int .i64 a.m,.float .f64 a.g,.string a.x,vr,vk] _) rfl)
  have d0_4:w1.cell? ⟨w.heap.size,4,none⟩=some (.float .f64 a.g):=k0.cell (cell_of (alloc_new w #[.int .i64 a.k,.int .i64 a.l,.int .i64 a.o,.int .i64 a.m,.float .f64 a.g,.string a.x,vr,vk] _) rfl)
  have d0_5:w1.cell? ⟨w.heap.size,5,none⟩=some (.string a.x):=k0.cell (cell_of (alloc_new w #[.int .i64 a.k,.int .i64 a.l,.int .i64 a.o,.int .i64 a.m,.float .f64 a.g,.string a.x,vr,vk] _) rfl)
  have d0_6:w1.cell? ⟨w.heap.size,6,none⟩=some (vr):=k0.cell (cell_of (alloc_new w #[.int .i64 a.k,.int .i64 a.l,.int .i64 a.o,.int .i64 a.m,.float .f64 a.g,.string a.x,vr,vk] _) rfl)
  have d0_7:w1.cell? ⟨w.heap.size,7,none⟩=some (vk):=k0.cell (cell_of (alloc_new w #[.int .i64 a.k,.int .i64 a.l,.int .i64 a.o,.int .i64 a.m,.float .f64 a.g,.string a.x,vr,vk] _) rfl)
  have HS0:Hid ((0≤r0→r0+(p:Int)≤l - (X:Int)) ∧ -1≤r0∧r0≤l - (X:Int)∧0≤l∧l≤1048576∧0≤l - (X:Int)∧0≤(X:Int)):=(⟨s0,m0,t0,hl0,hl,c,hs0⟩:_∧_)
  clear k0 s0 m0 t0 G0 hl0 hl c c' hs0 hx hX
  rcases Int.lt_or_le r0 0 with c0 | c0
  ·clear G1
   go_wp2_with fail
   go_ret
   obtain ⟨q0a,q0b,q0c,q0d⟩:=(uh HS0)
   exact ⟨-1,rfl,fun h=>by omega,by omega,by omega,HK0⟩
  ·have c0':¬ (r0 < 0):=by omega
   go_wp2_with fail
   refine ((show ∀ W (l:Int),Kb 0 w W→0≤l→l≤1048576→Calls Tryz.prog 70 #[vk,.int .i64 l] W (Szd q l W) from G1) _ r0 HK0 c0 (by obtain ⟨q0a,q0b,q0c,q0d⟩:=(uh HS0);omega)).mono ?_
   rintro e w2 ⟨r1,rfl,s1,m1,t1,k1⟩
   have HK1:Hid (Kb 0 w w2):=(uh HK0).trans k1
   have d1_0:w2.cell? ⟨w.heap.size,0,none⟩=some (.int .i64 a.k):=k1.cell (d0_0)
   have d1_1:w2.cell? ⟨w.heap.size,1,none⟩=some (.int .i64 a.l):=k1.cell (d0_1)
   have d1_2:w2.cell? ⟨w.heap.size,2,none⟩=some (.int .i64 a.o):=k1.cell (d0_2)
   have d1_3:w2.cell? ⟨w.heap.size,3,none⟩=some (.int .i64 a.m):=k1.cell (d0_3)
   have d1_4:w2.cell? ⟨w.heap.size,4,none⟩=some (.float .f64 a.g):=k1.cell (d0_4)
   have d1_5:w2.cell? ⟨w.heap.size,5,none⟩=some (.string a.x):=k1.cell (d0_5)
   have d1_6:w2.cell? ⟨w.heap.size,6,none⟩=some (vr):=k1.cell (d0_6)
   have d1_7:w2.cell? ⟨w.heap.size,7,none⟩=some (vk):=k1.cell (d0_7)
   clear d0_0 d0_1 d0_2 d0_3 d0_4 d0_5 d0_6 d0_7
   have HS1:Hid ((0≤r1→r1+(q:Int)≤r0) ∧ -1≤r1∧r1≤r0∧0≤r0):=(⟨s1,m1,t1,c0⟩:_∧_)
   clear k1 s1 m1 t1 G1 HK0 c0 c0'
   rcases Int.lt_or_le r1 0 with c1 | c1
   ·skip
    go_wp2_with fail
    go_ret
    obtain ⟨q0a,q0b,q0c,q0d⟩:=(uh HS0);obtain ⟨q1a,q1b,q1c,q1d⟩:=(uh HS1)
    exact ⟨-1,rfl,fun h=>by omega,by omega,by omega,HK1⟩
   ·have c1':¬ (r1 < 0):=by omega
    go_wp2_with fail
    go_ret
    obtain ⟨q0a,q0b,q0c,q0d⟩:=(uh HS0);obtain ⟨q1a,q1b,q1c,q1d⟩:=(uh HS1)
    exact ⟨r1,rfl,fun h=>by have:=q0a (by omega);have:=q1a (by omega);omega,by omega,by omega,HK1⟩
theorem sz_fn {f : Fd} {vv vu vn : Value} {p q t : Nat} (w : World) (l : Int) (hx : (f.x.size : Int) < 140737488355328)
  (g0:∀ W (l:Int),Kb 0 w W→0≤l→l≤1048576→Calls Tryz.prog 33 #[vv,.int .i64 l] W (Szd p l W))
  (g1:∀ W (l:Int),Kb 0 w W→0≤l→l≤1048576→Calls Tryz.prog 34 #[vu,.int .i64 l] W (Szd q l W))
  (g2:∀ W (l:Int),Kb 0 w W→0≤l→l≤1048576→Calls Tryz.prog 35 #[vn,.int .i64 l] W (Szd t l W)) (hl0 : 0≤l) (hl:l≤1048576) :
  Calls Tryz.prog 21 #[fnv f vv vu vn,.int .i64 l] w (Szd (f.x.size+p+q+t) l w):=by
 unfold fnv
 have G0:Hid (∀ W (l:Int),Kb 0 w W→0≤l→l≤1048576→Calls Tryz.prog 33 #[vv,.int .i64 l] W (Szd p l W)):=g0
 have G1:Hid (∀ W (l:Int),Kb 0 w W→0≤l→l≤1048576→Calls Tryz.prog 34 #[vu,.int .i64 l] W (Szd q l W)):=g1
 have G2:Hid (∀ W (l:Int),Kb 0 w W→0≤l→l≤1048576→Calls Tryz.prog 35 #[vn,.int .i64 l] W (Szd t l W)):=g2
 clear g0 g1 g2
 have hs0:(0:Int)≤(f.x.size:Int):=Int.natCast_nonneg _
 generalize hX:f.x.size=X at *
 go_enter Tryz.func21,Tryz.ntmps21
 rcases Int.lt_or_le (l - (X:Int)) 0 with c | c
 ·clear G0 G1 G2
  go_wp2_with fail
  go_ret
  exact ⟨-1,rfl,fun h=>by omega,by omega,by omega,kb_alloc _ _ _⟩
 ·have c':¬ (l - (X:Int) < 0):=by omega
  go_wp2_with fail
  refine ((show ∀ W (l:Int),Kb 0 w W→0≤l→l≤1048576→Calls Tryz.prog 33 #[vv,.int .i64 l] W (Szd p l W) from G0) _ _ (kb_alloc _ _ _) c (by omega)).mono ?_
  rintro e w1 ⟨r0,rfl,s0,m0,t0,k0⟩
  have HK0:Hid (Kb 0 w w1):=(kb_alloc _ _ _).trans k0
  have d0_0:w1.cell? ⟨w.heap.size,0,none⟩=some (.string f.x):=k0.cell (cell_of (alloc_new w #[.string f.x,.int .i64 f.l,.int .i64 f.m,.bool f.r,vv,vu,vn] _) rfl)
  have d0_1:w1.cell? ⟨w.heap.size,1,none⟩=some (.int .i64 f.l):=k0.cell (cell_of (alloc_new w #[.string f.x,.int .i64 f.l,.int .i64 f.m,.bool f.r,vv,vu,vn] _) rfl)
  have d0_2:w1.cell? ⟨w.heap.size,2,none⟩=some (.int .i64 f.m):=k0.cell (cell_of (alloc_new w #[.string f.x,.int .i64 f.l,.int .i64 f.m,.bool f.r,vv,vu,vn] _) rfl)
  have d0_3:w1.cell? ⟨w.heap.size,3,none⟩=some (.bool f.r):=k0.cell (cell_of (alloc_new w #[.string f.x,.int .i64 f.l,.int .i64 f.m,.bool f.r,vv,vu,vn] _) rfl)
  have d0_4:w1.cell? ⟨w.heap.size,4,none⟩=some (vv):=k0.cell (cell_of (alloc_new w #[.string f.x,.int .i64 f.l,.int .i64 f.m,.bool f.r,vv,vu,vn] _) rfl)
  have d0_5:w1.cell? ⟨w.heap.size,5,none⟩=some (vu):=k0.cell (cell_of (alloc_new w #[.string f.x,.int .i64 f.l,.int .i64 f.m,.bool f.r,vv,vu,vn] _) rfl)
  have d0_6:w1.cell? ⟨w.heap.size,6,none⟩=some (vn):=k0.cell (cell_of (alloc_new w #[.string f.x,.int .i64 f.l,.int .i64 f.m,.bool f.r,vv,vu,vn] _) rfl)
  have HS0:Hid ((0≤r0→r0+(p:Int)≤l - (X:Int)) ∧ -1≤r0∧r0≤l - (X:Int)∧0≤l∧l≤1048576∧0≤l - (X:Int)∧0≤(X:Int)):=(⟨s0,m0,t0,hl0,hl,c,hs0⟩:_∧_)
  clear k0 s0 m0 t0 G0 hl0 hl c c' hs0 hx hX
  rcases Int.lt_or_le r0 0 with c0 | c0
  ·clear G1 G2
   go_wp2_with fail
   go_ret
   obtain ⟨q0a,q0b,q0c,q0d⟩:=(uh HS0)
   exact ⟨-1,rfl,fun h=>by omega,by omega,by omega,HK0⟩
  ·have c0':¬ (r0 < 0):=by omega
   go_wp2_with fail
   refine ((show ∀ W (l:Int),Kb 0 w W→0≤l→l≤1048576→Calls Tryz.prog 34 #[vu,.int .i64 l] W (Szd q l W) from G1) _ r0 HK0 c0 (by obtain ⟨q0a,q0b,q0c,q0d⟩:=(uh HS0);omega)).mono ?_
   rintro e w2 ⟨r1,rfl,s1,m1,t1,k1⟩
   have HK1:Hid (Kb 0 w w2):=(uh HK0).trans k1
   have d1_0:w2.cell? ⟨w.heap.size,0,none⟩=some (.string f.x):=k1.cell (d0_0)
   have d1_1:w2.cell? ⟨w.heap.size,1,none⟩=some (.int .i64 f.l):=k1.cell (d0_1)
   have d1_2:w2.cell? ⟨w.heap.size,2,none⟩=some (.int .i64 f.m):=k1.cell (d0_2)
   have d1_3:w2.cell? ⟨w.heap.size,3,none⟩=some (.bool f.r):=k1.cell (d0_3)
   have d1_4:w2.cell? ⟨w.heap.size,4,none⟩=some (vv):=k1.cell (d0_4)
   have d1_5:w2.cell? ⟨w.heap.size,5,none⟩=some (vu):=k1.cell (d0_5)
   have d1_6:w2.cell? ⟨w.heap.size,6,none⟩=some (vn):=k1.cell (d0_6)
   clear d0_0 d0_1 d0_2 d0_3 d0_4 d0_5 d0_6
   have HS1:Hid ((0≤r1→r1+(q:Int)≤r0) ∧ -1≤r1∧r1≤r0∧0≤r0):=(⟨s1,m1,t1,c0⟩:_∧_)
   clear k1 s1 m1 t1 G1 HK0 c0 c0'
   rcases Int.lt_or_le r1 0 with c1 | c1
   ·clear G2
    go_wp2_with fail
    go_ret
    obtain ⟨q0a,q0b,q0c,q0d⟩:=(uh HS0);obtain ⟨q1a,q1b,q1c,q1d⟩:=(uh HS1)
    exact ⟨-1,rfl,fun h=>by omega,by omega,by omega,HK1⟩
   ·have c1':¬ (r1 < 0):=by omega
    go_wp2_with fail
    refine ((show ∀ W (l:Int),Kb 0 w W→0≤l→l≤1048576→Calls Tryz.prog 35 #[vn,.int .i64 l] W (Szd t l W) from G2) _ r1 HK1 c1 (by obtain ⟨q0a,q0b,q0c,q0d⟩:=(uh HS0);obtain ⟨q1a,q1b,q1c,q1d⟩:=(uh HS1);omega)).mono ?_
    rintro e w3 ⟨r2,rfl,s2,m2,t2,k2⟩
    have HK2:Hid (Kb 0 w w3):=(uh HK1).trans k2
    have d2_0:w3.cell? ⟨w.heap.size,0,none⟩=some (.string f.x):=k2.cell (d1_0)
    have d2_1:w3.cell? ⟨w.heap.size,1,none⟩=some (.int .i64 f.l):=k2.cell (d1_1)
    have d2_2:w3.cell? ⟨w.heap.size,2,none⟩=some (.int .i64 f.m):=k2.cell (d1_2)
    have d2_3:w3.cell? ⟨w.heap.size,3,none⟩=some (.bool f.r):=k2.cell (d1_3)
    have d2_4:w3.cell? ⟨w.heap.size,4,none⟩=some (vv):=k2.cell (d1_4)
    have d2_5:w3.cell? ⟨w.heap.size,5,none⟩=some (vu):=k2.cell (d1_5)
    have d2_6:w3.cell? ⟨w.heap.size,6,none⟩=some (vn):=k2.cell (d1_6)
    clear d1_0 d1_1 d1_2 d1_3 d1_4 d1_5 d1_6
    have HS2:Hid ((0≤r2→r2+(t:Int)≤r1) ∧ -1≤r2∧r2≤r1∧0≤r1):=(⟨s2,m2,t2,c1⟩:_∧_)
    clear k2 s2 m2 t2 G2 HK1 c1 c1'
    rcases Int.lt_or_le r2 0 with c2 | c2
    ·skip
     go_wp2_with fail
     go_ret
     obtain ⟨q0a,q0b,q0c,q0d⟩:=(uh HS0);obtain ⟨q1a,q1b,q1c,q1d⟩:=(uh HS1);obtain ⟨q2a,q2b,q2c,q2d⟩:=(uh HS2)
     exact ⟨-1,rfl,fun h=>by omega,by omega,by omega,HK2⟩
    ·have c2':¬ (r2 < 0):=by omega
     go_wp2_with fail
     go_ret
     obtain ⟨q0a,q0b,q0c,q0d⟩:=(uh HS0);obtain ⟨q1a,q1b,q1c,q1d⟩:=(uh HS1);obtain ⟨q2a,q2b,q2c,q2d⟩:=(uh HS2)
     exact ⟨r2,rfl,fun h=>by have:=q0a (by omega);have:=q1a (by omega);have:=q2a (by omega);omega,by omega,by omega,HK2⟩
theorem szr_nodes {pa : Option Addr} {n ca : Nat} {N : Nat → Nd} {vr vk : Nat → Value} {s : Nat → Nat} (w : World) (l : Int) (hn : (n : Int) < 140737488355328)
  (ha : 0 < n→∃ a:Addr,pa=some a∧n≤ca∧∀ i,i < n→CelN w (a.add (i*8)) (N i).a (vr i) (vk i))
  (he:∀ i,i < n→∀ W (l:Int),Kb 0 w W→0≤l→l≤1048576→Calls Tryz.prog 51 #[ndv (N i).a (vr i) (vk i),.int .i64 l] W (Szd (s i) l W)) (hl0 : 0≤l) (hl:l≤1048576) :
  Calls Tryz.prog 35 #[.slice pa n ca,.int .i64 l] w (Szd (n+sm s n) l w):=by
 have HA:Hid ((0 < n→∃ a:Addr,pa=some a∧n≤ca∧∀ i,i < n→CelN w (a.add (i*8)) (N i).a (vr i) (vk i))∧∀ i,i < n→∀ W (l:Int),Kb 0 w W→0≤l→l≤1048576→Calls Tryz.prog 51 #[ndv (N i).a (vr i) (vk i),.int .i64 l] W (Szd (s i) l W)):=(⟨ha,he⟩:_∧_)
 clear ha he
 go_enter Tryz.func35,Tryz.ntmps35
 rcases Int.lt_or_le (l - n) 0 with h | h
 ·clear HA
  go_wp2_with fail
  go_ret
  exact ⟨-1,rfl,fun f=>by omega,by omega,by omega,Kb.refl _ _⟩
 ·have h':¬ (l - n < 0):=by omega
  go_wp2_with fail
  go_loopw [1,5] (fun s1 s5 wr=>∃ (i:Nat) (x:Int),s1 = .int .i64 x∧s5 = .int .i64 (i:Int)∧i≤n∧0≤x∧x≤l∧Hid (x+(n:Int)+(sm s i:Int)≤l∧Kb 0 w wr)) (fun _ s5 _=>n - (intOf s5).toNat)
  case atStart=>exact ⟨0,l - n,rfl,rfl,Nat.zero_le _,by omega,by omega,(⟨by show l - n+n+((0:Nat):Int)≤l;omega,Kb.refl _ _⟩:_∧_)⟩
  case round =>
   obtain ⟨i,x,rfl,rfl,hin,hx0,hx1,HX⟩:=hrel
   rcases Nat.lt_or_ge i n with hi | hi
   ·have hA:=(uh HA)
    have hX:=(uh HX)
    obtain ⟨a,rfl,hca,hra⟩:=hA.1 (by omega)
    obtain ⟨d0,d1,d2,d3,d4,d5,d6,d7⟩:=(hra i hi).keep zq hX.2
    have HS:Hid (Calls Tryz.prog 51 #[ndv (N i).a (vr i) (vk i),.int .i64 x] wr (Szd (s i) x wr)):=hA.2 i hi wr x hX.2 hx0 (by omega)
    have hiI:(i:Int) < (n:Int):=by omega
    clear hA hX hra HA hin
    go_wp2_with fail
    refine (uh HS).mono ?_
    rintro e w6 ⟨r,rfl,hs,hm1,hr1,hb6⟩
    have hX:=(uh HX)
    have HB6:Hid ((0≤r→r+(n:Int)+(sm s (i+1):Int)≤l)∧Kb 0 w w6):=(⟨fun h=>by
     have:=hs h
     have:=hX.1
     show r+(n:Int)+((sm s i+s i:Nat):Int)≤l
     omega,hX.2.trans hb6⟩:_∧_)
    clear HS HX hX hb6 hs d0 d1 d2 d3 d4 d5 d6 d7
    rcases Int.lt_or_le r 0 with hr0 | hr0
    ·go_wp2_with fail
     go_ret
     exact ⟨-1,rfl,fun f=>by omega,by omega,by omega,HB6.2⟩
    ·have hr0':¬ (r < 0):=by omega
     have hr2:r≤l:=by omega
     have hnI:(n:Int)≤1048576:=by omega
     clear hn h h' hm1 hx0 hx1 hr1
     go_wp2_with fail
     go_roundw
     case rel=>exact ⟨i+1,r,rfl,by go_num,by omega,hr0,hr2,(⟨HB6.1 hr0,HB6.2⟩:_∧_)⟩
     case measure=>simp [intOf];omega
   ·obtain rfl:i=n:=by omega
    clear HA
    go_wp2_with fail
    go_ret
    have hX:=(uh HX)
    exact ⟨x,rfl,fun _=>by have:=hX.1;omega,by omega,hx1,hX.2⟩
theorem szr_fns {pa : Option Addr} {n ca : Nat} {F : Nat → Fd} {vv vu vn : Nat → Value} {s : Nat → Nat} (w : World) (l : Int) (hn : (n : Int) < 140737488355328)
  (ha : 0 < n→∃ a:Addr,pa=some a∧n≤ca∧∀ i,i < n→CelF w (a.add (i*7)) (F i) (vv i) (vu i) (vn i))
  (he:∀ i,i < n→∀ W (l:Int),Kb 0 w W→0≤l→l≤1048576→Calls Tryz.prog 21 #[fnv (F i) (vv i) (vu i) (vn i),.int .i64 l] W (Szd (s i) l W)) (hl0 : 0≤l) (hl:l≤1048576) :
  Calls Tryz.prog 13 #[.slice pa n ca,.int .i64 l] w (Szd (n+sm s n) l w):=by
 have HA:Hid ((0 < n→∃ a:Addr,pa=some a∧n≤ca∧∀ i,i < n→CelF w (a.add (i*7)) (F i) (vv i) (vu i) (vn i))∧∀ i,i < n→∀ W (l:Int),Kb 0 w W→0≤l→l≤1048576→Calls Tryz.prog 21 #[fnv (F i) (vv i) (vu i) (vn i),.int .i64 l] W (Szd (s i) l W)):=(⟨ha,he⟩:_∧_)
 clear ha he
 go_enter Tryz.func13,Tryz.ntmps13
 rcases Int.lt_or_le (l - n) 0 with h | h
 ·clear HA
  go_wp2_with fail
  go_ret
  exact ⟨-1,rfl,fun f=>by omega,by omega,by omega,Kb.refl _ _⟩
 ·have h':¬ (l - n < 0):=by omega
  go_wp2_with fail
  go_loopw [1,5] (fun s1 s5 wr=>∃ (i:Nat) (x:Int),s1 = .int .i64 x∧s5 = .int .i64 (i:Int)∧i≤n∧0≤x∧x≤l∧Hid (x+(n:Int)+(sm s i:Int)≤l∧Kb 0 w wr)) (fun _ s5 _=>n - (intOf s5).toNat)
  case atStart=>exact ⟨0,l - n,rfl,rfl,Nat.zero_le _,by omega,by omega,(⟨by show l - n+n+((0:Nat):Int)≤l;omega,Kb.refl _ _⟩:_∧_)⟩
  case round =>
   obtain ⟨i,x,rfl,rfl,hin,hx0,hx1,HX⟩:=hrel
   rcases Nat.lt_or_ge i n with hi | hi
   ·have hA:=(uh HA)
    have hX:=(uh HX)
    obtain ⟨a,rfl,hca,hra⟩:=hA.1 (by omega)
    obtain ⟨d0,d1,d2,d3,d4,d5,d6⟩:=(hra i hi).keep zq hX.2
    have HS:Hid (Calls Tryz.prog 21 #[fnv (F i) (vv i) (vu i) (vn i),.int .i64 x] wr (Szd (s i) x wr)):=hA.2 i hi wr x hX.2 hx0 (by omega)
    have hiI:(i:Int) < (n:Int):=by omega
    clear hA hX hra HA hin
    go_wp2_with fail
    refine (uh HS).mono ?_
    rintro e w6 ⟨r,rfl,hs,hm1,hr1,hb6⟩
    have hX:=(uh HX)
    have HB6:Hid ((0≤r→r+(n:Int)+(sm s (i+1):Int)≤l)∧Kb 0 w w6):=(⟨fun h=>by
     have:=hs h
     have:=hX.1
     show r+(n:Int)+((sm s i+s i:Nat):Int)≤l
     omega,hX.2.trans hb6⟩:_∧_)
    clear HS HX hX hb6 hs d0 d1 d2 d3 d4 d5 d6
    rcases Int.lt_or_le r 0 with hr0 | hr0
    ·go_wp2_with fail
     go_ret
     exact ⟨-1,rfl,fun f=>by omega,by omega,by omega,HB6.2⟩
    ·have hr0':¬ (r < 0):=by omega
     have hr2:r≤l:=by omega
     have hnI:(n:Int)≤1048576:=by omega
     clear hn h h' hm1 hx0 hx1 hr1
     go_wp2_with fail
     go_roundw
     case rel=>exact ⟨i+1,r,rfl,by go_num,by omega,hr0,hr2,(⟨HB6.1 hr0,HB6.2⟩:_∧_)⟩
     case measure=>simp [intOf];omega
   ·obtain rfl:i=n:=by omega
    clear HA
    go_wp2_with fail
    go_ret
    have hX:=(uh HX)
    exact ⟨x,rfl,fun _=>by have:=hX.1;omega,by omega,hx1,hX.2⟩
end Go.Proofs.YtfpidccjcemcjaaGreat.Fo
