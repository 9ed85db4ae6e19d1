import Derived.Test.YtamcnmnaadpfoaaFBab
import Derived.Test.YtamcnmnaadpfoaaFFlt
import Derived.Deep.Slices
import Derived.SizedLaws
import Derived.Carry
set_option maxHeartbeats 8000000
namespace Go.Proofs.Ytamcnmnaadpfoaa.Fo
open Go.ChangeShapes Go.WideShapes Go.ChangeAt Go.RowKit
set_option linter.unusedVariables false
def fz (g:Nat):Prop:=FloatKind.f64.format.order g 0=some .eq
def fn (g:Nat):Prop:=FloatKind.f64.format.order g g=some .eq
end Go.Proofs.Ytamcnmnaadpfoaa.Fo
namespace Go.Proofs.Ytamcnmnaadpfoaa.Fo
open Go.ChangeShapes Go.WideShapes Go.ChangeAt Go.RowKit
set_option linter.unusedVariables false
set_option maxRecDepth 100000
structure Kb (b:Nat) (a w:World):Prop where
 os:w.os=a.os
 output:w.output=a.output
 size:a.heap.size≤w.heap.size
 block:∀ k,b≤k→k < a.heap.size→w.heap[k]? = a.heap[k]?
theorem Kb.refl (b:Nat) (a:World):Kb b a a:=⟨rfl,rfl,Nat.le_refl _,fun _ _ _=>rfl⟩
theorem Kb.trans {b:Nat} {x y z:World} (h:Kb b x y) (k:Kb b y z):Kb b x z:=⟨k.os.trans h.os,k.output.trans h.output,Nat.le_trans h.size k.size,fun i h1 hi=>(k.block i h1 (Nat.lt_of_lt_of_le hi h.size)).trans (h.block i h1 hi)⟩
theorem Kb.mono {b c:Nat} {x y:World} (h:Kb b x y) (hc:b≤c):Kb c x y:=⟨h.os,h.output,h.size,fun i h1 hi=>h.block i (Nat.le_trans hc h1) hi⟩
theorem Kb.of_below {a w:World} (h:Below a.heap.size a w) (b:Nat):Kb b a w:=⟨h.os,h.output,h.size,fun k _ hk=>h.block k hk⟩
theorem Kb.drewN {b:Nat} {a w:World} (h:Kb b a w) (n:Nat):Kb b a (w.drewN n):=⟨h.os,h.output,h.size,h.block⟩
theorem Kb.drew {b:Nat} {a w:World} (h:Kb b a w):Kb b a w.drew:=⟨h.os,h.output,h.size,h.block⟩
theorem Kb.alloc {b:Nat} {a w:World} (h:Kb b a w) (o:Obj):Kb b a (w.alloc o) :=
 h.trans (.of_below ((Below.refl _ w).alloc (Nat.le_refl _) o) b)
theorem Kb.setCell {b:Nat} {a w:World} (h:Kb b a w) (p:Addr) (hp:p.block < b∨a.heap.size≤p.block) (v:Value):Kb b a (w.setCell p v) :=
 ⟨h.os,h.output,by simpa using h.size,fun k h1 hk=>(Below.heap_setCell w p v k (by omega)).trans (h.block k h1 hk)⟩
theorem Kb.cellA {a w:World} {c:Nat} (h:Kb c a w) {b:Addr} {v:Value} (hb:c≤b.block) (hc:a.cell? b=some v):w.cell? b=some v :=
 (World.cell?_of_block (h.block b.block hb (lt_of_cell' hc))).trans hc
theorem Kb.cell {a w:World} (h:Kb 0 a w) {b:Addr} {v:Value} (hc:a.cell? b=some v):w.cell? b=some v:=h.cellA (Nat.zero_le _) hc
theorem Kb.frozen {a w:World} {c:Nat} (h:Kb c a w) {b j:Nat} (hb:c≤b) (hl:b < a.heap.size):w.frozen? ⟨b,j,none⟩=a.frozen? ⟨b,j,none⟩:=World.frozen?_of_block (h.block b hb hl)
theorem Kb.kept {a w:World} (h:Kb 0 a w):a.keptBut w (fun _=>False):=by
 refine ⟨h.os,h.output,fun i hi=>?_⟩
 rw [h.block i (Nat.zero_le _) hi]
 generalize a.heap[i]? = o
 cases o with
 | none=>rfl
 | some o=>cases o <;> first | exact ⟨rfl,rfl,rfl,fun _ _=>rfl⟩ | exact .inr ⟨rfl,rfl⟩ | rfl
theorem kb_alloc (b:Nat) (w:World) (o:Obj):Kb b w (w.alloc o):=(Kb.refl b w).alloc o
theorem kb_alloc2 (b:Nat) (w:World) (o p:Obj):Kb b w ((w.alloc o).alloc p):=((Kb.refl b w).alloc o).alloc p
theorem kb_alloc3 (b:Nat) (w:World) (o p q:Obj):Kb b w (((w.alloc o).alloc p).alloc q):=(((Kb.refl b w).alloc o).alloc p).alloc q
def RowB (b:Nat) (W:World) (v:Value) (n:Nat) (A:Nat→Value):Prop :=
 ∃ pa cap,v = .slice pa n cap∧(0 < n→∃ a:Addr,pa=some a∧n≤cap∧b≤a.block∧∀ i,i < n→W.cell? (a.add i)=some (A i))
theorem RowB.row {b:Nat} {W:World} {v:Value} {n:Nat} {A:Nat→Value} (h:RowB b W v n A):RowV W v n A:=by
 obtain ⟨pa,cap,h1,h2⟩:=h
 refine ⟨pa,cap,h1,fun hn=>?_⟩
 obtain ⟨a,e1,e2,_,e3⟩:=h2 hn
 exact ⟨a,e1,e2,e3⟩
theorem RowV.rowB {W:World} {v:Value} {n:Nat} {A:Nat→Value} (h:RowV W v n A):RowB 0 W v n A:=by
 obtain ⟨pa,cap,h1,h2⟩:=h
 refine ⟨pa,cap,h1,fun hn=>?_⟩
 obtain ⟨a,e1,e2,e3⟩:=h2 hn
 exact ⟨a,e1,e2,Nat.zero_le _,e3⟩
theorem RowB.keep {b:Nat} {W W':World} {v:Value} {n:Nat} {A:Nat→Value} (h:RowB b W v n A) (k:Kb b W W'):RowB b W' v n A:=by
 obtain ⟨pa,cap,h1,h2⟩:=h
 refine ⟨pa,cap,h1,fun hn=>?_⟩
 obtain ⟨a,e1,e2,e0,e3⟩:=h2 hn
 exact ⟨a,e1,e2,e0,fun i hi=>k.cellA (by rw [add_block];exact e0) (e3 i hi)⟩
theorem RowB.mono {b c:Nat} {W:World} {v:Value} {n:Nat} {A:Nat→Value} (h:RowB b W v n A) (hc:c≤b):RowB c W v n A:=by
 obtain ⟨pa,cap,h1,h2⟩:=h
 refine ⟨pa,cap,h1,fun hn=>?_⟩
 obtain ⟨a,e1,e2,e0,e3⟩:=h2 hn
 exact ⟨a,e1,e2,Nat.le_trans hc e0,e3⟩
theorem OwnR.rowB {W:World} {v:Value} {g n b:Nat} {A:Nat→Value} (h:OwnR W v g n A) (hb:b≤g):RowB b W v n A:=by
 obtain ⟨pa,cap,h1,h2⟩:=h.sl
 refine ⟨pa,cap,h1,fun hn=>⟨⟨g,0,none⟩,(h2 hn).1,(h2 hn).2,hb,fun i hi=>?_⟩⟩
 have:=h.cell i hi
 rw [show (⟨g,0,none⟩:Addr).add i=⟨g,i,none⟩ from by
  by_cases e:i=0
  ·subst e;rfl
  ·simp [Addr.add,e]]
 exact this
theorem addr0 (g i:Nat):(⟨g,0,none⟩:Addr).add i=⟨g,i,none⟩:=by
 by_cases e:i=0
 ·subst e;rfl
 ·simp [Addr.add,e]
def setL (W:World) (g o:Nat):List Value→World
 | []=>W
 | v :: r=>setL (W.setCell ⟨g,o,none⟩ v) g (o+1) r
theorem setL_size (g:Nat):∀ (l:List Value) (W:World) (o:Nat),(setL W g o l).heap.size=W.heap.size
 | [],_,_=>rfl
 | v :: r,W,o=>by unfold setL;rw [setL_size g r];simp
theorem setL_os (g:Nat):∀ (l:List Value) (W:World) (o:Nat),(setL W g o l).os=W.os∧(setL W g o l).output=W.output
 | [],_,_=>⟨rfl,rfl⟩
 | v :: r,W,o=>by unfold setL;exact setL_os g r _ _
theorem setL_block (g:Nat) (b:Nat) (h:b ≠ g):∀ (l:List Value) (W:World) (o:Nat),(setL W g o l).heap[b]? = W.heap[b]?
 | [],_,_=>rfl
 | v :: r,W,o=>by unfold setL;rw [setL_block g b h r];exact Below.heap_setCell _ _ _ _ h
theorem setL_fz (g b j:Nat):∀ (l:List Value) (W:World) (o:Nat),(setL W g o l).frozen? ⟨b,j,none⟩=W.frozen? ⟨b,j,none⟩
 | [],_,_=>rfl
 | v :: r,W,o=>by unfold setL;rw [setL_fz g b j r];simp
theorem setL_far (g j:Nat):∀ (l:List Value) (W:World) (o:Nat),j < o∨o+l.length≤j→(setL W g o l).cell? ⟨g,j,none⟩=W.cell? ⟨g,j,none⟩
 | [],_,_,_=>rfl
 | v :: r,W,o,h=>by
  unfold setL
  simp only [List.length_cons] at h
  rw [setL_far g j r _ _ (by omega),set_ne _ _ _ _ _ (by omega)]
theorem setL_at (g:Nat):∀ (l:List Value) (W:World) (o:Nat),(∀ t,t < l.length→∃ u,W.cell? ⟨g,o+t,none⟩=some u)→∀ t,t < l.length→(setL W g o l).cell? ⟨g,o+t,none⟩=l[t]?
 | [],_,_,_,t,ht=>by simp at ht
 | v :: r,W,o,h,t,ht=>by
  unfold setL
  simp only [List.length_cons] at h ht
  cases t with
  | zero =>
   obtain ⟨u,hu⟩:=h 0 (by omega)
   rw [setL_far g _ r _ _ (by omega)]
   exact set_eq _ _ _ _ _ hu
  | succ t =>
   have:=setL_at g r (W.setCell ⟨g,o,none⟩ v) (o+1) (fun t ht=>by
    obtain ⟨u,hu⟩:=h (t+1) (by omega)
    refine ⟨u,?_⟩
    rw [set_ne _ _ _ _ _ (by omega),show o+1+t=o+(t+1) by omega]
    exact hu) t (by omega)
   rw [show o+(t+1)=o+1+t by omega,this]
   rfl
def Blk (W:World) (g:Nat) (t:TypeId) (m:Nat):Prop:=∃ c,W.heap[g]? = some (.cells c t (0,0))∧m≤c.size
theorem Blk.of_eq {W W':World} {g:Nat} {t:TypeId} {m:Nat} (h:Blk W g t m) (e:W'.heap[g]? = W.heap[g]?):Blk W' g t m:=by
 obtain ⟨c,h1,h2⟩:=h
 exact ⟨c,e.trans h1,h2⟩
theorem Blk.set {W:World} {g:Nat} {t:TypeId} {m:Nat} (h:Blk W g t m) (j:Nat) (v:Value):Blk (W.setCell ⟨g,j,none⟩ v) g t m:=by
 obtain ⟨c,h1,h2⟩:=h
 exact ⟨_,heap_setCell_same W g j c t v h1,by rw [Array.size_setIfInBounds];exact h2⟩
theorem Blk.setL {g:Nat} {t:TypeId} {m:Nat}:∀ (l:List Value) (W:World) (o:Nat),Blk W g t m→Blk (setL W g o l) g t m
 | [],_,_,h=>h
 | v :: l,W,o,h=>Blk.setL l _ _ (h.set o v)
structure Mk (c:Nat) (w1:World) (g n:Nat) (E:Nat→List Value) (i:Nat) (W:World):Prop where
 os:W.os=w1.os
 output:W.output=w1.output
 size:w1.heap.size≤W.heap.size
 block:∀ b,b < w1.heap.size→b ≠ g→W.heap[b]? = w1.heap[b]?
 ce:∀ j,j < i→∀ t,t < c→W.cell? ⟨g,j*c+t,none⟩=(E j)[t]?
 rest:∀ j,i≤j→j < n→∀ t,t < c→∃ u,W.cell? ⟨g,j*c+t,none⟩=some u
 fz:∀ j,W.frozen? ⟨g,j,none⟩=false
 gl:g < w1.heap.size
 bt:∀ t m,Blk w1 g t m→Blk W g t m
theorem Mk.kb {c:Nat} {w1 W W':World} {g n i:Nat} {E:Nat→List Value} (h:Mk c w1 g n E i W) (k:Kb 0 W W'):Mk c w1 g n E i W':=by
 have hg:=Nat.lt_of_lt_of_le h.gl h.size
 have e:∀ j,W'.cell? ⟨g,j,none⟩=W.cell? ⟨g,j,none⟩:=fun j=>World.cell?_of_block (k.block g (Nat.zero_le _) hg)
 exact ⟨k.os.trans h.os,k.output.trans h.output,Nat.le_trans h.size k.size,fun b hb hn=>(k.block b (Nat.zero_le _) (Nat.lt_of_lt_of_le hb h.size)).trans (h.block b hb hn),fun j hj t ht=>(e _).trans (h.ce j hj t ht),fun j h1 h2 t ht=>by rw [e];exact h.rest j h1 h2 t ht,fun j=>(k.frozen (Nat.zero_le _) hg).trans (h.fz j),h.gl,fun t m hb=>(h.bt t m hb).of_eq (k.block g (Nat.zero_le _) hg)⟩
theorem Mk.step {c:Nat} {w1 W:World} {g n i:Nat} {E:Nat→List Value} (h:Mk c w1 g n E i W) (hi:i < n) {l:List Value} (hl:l.length=c):Mk c w1 g n (fun j=>if j=i then l else E j) (i+1) (setL W g (i*c) l):=by
 have hc0:∀ j,j ≠ i→∀ t,t < c→j*c+t < i*c∨i*c+c≤j*c+t:=by
  intro j hj t ht
  rcases Nat.lt_or_gt_of_ne hj with q | q
  ·left
   have:(j+1)*c≤i*c:=Nat.mul_le_mul_right c q
   rw [Nat.add_mul] at this;omega
  ·right
   have:(i+1)*c≤j*c:=Nat.mul_le_mul_right c q
   rw [Nat.add_mul] at this;omega
 have far:∀ j,j ≠ i→∀ t,t < c→(setL W g (i*c) l).cell? ⟨g,j*c+t,none⟩=W.cell? ⟨g,j*c+t,none⟩:=fun j hj t ht=>setL_far _ _ _ _ _ (by rw [hl];exact hc0 j hj t ht)
 refine ⟨(setL_os _ _ _ _).1.trans h.os,(setL_os _ _ _ _).2.trans h.output,by rw [setL_size];exact h.size,fun b hb hn=>(setL_block _ _ hn _ _ _).trans (h.block b hb hn),fun j hj t ht=>?_,fun j h1 h2 t ht=>by rw [far j (by omega) t ht];exact h.rest j (by omega) h2 t ht,fun j=>(setL_fz _ _ _ _ _ _).trans (h.fz j),h.gl,fun t m hb=>Blk.setL _ _ _ (h.bt t m hb)⟩
 by_cases e:j=i
 ·subst e
  rw [if_pos rfl]
  exact setL_at g l W (j*c) (fun t ht=>h.rest j (Nat.le_refl _) hi t (by omega)) t (by omega)
 ·rw [if_neg e,far j e t ht]
  exact h.ce j (by omega) t ht
theorem cell_of {W:World} {b j:Nat} {c:Array Value} {t:TypeId} {v:Value} (h:W.heap[b]? = some (.cells c t (0,0))) (hv:c[j]? = some v):W.cell? ⟨b,j,none⟩=some v:=by simp [World.cell?,h,hv]
theorem frozen_of {W:World} {b j:Nat} {c:Array Value} {t:TypeId} (h:W.heap[b]? = some (.cells c t (0,0))):W.frozen? ⟨b,j,none⟩=false:=by simp [World.frozen?,h]
theorem alloc_new (w:World) (c:Array Value) (t:TypeId):(w.alloc (.cells c t)).heap[w.heap.size]? = some (.cells c t (0,0)):=by
 show (w.heap.push _)[w.heap.size]? = _
 exact Array.getElem?_push_size
theorem set_known {W:World} {b j:Nat} {c:Array Value} {t:TypeId} (v:Value) (h:W.heap[b]? = some (.cells c t (0,0))):(W.setCell ⟨b,j,none⟩ v).heap[b]? = some (.cells (c.setIfInBounds j v) t (0,0)):=heap_setCell_same W b j c t v h
theorem three_new (w:World) (a b c:Array Value) (t1 t2 t3:TypeId) (W:World) (h:W=((w.alloc (.cells a t1)).alloc (.cells b t2)).alloc (.cells c t3)):W.heap[w.heap.size]? = some (.cells a t1 (0,0))∧W.heap[w.heap.size+1]? = some (.cells b t2 (0,0))∧W.heap[w.heap.size+1+1]? = some (.cells c t3 (0,0))∧W.heap.size=w.heap.size+3∧Kb 0 w W:=by
 subst h
 have e1:(w.alloc (.cells a t1)).heap.size=w.heap.size+1:=World.size_alloc _ _
 have e2:((w.alloc (.cells a t1)).alloc (.cells b t2)).heap.size=w.heap.size+1+1:=by rw [World.size_alloc,e1]
 refine ⟨?_,?_,?_,by rw [World.size_alloc,e2],kb_alloc3 _ _ _ _ _⟩
 ·rw [(kb_alloc 0 _ _).block _ (Nat.zero_le _) (by omega),(kb_alloc 0 _ _).block _ (Nat.zero_le _) (by omega)]
  exact alloc_new _ _ _
 ·rw [(kb_alloc 0 _ _).block _ (Nat.zero_le _) (by omega),← e1]
  exact alloc_new _ _ _
 ·rw [← e2]
  exact alloc_new _ _ _
theorem wrap_u8 (x:Int):IntKind.u8.wrap x=x % 256:=by
 simp [IntKind.wrap,IntKind.bits,IntKind.signed]
theorem OwnR.kb {W W':World} {v:Value} {g n:Nat} {A:Nat→Value} (h:OwnR W v g n A) (k:n ≠ 0→W'.heap[g]? = W.heap[g]?):OwnR W' v g n A:=by
 refine ⟨h.sl,fun i hi=>?_,fun q j=>?_⟩
 ·rw [World.cell?_of_block (w:=W) (k (by omega))];exact h.cell i hi
 ·rw [World.frozen?_of_block (w:=W) (k (by omega))];exact h.fz q j
def sst (h x:Int):Int:=IntKind.u64.wrap (bits BinOp.xor IntKind.u64 h x*1099511628211)
def smz (A:Nat→Int):Nat→Int
 | 0=>14695981039346656037
 | i+1=>sst (smz A i) (A i)
def sgz (A:Nat→Int) (n:Nat):Int:=wrap64 (smz A n)
def numOf:Value→Int
 | .int _ z=>z
 | _=>0
def Sz {H:Type} (t:TypeId) (d:DataW H):Prop:=∀ n ∈ d.weights Try.prog t,n≤140737488351232
theorem weightsAll_mem {H:Type} {e:TypeId}:∀ {l:List (DataW H)} {d:DataW H} {n:Nat},d ∈ l→n ∈ d.weights Try.prog e→n ∈ DataW.weightsAll Try.prog e l
 | [],_,_,h,_=>by cases h
 | x :: r,d,n,h,hn=>by
  simp only [DataW.weightsAll,List.mem_append]
  rcases List.mem_cons.1 h with rfl | h
  ·exact Or.inl hn
  ·exact Or.inr (weightsAll_mem h hn)
theorem Sz.head {H:Type} {t e:TypeId} {el sp:List (DataW H)} (h:Sz t (.slice el sp)) (ht:Try.prog.underlying t=some (.slice e)):(el.length+sp.length)*Try.prog.bytesOf e≤140737488351232:=h _ (by simp [DataW.weights,ht])
theorem Sz.elem {H:Type} {t e:TypeId} {el sp:List (DataW H)} (h:Sz t (.slice el sp)) (ht:Try.prog.underlying t=some (.slice e)) {d:DataW H} (hd:d ∈ el):Sz e d:=fun n hn=>h n (by
 simp only [DataW.weights,ht,List.mem_cons,List.mem_append]
 exact Or.inr (Or.inl (weightsAll_mem hd hn)))
theorem cellsU8:Try.prog.cellsOf 5=1:=by kernel_rfl
theorem bytesU8:Try.prog.bytesOf 5=1:=by kernel_rfl
theorem laidOut:laidOutB Try.prog=true:=by kernel_rfl
theorem rByts:Try.prog.readableRec 22=true∧22 < Try.prog.types.size:=⟨by kernel_rfl,of_decide_eq_true (by kernel_rfl)⟩
theorem byts_stays {H:Type} {enc:TypeId × Value→H} {W W':World} {v:Value} {d:DataW H} {p:List MemPlace} (h:DataW.Trod enc Try.prog W 0 (fun _=>true) true 22 v d p) (hlt:∀ x ∈ p,x.block < W.heap.size) (hg:Kb 0 W W'):DataW.Trod enc Try.prog W' 0 (fun b=>decide (b < W.heap.size)) true 22 v d p:=by
 obtain ⟨fuel,hf⟩:=h
 refine ⟨fuel,DataW.trod_stays (kids_book laidOut rByts.1) (book_sized rByts.1) (fun h=>by cases h) ⟨rByts.2,book_self 22⟩ hf (fun x hx=>?_) (fun x hx=>by simpa using hlt x hx)⟩
 have hb:=hlt x hx
 cases x with
 | cell b o=>exact World.cell?_of_block (w:=W) (hg.block b (Nat.zero_le _) hb)
 | map b=>exact hg.block b (Nat.zero_le _) hb
theorem read_byts {H : Type} {enc : TypeId × Value → H} {w : World} {base : Nat} {sp : Nat → Bool} {held : Bool} {fuel : Nat} {cs : List Value} {x : DataW H × List MemPlace} (h : DataW.trod enc Try.prog w base sp held fuel 22 cs = some x) (hz : Sz 22 x.1) :
  ∃ (v:Value) (n:Nat) (A:Nat→Int),cs = [v]∧RowV w v n (fun i=>.int .u8 (A i))∧(n:Int) < 140737488355328∧∀ i,i < n→0≤A i∧A i≤255:=by
 rcases Deep.open_slice1 Try.underlying22 cellsU8 h with ⟨rfl,rfl⟩ | ⟨a,len,cap,m,n,V,D,Pl,rfl,hb,hl,hm,hmm,rfl,hx⟩
 ·exact ⟨.slice none 0 0,0,fun _=>0,rfl,⟨none,0,rfl,fun f=>by omega⟩,by omega,fun i hi=>by omega⟩
 ·have hle:len≤m:=by rw [hmm];split <;> omega
  have hh:=hz.head Try.underlying22
  rw [bytesU8] at hh
  simp only [List.length_map,List.length_range] at hh
  have key:∀ i,i < len→w.cell? (a.add i)=some (.int .u8 (numOf (V i)))∧0≤numOf (V i)∧numOf (V i)≤255:=fun i hi=>by
   obtain ⟨h1,h2⟩:=hx i (by omega)
   obtain ⟨z,e1,_,gb⟩:=DataW.trod_int Try.underlying5 h2
   simp only [List.cons.injEq,and_true] at e1
   have hz : 0≤z∧z≤255:=by
    simp [Lit.wf,IntKind.min,IntKind.max,IntKind.signed,IntKind.bits] at gb
    omega
   refine ⟨?_,?_⟩
   ·rw [h1]
    show some (V i)=some (.int .u8 (numOf (V i)))
    rw [e1];rfl
   ·rw [e1];exact hz
  exact ⟨_,len,fun i=>numOf (V i),rfl,⟨some a,cap,rfl,fun _=>⟨a,rfl,hl,fun i hi=>(key i hi).1⟩⟩,by omega,fun i hi=>(key i hi).2⟩
structure Gv where
 k:Int
 m:Int
 x:ByteArray
 r:Int
structure Td where
 t:Int
 c:Nat
 C:Nat→Gv
instance:Inhabited Gv:=⟨⟨0,0,⟨#[]⟩,0⟩⟩
instance:Inhabited Td:=⟨⟨0,0,fun _=>default⟩⟩
def gvv (a:Gv):Value:=.agg #[.int .i64 a.k,.int .i64 a.m,.string a.x,.int .i64 a.r]
def thv (f:Td) (vc:Value):Value:=.agg #[.int .i64 f.t,vc]
def grv (a:Gv) (vn:Value):Value:=.agg #[.int .i64 a.k,.int .i64 a.m,.string a.x,.int .i64 a.r,vn]
structure CelV (W:World) (b:Addr) (a:Gv):Prop where
 c0:W.cell? b=some (.int .i64 a.k)
 c1:W.cell? ⟨b.block,b.off+1,none⟩=some (.int .i64 a.m)
 c2:W.cell? ⟨b.block,b.off+2,none⟩=some (.string a.x)
 c3:W.cell? ⟨b.block,b.off+3,none⟩=some (.int .i64 a.r)
theorem CelV.keep {W W':World} {c:Nat} {b:Addr} {a:Gv} (h:CelV W b a) (hb:c≤b.block) (k:Kb c W W'):CelV W' b a :=
 ⟨k.cellA hb h.c0,k.cellA hb h.c1,k.cellA hb h.c2,k.cellA hb h.c3⟩
theorem CelV.of {W:World} {g o:Nat} {a:Gv} (h:∀ t,t < 4→W.cell? ⟨g,o+t,none⟩=([.int .i64 a.k,.int .i64 a.m,.string a.x,.int .i64 a.r]:List Value)[t]?):CelV W ⟨g,o,none⟩ a :=
 ⟨h 0 (by omega),h 1 (by omega),h 2 (by omega),h 3 (by omega)⟩
def ValC (b:Nat) (W:World) (p:Addr) (a:Gv):Prop:=CelV W p a
theorem ValC.keep {b:Nat} {W W':World} {p:Addr} {a:Gv} (h:ValC b W p a) (hb:b≤p.block) (k:Kb b W W'):ValC b W' p a:=CelV.keep h hb k
theorem ValC.mono {b c:Nat} {W:World} {p:Addr} {a:Gv} (h:ValC b W p a) (hc:c≤b):ValC c W p a:=h
def RowW (b:Nat) (W:World) (v:Value) (n:Nat) (C:Nat→Gv):Prop :=
 ∃ pa cap,v = .slice pa n cap∧(0 < n→∃ a:Addr,pa=some a∧n≤cap∧b≤a.block∧∀ i,i < n→ValC b W (a.add (i*4)) (C i))
theorem RowW.keep {b:Nat} {W W':World} {v:Value} {n:Nat} {C:Nat→Gv} (h:RowW b W v n C) (k:Kb b W W'):RowW b W' v n C:=by
 obtain ⟨pa,cap,h1,h2⟩:=h
 refine ⟨pa,cap,h1,fun hn=>?_⟩
 obtain ⟨a,e1,e2,e0,e3⟩:=h2 hn
 exact ⟨a,e1,e2,e0,fun i hi=>(e3 i hi).keep (by rw [add_block];exact e0) k⟩
theorem RowW.mono {b c:Nat} {W:World} {v:Value} {n:Nat} {C:Nat→Gv} (h:RowW b W v n C) (hc:c≤b):RowW c W v n C:=by
 obtain ⟨pa,cap,h1,h2⟩:=h
 refine ⟨pa,cap,h1,fun hn=>?_⟩
 obtain ⟨a,e1,e2,e0,e3⟩:=h2 hn
 exact ⟨a,e1,e2,Nat.le_trans hc e0,fun i hi=>(e3 i hi).mono hc⟩
structure CelT (W:World) (b:Addr) (f:Td) (vc:Value):Prop where
 c0:W.cell? b=some (.int .i64 f.t)
 c1:W.cell? ⟨b.block,b.off+1,none⟩=some (vc)
theorem CelT.keep {W W':World} {c:Nat} {b:Addr} {f:Td} {vc:Value} (h:CelT W b f vc) (hb:c≤b.block) (k:Kb c W W'):CelT W' b f vc :=
 ⟨k.cellA hb h.c0,k.cellA hb h.c1⟩
theorem CelT.of {W:World} {g o:Nat} {f:Td} {vc:Value} (h:∀ t,t < 2→W.cell? ⟨g,o+t,none⟩=([.int .i64 f.t,vc]:List Value)[t]?):CelT W ⟨g,o,none⟩ f vc :=
 ⟨h 0 (by omega),h 1 (by omega)⟩
def ThC (b:Nat) (W:World) (p:Addr) (f:Td):Prop:=∃ vc,CelT W p f vc∧RowW b W vc f.c f.C
theorem ThC.keep {b:Nat} {W W':World} {p:Addr} {f:Td} (h:ThC b W p f) (hb:b≤p.block) (k:Kb b W W'):ThC b W' p f:=by
 obtain ⟨vc,h1,h2⟩:=h
 exact ⟨vc,h1.keep hb k,h2.keep k⟩
theorem ThC.mono {b c:Nat} {W:World} {p:Addr} {f:Td} (h:ThC b W p f) (hc:c≤b):ThC c W p f:=by
 obtain ⟨vc,h1,h2⟩:=h
 exact ⟨vc,h1,h2.mono hc⟩
def RowT (b:Nat) (W:World) (v:Value) (n:Nat) (F:Nat→Td):Prop :=
 ∃ pa cap,v = .slice pa n cap∧(0 < n→∃ a:Addr,pa=some a∧n≤cap∧b≤a.block∧∀ i,i < n→ThC b W (a.add (i*2)) (F i))
theorem RowT.keep {b:Nat} {W W':World} {v:Value} {n:Nat} {F:Nat→Td} (h:RowT b W v n F) (k:Kb b W W'):RowT b W' v n F:=by
 obtain ⟨pa,cap,h1,h2⟩:=h
 refine ⟨pa,cap,h1,fun hn=>?_⟩
 obtain ⟨a,e1,e2,e0,e3⟩:=h2 hn
 exact ⟨a,e1,e2,e0,fun i hi=>(e3 i hi).keep (by rw [add_block];exact e0) k⟩
theorem RowT.mono {b c:Nat} {W:World} {v:Value} {n:Nat} {F:Nat→Td} (h:RowT b W v n F) (hc:c≤b):RowT c W v n F:=by
 obtain ⟨pa,cap,h1,h2⟩:=h
 refine ⟨pa,cap,h1,fun hn=>?_⟩
 obtain ⟨a,e1,e2,e0,e3⟩:=h2 hn
 exact ⟨a,e1,e2,Nat.le_trans hc e0,fun i hi=>(e3 i hi).mono hc⟩
noncomputable def dc (p:Prop):Bool:=@decide p (Classical.propDecidable p)
theorem dc_t {p:Prop} (h:p):dc p=true:=@decide_eq_true p (Classical.propDecidable p) h
theorem dc_f {p:Prop} (h:¬ p):dc p=false:=@decide_eq_false p (Classical.propDecidable p) h
theorem bne {k m:Int} (h:k ≠ m):(k == m)=false:=beq_eq_false_iff_ne.2 h
theorem str0 {x:ByteArray} (h:x=⟨#[]⟩):x.toList = []:=by rw [Lib.toList_data,h]
theorem str1 {x:ByteArray} (h:¬ x=⟨#[]⟩):¬ x.toList = []:=by
 rw [Lib.toList_data]
 intro e
 exact h (by apply ByteArray.ext;exact Array.toList_inj.1 (by simpa using e))
def Vok (n:Nat) (v:Gv):Prop :=
 (v.k=0∧v.m=0∧v.x=⟨#[]⟩∧v.r=0)∨((v.k=1∨v.k=2)∧v.x=⟨#[]⟩∧v.r=0)∨(v.k=3∧v.m=0∧v.r=0∧v.x.size≤4000)∨(v.k=4∧v.m=0∧v.x=⟨#[]⟩∧0≤v.r∧v.r < (n:Int))
def Gok (n:Nat) (F:Nat→Td) (a:Gv):Prop:=n≤600∧Vok n a∧∀ i,i < n→(0≤(F i).t∧(F i).t≤1000∧(F i).c≤300)∧∀ j,j < (F i).c→Vok n ((F i).C j)
theorem sp_val_0 {a:Gv} {pn:Option Addr} {n cn:Nat} (v:Gv) (hxs:(v.x.size:Int) < 140737488355328) (hn:(n:Int) < 140737488355328) (hk:v.k=0) (w:World):Calls Try.prog 71 #[grv a (.slice pn n cn),gvv v] w fun e w'=>e = .returned (.bool (dc (Vok n v)))∧Kb 0 w w':=by
 unfold grv gvv
 by_cases hm:v.m=0
 rotate_left
 ·rw [dc_f (by rintro (⟨q,q1,q2,q3⟩ | ⟨q,q1,q2⟩ | ⟨q,q1,q2,q3⟩ | ⟨q,q1,q2,q3,q4⟩) <;> first | omega | exact hm (by assumption))]
  have k0:((0:Int) == 0)=true:=rfl
  have cm:(v.m == 0)=false:=bne hm
  rw [hk]
  clear hk
  go_enter Try.func71,Try.ntmps71
  go_wp2_with fail
  all_goals (go_ret;exact ⟨by first | rfl | simp [*],kb_alloc2 _ _ _ _⟩)
 have cm:(v.m == 0)=true:=by simpa using hm
 by_cases hx:v.x=⟨#[]⟩
 rotate_left
 ·rw [dc_f (by rintro (⟨q,q1,q2,q3⟩ | ⟨q,q1,q2⟩ | ⟨q,q1,q2,q3⟩ | ⟨q,q1,q2,q3,q4⟩) <;> first | omega | exact hx (by assumption))]
  have k0:((0:Int) == 0)=true:=rfl
  have cx:=str1 hx
  rw [hk]
  clear hk
  go_enter Try.func71,Try.ntmps71
  go_wp2_with fail
  all_goals (go_ret;exact ⟨by first | rfl | simp [*],kb_alloc2 _ _ _ _⟩)
 have cx:=str0 hx
 by_cases hr:v.r=0
 rotate_left
 ·rw [dc_f (by rintro (⟨q,q1,q2,q3⟩ | ⟨q,q1,q2⟩ | ⟨q,q1,q2,q3⟩ | ⟨q,q1,q2,q3,q4⟩) <;> first | omega | exact hr (by assumption))]
  have k0:((0:Int) == 0)=true:=rfl
  have cr:(v.r == 0)=false:=bne hr
  rw [hk]
  clear hk
  go_enter Try.func71,Try.ntmps71
  go_wp2_with fail
  all_goals (go_ret;exact ⟨by first | rfl | simp [*],kb_alloc2 _ _ _ _⟩)
 have cr:(v.r == 0)=true:=by simpa using hr
 rw [dc_t (.inl ⟨hk,hm,hx,hr⟩)]
 rw [hk]
 clear hk
 go_enter Try.func71,Try.ntmps71
 go_wp2_with fail
 all_goals (go_ret;exact ⟨by first | rfl | simp [*],kb_alloc2 _ _ _ _⟩)
theorem sp_val_1 {a:Gv} {pn:Option Addr} {n cn:Nat} (v:Gv) (hxs:(v.x.size:Int) < 140737488355328) (hn:(n:Int) < 140737488355328) (hk:v.k=1) (w:World):Calls Try.prog 71 #[grv a (.slice pn n cn),gvv v] w fun e w'=>e = .returned (.bool (dc (Vok n v)))∧Kb 0 w w':=by
 unfold grv gvv
 by_cases hx:v.x=⟨#[]⟩
 rotate_left
 ·rw [dc_f (by rintro (⟨q,q1,q2,q3⟩ | ⟨q,q1,q2⟩ | ⟨q,q1,q2,q3⟩ | ⟨q,q1,q2,q3,q4⟩) <;> first | omega | exact hx (by assumption))]
  have k0:((1:Int) == 0)=false:=rfl
  have k1:((1:Int) == 1)=true:=rfl
  have cx:=str1 hx
  rw [hk]
  clear hk
  go_enter Try.func71,Try.ntmps71
  go_wp2_with fail
  all_goals (go_ret;exact ⟨by first | rfl | simp [*],kb_alloc2 _ _ _ _⟩)
 have cx:=str0 hx
 by_cases hr:v.r=0
 rotate_left
 ·rw [dc_f (by rintro (⟨q,q1,q2,q3⟩ | ⟨q,q1,q2⟩ | ⟨q,q1,q2,q3⟩ | ⟨q,q1,q2,q3,q4⟩) <;> first | omega | exact hr (by assumption))]
  have k0:((1:Int) == 0)=false:=rfl
  have k1:((1:Int) == 1)=true:=rfl
  have cr:(v.r == 0)=false:=bne hr
  rw [hk]
  clear hk
  go_enter Try.func71,Try.ntmps71
  go_wp2_with fail
  all_goals (go_ret;exact ⟨by first | rfl | simp [*],kb_alloc2 _ _ _ _⟩)
 have cr:(v.r == 0)=true:=by simpa using hr
 rw [dc_t (.inr (.inl ⟨.inl hk,hx,hr⟩))]
 rw [hk]
 clear hk
 go_enter Try.func71,Try.ntmps71
 go_wp2_with fail
 all_goals (go_ret;exact ⟨by first | rfl | simp [*],kb_alloc2 _ _ _ _⟩)
theorem sp_val_2 {a:Gv} {pn:Option Addr} {n cn:Nat} (v:Gv) (hxs:(v.x.size:Int) < 140737488355328) (hn:(n:Int) < 140737488355328) (hk:v.k=2) (w:World):Calls Try.prog 71 #[grv a (.slice pn n cn),gvv v] w fun e w'=>e = .returned (.bool (dc (Vok n v)))∧Kb 0 w w':=by
 unfold grv gvv
 by_cases hx:v.x=⟨#[]⟩
 rotate_left
 ·rw [dc_f (by rintro (⟨q,q1,q2,q3⟩ | ⟨q,q1,q2⟩ | ⟨q,q1,q2,q3⟩ | ⟨q,q1,q2,q3,q4⟩) <;> first | omega | exact hx (by assumption))]
  have k0:((2:Int) == 0)=false:=rfl
  have k1:((2:Int) == 1)=false:=rfl
  have k2:((2:Int) == 2)=true:=rfl
  have cx:=str1 hx
  rw [hk]
  clear hk
  go_enter Try.func71,Try.ntmps71
  go_wp2_with fail
  all_goals (go_ret;exact ⟨by first | rfl | simp [*],kb_alloc2 _ _ _ _⟩)
 have cx:=str0 hx
 by_cases hr:v.r=0
 rotate_left
 ·rw [dc_f (by rintro (⟨q,q1,q2,q3⟩ | ⟨q,q1,q2⟩ | ⟨q,q1,q2,q3⟩ | ⟨q,q1,q2,q3,q4⟩) <;> first | omega | exact hr (by assumption))]
  have k0:((2:Int) == 0)=false:=rfl
  have k1:((2:Int) == 1)=false:=rfl
  have k2:((2:Int) == 2)=true:=rfl
  have cr:(v.r == 0)=false:=bne hr
  rw [hk]
  clear hk
  go_enter Try.func71,Try.ntmps71
  go_wp2_with fail
  all_goals (go_ret;exact ⟨by first | rfl | simp [*],kb_alloc2 _ _ _ _⟩)
 have cr:(v.r == 0)=true:=by simpa using hr
 rw [dc_t (.inr (.inl ⟨.inr hk,hx,hr⟩))]
 rw [hk]
 clear hk
 go_enter Try.func71,Try.ntmps71
 go_wp2_with fail
 all_goals (go_ret;exact ⟨by first | rfl | simp [*],kb_alloc2 _ _ _ _⟩)
theorem sp_val_3 {a:Gv} {pn:Option Addr} {n cn:Nat} (v:Gv) (hxs:(v.x.size:Int) < 140737488355328) (hn:(n:Int) < 140737488355328) (hk:v.k=3) (w:World):Calls Try.prog 71 #[grv a (.slice pn n cn),gvv v] w fun e w'=>e = .returned (.bool (dc (Vok n v)))∧Kb 0 w w':=by
 unfold grv gvv
 by_cases hm:v.m=0
 rotate_left
 ·rw [dc_f (by rintro (⟨q,q1,q2,q3⟩ | ⟨q,q1,q2⟩ | ⟨q,q1,q2,q3⟩ | ⟨q,q1,q2,q3,q4⟩) <;> first | omega | exact hm (by assumption))]
  have k0:((3:Int) == 0)=false:=rfl
  have k1:((3:Int) == 1)=false:=rfl
  have k2:((3:Int) == 2)=false:=rfl
  have k3:((3:Int) == 3)=true:=rfl
  have cm:(v.m == 0)=false:=bne hm
  rw [hk]
  clear hk
  go_enter Try.func71,Try.ntmps71
  go_wp2_with fail
  all_goals (go_ret;exact ⟨by first | rfl | simp [*],kb_alloc2 _ _ _ _⟩)
 have cm:(v.m == 0)=true:=by simpa using hm
 by_cases hr:v.r=0
 rotate_left
 ·rw [dc_f (by rintro (⟨q,q1,q2,q3⟩ | ⟨q,q1,q2⟩ | ⟨q,q1,q2,q3⟩ | ⟨q,q1,q2,q3,q4⟩) <;> first | omega | exact hr (by assumption))]
  have k0:((3:Int) == 0)=false:=rfl
  have k1:((3:Int) == 1)=false:=rfl
  have k2:((3:Int) == 2)=false:=rfl
  have k3:((3:Int) == 3)=true:=rfl
  have cr:(v.r == 0)=false:=bne hr
  rw [hk]
  clear hk
  go_enter Try.func71,Try.ntmps71
  go_wp2_with fail
  all_goals (go_ret;exact ⟨by first | rfl | simp [*],kb_alloc2 _ _ _ _⟩)
 have cr:(v.r == 0)=true:=by simpa using hr
 by_cases hs:v.x.size≤4000
 rotate_left
 ·rw [dc_f (by rintro (⟨q,q1,q2,q3⟩ | ⟨q,q1,q2⟩ | ⟨q,q1,q2,q3⟩ | ⟨q,q1,q2,q3,q4⟩) <;> first | omega | exact hs (by assumption))]
  have k0:((3:Int) == 0)=false:=rfl
  have k1:((3:Int) == 1)=false:=rfl
  have k2:((3:Int) == 2)=false:=rfl
  have k3:((3:Int) == 3)=true:=rfl
  have cs:¬ (v.x.size:Int)≤4000:=by omega
  rw [hk]
  clear hk
  go_enter Try.func71,Try.ntmps71
  go_wp2_with fail
  all_goals (go_ret;exact ⟨by first | rfl | simp [*],kb_alloc2 _ _ _ _⟩)
 have cs:(v.x.size:Int)≤4000:=by omega
 rw [dc_t (.inr (.inr (.inl ⟨hk,hm,hr,hs⟩)))]
 rw [hk]
 clear hk
 go_enter Try.func71,Try.ntmps71
 go_wp2_with fail
 all_goals (go_ret;exact ⟨by first | rfl | simp [*],kb_alloc2 _ _ _ _⟩)
theorem sp_val_4 {a:Gv} {pn:Option Addr} {n cn:Nat} (v:Gv) (hxs:(v.x.size:Int) < 140737488355328) (hn:(n:Int) < 140737488355328) (hk:v.k=4) (w:World):Calls Try.prog 71 #[grv a (.slice pn n cn),gvv v] w fun e w'=>e = .returned (.bool (dc (Vok n v)))∧Kb 0 w w':=by
 unfold grv gvv
 by_cases hm:v.m=0
 rotate_left
 ·rw [dc_f (by rintro (⟨q,q1,q2,q3⟩ | ⟨q,q1,q2⟩ | ⟨q,q1,q2,q3⟩ | ⟨q,q1,q2,q3,q4⟩) <;> first | omega | exact hm (by assumption))]
  have k0:((4:Int) == 0)=false:=rfl
  have k1:((4:Int) == 1)=false:=rfl
  have k2:((4:Int) == 2)=false:=rfl
  have k3:((4:Int) == 3)=false:=rfl
  have k4:((4:Int) == 4)=true:=rfl
  have cm:(v.m == 0)=false:=bne hm
  rw [hk]
  clear hk
  go_enter Try.func71,Try.ntmps71
  go_wp2_with fail
  all_goals (go_ret;exact ⟨by first | rfl | simp [*],kb_alloc2 _ _ _ _⟩)
 have cm:(v.m == 0)=true:=by simpa using hm
 by_cases hx:v.x=⟨#[]⟩
 rotate_left
 ·rw [dc_f (by rintro (⟨q,q1,q2,q3⟩ | ⟨q,q1,q2⟩ | ⟨q,q1,q2,q3⟩ | ⟨q,q1,q2,q3,q4⟩) <;> first | omega | exact hx (by assumption))]
  have k0:((4:Int) == 0)=false:=rfl
  have k1:((4:Int) == 1)=false:=rfl
  have k2:((4:Int) == 2)=false:=rfl
  have k3:((4:Int) == 3)=false:=rfl
  have k4:((4:Int) == 4)=true:=rfl
  have cx:=str1 hx
  rw [hk]
  clear hk
  go_enter Try.func71,Try.ntmps71
  go_wp2_with fail
  all_goals (go_ret;exact ⟨by first | rfl | simp [*],kb_alloc2 _ _ _ _⟩)
 have cx:=str0 hx
 by_cases hp : 0≤v.r
 rotate_left
 ·rw [dc_f (by rintro (⟨q,q1,q2,q3⟩ | ⟨q,q1,q2⟩ | ⟨q,q1,q2,q3⟩ | ⟨q,q1,q2,q3,q4⟩) <;> first | omega | exact hp (by assumption))]
  have k0:((4:Int) == 0)=false:=rfl
  have k1:((4:Int) == 1)=false:=rfl
  have k2:((4:Int) == 2)=false:=rfl
  have k3:((4:Int) == 3)=false:=rfl
  have k4:((4:Int) == 4)=true:=rfl
  rw [hk]
  clear hk
  go_enter Try.func71,Try.ntmps71
  go_wp2_with fail
  all_goals (go_ret;exact ⟨by first | rfl | simp [*],kb_alloc2 _ _ _ _⟩)
 by_cases hq:v.r < (n:Int)
 rotate_left
 ·rw [dc_f (by rintro (⟨q,q1,q2,q3⟩ | ⟨q,q1,q2⟩ | ⟨q,q1,q2,q3⟩ | ⟨q,q1,q2,q3,q4⟩) <;> first | omega | exact hq (by assumption))]
  have k0:((4:Int) == 0)=false:=rfl
  have k1:((4:Int) == 1)=false:=rfl
  have k2:((4:Int) == 2)=false:=rfl
  have k3:((4:Int) == 3)=false:=rfl
  have k4:((4:Int) == 4)=true:=rfl
  rw [hk]
  clear hk
  go_enter Try.func71,Try.ntmps71
  go_wp2_with fail
  all_goals (go_ret;exact ⟨by first | rfl | simp [*],kb_alloc2 _ _ _ _⟩)
 rw [dc_t (.inr (.inr (.inr ⟨hk,hm,hx,hp,hq⟩)))]
 rw [hk]
 clear hk
 go_enter Try.func71,Try.ntmps71
 go_wp2_with fail
 all_goals (go_ret;exact ⟨by first | rfl | simp [*],kb_alloc2 _ _ _ _⟩)
theorem sp_val_x {a:Gv} {pn:Option Addr} {n cn:Nat} (v:Gv) (h0:v.k ≠ 0) (h1:v.k ≠ 1) (h2:v.k ≠ 2) (h3:v.k ≠ 3) (h4:v.k ≠ 4) (w:World):Calls Try.prog 71 #[grv a (.slice pn n cn),gvv v] w fun e w'=>e = .returned (.bool (dc (Vok n v)))∧Kb 0 w w':=by
 unfold grv gvv
 rw [dc_f (by rintro (⟨q,_⟩ | ⟨q,_⟩ | ⟨q,_⟩ | ⟨q,_⟩) <;> omega)]
 have k0:=bne h0
 have k1:=bne h1
 have k2:=bne h2
 have k3:=bne h3
 have k4:=bne h4
 go_enter Try.func71,Try.ntmps71
 go_wp2_with fail
 go_ret
 exact ⟨rfl,kb_alloc2 _ _ _ _⟩
theorem sp_val {a:Gv} {pn:Option Addr} {n cn:Nat} (v:Gv) (hxs:(v.x.size:Int) < 140737488355328) (hn:(n:Int) < 140737488355328) (w:World):Calls Try.prog 71 #[grv a (.slice pn n cn),gvv v] w fun e w'=>e = .returned (.bool (dc (Vok n v)))∧Kb 0 w w':=by
 by_cases h0:v.k=0
 ·exact sp_val_0 v hxs hn h0 w
 by_cases h1:v.k=1
 ·exact sp_val_1 v hxs hn h1 w
 by_cases h2:v.k=2
 ·exact sp_val_2 v hxs hn h2 w
 by_cases h3:v.k=3
 ·exact sp_val_3 v hxs hn h3 w
 by_cases h4:v.k=4
 ·exact sp_val_4 v hxs hn h4 w
 exact sp_val_x v h0 h1 h2 h3 h4 w
def sm (s:Nat→Nat):Nat→Nat
 | 0=>0
 | i+1=>sm s i+s i
def Szd (s:Nat) (l:Int) (W:World):Ending→World→Prop:=fun e w'=>∃ r:Int,e = .returned (.int .i64 r)∧(0≤r→r+(s:Int)≤l) ∧ -1≤r∧r≤l∧Kb 0 W w'
def szT (F:Nat→Td) (i:Nat):Nat:=(F i).c+sm (fun j=>((F i).C j).x.size) (F i).c
def BT (F:Nat→Td) (n:Nat):Prop:=∀ i,i < n→((F i).c:Int) < 140737488355328∧∀ j,j < (F i).c→(((F i).C j).x.size:Int) < 140737488355328
end Go.Proofs.Ytamcnmnaadpfoaa.Fo
