import Derived.Test.YtamcnmnaadpfoaaFBaa
import Derived.Deep.RegionHeldLaw
import Derived.Deep.CutBlock
import Derived.Laws.MakeOwn
namespace Go.Proofs.Ytamcnmnaadpfoaa.Fo
open Go.ChangeShapes Go.WideShapes Go.ChangeAt Go.RowKit
set_option linter.unusedVariables false
def mtl (k:Nat) (out:ByteArray):ByteArray:=if h:k=0 then out else mtl (k / 10) (⟨#[UInt8.ofNat (48+k % 10)]⟩ ++ out)
termination_by k
decreasing_by omega
def lfs (A:Nat→ByteArray) (l:Int):Nat→Int
 | 0=>l
 | i+1=>lfs A l i - ((A i).size:Int)
structure Kq (S:Nat→Prop) (a w:World):Prop where
 os:w.os=a.os
 tape:w.tape=a.tape
 output:w.output=a.output
 size:a.heap.size≤w.heap.size
 block:∀ k,k < a.heap.size→¬ S k→w.heap[k]? = a.heap[k]?
theorem Kq.refl (S:Nat→Prop) (a:World):Kq S a a:=⟨rfl,rfl,rfl,Nat.le_refl _,fun _ _ _=>rfl⟩
theorem Kq.trans {S:Nat→Prop} {a b c:World} (h:Kq S a b) (k:Kq S b c):Kq S a c :=
 ⟨k.os.trans h.os,k.tape.trans h.tape,k.output.trans h.output,Nat.le_trans h.size k.size,fun i hi hs=>(k.block i (Nat.lt_of_lt_of_le hi h.size) hs).trans (h.block i hi hs)⟩
theorem Kq.mono {S T:Nat→Prop} {a b:World} (h:Kq S a b) (hs:∀ k,S k→T k):Kq T a b :=
 ⟨h.os,h.tape,h.output,h.size,fun k hk hn=>h.block k hk (fun f=>hn (hs k f))⟩
theorem Kq.of_below {S:Nat→Prop} {n:Nat} {a w:World} (h:Below n a w) (hn:a.heap.size≤n):Kq S a w:=⟨h.os,h.tape,h.output,h.size,fun i hi _=>h.block i (Nat.lt_of_lt_of_le hi hn)⟩
theorem Kq.drewN {S:Nat→Prop} {a w:World} (h:Kq S a w) (n:Nat):Kq S a (w.drewN n):=⟨h.os,h.tape,h.output,h.size,h.block⟩
theorem Kq.setCell {S:Nat→Prop} {a w:World} (h:Kq S a w) (p:Addr) (hp:S p.block) (v:Value):Kq S a (w.setCell p v) :=
 ⟨h.os,h.tape,h.output,by simpa using h.size,fun k hk hs=>(Below.heap_setCell w p v k (fun e=>hs (e ▸ hp))).trans (h.block k hk hs)⟩
theorem lt_of_cell {w:World} {b off:Nat} {v:Value} (h:w.cell? ⟨b,off,none⟩=some v):b < w.heap.size:=by
 rcases Nat.lt_or_ge b w.heap.size with hl | hl
 ·exact hl
 ·exfalso
  simp [World.cell?,Array.getElem?_eq_none hl] at h
theorem set_ne (W:World) (g o o':Nat) (v:Value) (h:o' ≠ o):(W.setCell ⟨g,o,none⟩ v).cell? ⟨g,o',none⟩=W.cell? ⟨g,o',none⟩ :=
 World.cell?_setCell_other _ _ _ _ (fun e=>h (congrArg Addr.off e).symm)
theorem set_eq (W:World) (g o:Nat) (v u:Value) (h:W.cell? ⟨g,o,none⟩=some u):(W.setCell ⟨g,o,none⟩ v).cell? ⟨g,o,none⟩=some v :=
 World.cell?_setCell_same _ _ _ h
theorem set_fz (W:World) (g o o':Nat) (v:Value):(W.setCell ⟨g,o,none⟩ v).frozen? ⟨g,o',none⟩=W.frozen? ⟨g,o',none⟩:=by simp
structure OwnR (W:World) (v:Value) (g n:Nat) (A:Nat→Value):Prop where
 sl:∃ pa cap,v = .slice pa n cap∧(0 < n→pa=some ⟨g,0,none⟩∧n≤cap)
 cell:∀ i,i < n→W.cell? ⟨g,i,none⟩=some (A i)
 fz : 0 < n→∀ j,W.frozen? ⟨g,j,none⟩=false
theorem OwnR.row {W:World} {v:Value} {g n:Nat} {A:Nat→Value} (h:OwnR W v g n A):RowV W v n A:=by
 obtain ⟨pa,cap,h1,h2⟩:=h.sl
 refine ⟨pa,cap,h1,fun hn=>⟨⟨g,0,none⟩,(h2 hn).1,(h2 hn).2,fun i hi=>?_⟩⟩
 have:=h.cell i hi
 rw [show (⟨g,0,none⟩:Addr).add i=⟨g,i,none⟩ from by
  by_cases e:i=0
  ·subst e;rfl
  ·simp [Addr.add,e]]
 exact this
theorem OwnR.block {W W':World} {v:Value} {g n:Nat} {A:Nat→Value} (h:OwnR W v g n A) (hb : 0 < n→W'.heap[g]? = W.heap[g]?):OwnR W' v g n A :=
 ⟨h.sl,fun i hi=>by rw [World.cell?_of_block (hb (by omega))];exact h.cell i hi,fun hn j=>by rw [World.frozen?_of_block (hb hn)];exact h.fz hn j⟩
structure MkR (w:World) (g n:Nat) (A M:Nat→Value) (i:Nat) (W:World):Prop where
 kq:Kq (fun k=>k=g) w W
 don:∀ j,j < i→W.cell? ⟨g,j,none⟩=some (M j)
 rest:∀ j,i≤j→j < n→W.cell? ⟨g,j,none⟩=some (A j)
 fz:∀ j,W.frozen? ⟨g,j,none⟩=false
theorem MkR.step {w W w6 : World} {g n i : Nat} {A M : Nat → Value} (h : MkR w g n A M i W) (hi : i < n) (hb : Below W.heap.size W w6) :
  w6.cell? ⟨g,i,none⟩=some (A i)∧w6.frozen? ⟨g,i,none⟩=false∧MkR w g n A M (i+1) (w6.setCell ⟨g,i,none⟩ (M i)):=by
 have hg:g < W.heap.size:=lt_of_cell (h.rest i (Nat.le_refl _) hi)
 have e6:∀ j,w6.cell? ⟨g,j,none⟩=W.cell? ⟨g,j,none⟩:=fun j=>World.cell?_of_block (hb.block g hg)
 have f6:∀ j,w6.frozen? ⟨g,j,none⟩=false:=fun j=>by rw [World.frozen?_of_block (hb.block g hg)];exact h.fz j
 have c:w6.cell? ⟨g,i,none⟩=some (A i):=by rw [e6];exact h.rest i (Nat.le_refl _) hi
 refine ⟨c,f6 i,⟨(h.kq.trans (Kq.of_below hb (Nat.le_refl _))).setCell _ rfl _,?_,?_,?_⟩⟩
 ·intro j hj
  by_cases e:j=i
  ·subst e;exact set_eq _ _ _ _ _ c
  ·rw [set_ne _ _ _ _ _ e,e6];exact h.don j (by omega)
 ·intro j h1 h2
  rw [set_ne _ _ _ _ _ (by omega),e6];exact h.rest j (by omega) h2
 ·intro j;rw [set_fz];exact f6 j
theorem lt_of_cell' {w:World} {p:Addr} {v:Value} (h:w.cell? p=some v):p.block < w.heap.size:=by
 rcases Nat.lt_or_ge p.block w.heap.size with hl | hl
 ·exact hl
 ·exfalso
  simp [World.cell?,Array.getElem?_eq_none hl] at h
theorem add_block (a:Addr) (i:Nat):(a.add i).block=a.block:=by
 unfold Addr.add
 split <;> rfl
theorem made_cell (w:World) (z:Value) (e n:Nat) (hz:z.cells = #[z]) (j:Nat) (hj:j < n):(w.alloc (.cells (madeCells z.cells (n*1)) e)).cell? ⟨w.heap.size,j,none⟩=some z:=by
 have hs:j < (madeCells z.cells (n*1)).size:=by rw [size_madeCells];omega
 have hg:(madeCells z.cells n)[j]? = some z:=by simp [madeCells,hz,hj,Nat.mod_one]
 simpa using hg
theorem made_fz (w:World) (c:Array Value) (e j:Nat):(w.alloc (.cells c e)).frozen? ⟨w.heap.size,j,none⟩=false:=by
 simp
end Go.Proofs.Ytamcnmnaadpfoaa.Fo
