import Derived.Test.YtomcmnompajnlaaGreatDoorBBaa
import Derived.Deep.RegionHeldLaw
import Derived.Deep.CutBlock
import Derived.Laws.MakeOwn
import Derived.OwnWalk
import Derived.WalkSpells
import Derived.Deep.Slices
import Derived.SizedLaws
import Derived.Carry
import Derived.Deep.QuietTactic
import Derived.BigQuiet
set_option maxRecDepth 100000
set_option maxHeartbeats 4000000
namespace Go.Proofs.YtomcmnompajnlaaGreatDoor.Fo
open Go.ChangeShapes Go.WideShapes Go.ChangeAt Go.RowKit
set_option linter.unusedVariables false
def lfs (A:Nat→ByteArray) (l:Int):Nat→Int
  | 0=>l
  | i+1=>lfs A l i - ((A i).size:Int)
theorem lfs_le (A:Nat→ByteArray) (l:Int) (i:Nat):lfs A l i≤l:=by
  induction i with
  | zero=>exact Int.le_refl _
  | succ i ih=>show lfs A l i - ((A i).size:Int)≤l;omega
theorem lfs_mono (A:Nat→ByteArray) (l:Int) {i n:Nat} (h:i≤n):lfs A l n≤lfs A l i:=by
  induction n with
  | zero => obtain rfl : i = 0 := by omega
            exact Int.le_refl _
  | succ n ih =>
    by_cases e:i=n+1
    · subst e;exact Int.le_refl _
    · have:=ih (by omega)
      show lfs A l n - ((A n).size:Int)≤_
      omega
theorem sz_strs {va : Value} {n : Nat} {A : Nat → ByteArray} (w : World) (l : Int) (ha : RowV w va n (fun i => .string (A i))) (hn : (n : Int) < 140737488355328) (hA : ∀ i, i < n → ((A i).size : Int) < 140737488355328) (hl0 : 0 ≤ l) (hl : l ≤ 1048576) :
    Calls Tryz.prog 96 #[va,.int .i64 l] w fun e w'=>e = .returned (.int .i64 (if lfs A (l - n) n < 0 then -1 else lfs A (l - n) n))∧w'=w:=by
  obtain ⟨pa,ca,rfl,ha2⟩:=ha
  have HA:Hid ((0 < n→∃ a:Addr,pa=some a∧n≤ca∧∀ i,i < n→w.cell? (a.add i)=some (.string (A i)))∧∀ i,i < n→((A i).size:Int) < 140737488355328):=(⟨ha2,hA⟩:_∧_)
  clear ha2 hA
  go_enter Tryz.func96,Tryz.ntmps96
  rcases Int.lt_or_le (l - n) 0 with h | h
  · rw [if_pos (Int.lt_of_le_of_lt (lfs_le A (l - n) n) h)]
    clear HA
    go_wp2_with fail
    go_ret
    exact ⟨rfl,rfl⟩
  · have h':¬ (l - n < 0):=by omega
    generalize hR:(if lfs A (l - n) n < 0 then (-1:Int) else lfs A (l - n) n)=R
    have HR:Hid ((if lfs A (l - n) n < 0 then (-1:Int) else lfs A (l - n) n)=R):=hR
    clear hR
    go_wp2_with fail
    go_loopw [1,5] (fun s1 s5 wr=>∃ (i:Nat) (x:Int),s1 = .int .i64 x∧s5 = .int .i64 (i:Int)∧i≤n∧0≤x∧x≤1048576∧wr=w∧Hid (x=lfs A (l - n) i)) (fun _ s5 _=>n - (intOf s5).toNat)
    case atStart=>exact ⟨0,l - n,rfl,rfl,Nat.zero_le _,by omega,by omega,rfl,(rfl:l - n=lfs A (l - n) 0)⟩
    case round =>
      obtain ⟨i,x,rfl,rfl,hin,hx0,hx1,rfl,HX⟩:=hrel
      rcases Nat.lt_or_ge i n with hi | hi
      · obtain ⟨a,rfl,hca,hra⟩:=(show (0 < n→∃ a:Addr,pa=some a∧n≤ca∧∀ i,i < n→wr.cell? (a.add i)=some (.string (A i)))∧∀ i,i < n→((A i).size:Int) < 140737488355328 from HA).1 (by omega)
        have hsz:=(show (0 < n→∃ a':Addr,some a=some a'∧n≤ca∧∀ i,i < n→wr.cell? (a'.add i)=some (.string (A i)))∧∀ i,i < n→((A i).size:Int) < 140737488355328 from HA).2 i hi
        have hiI:(i:Int) < (n:Int):=by omega
        have qa:=hra i hi
        have HX2:Hid (x - ((A i).size:Int)=lfs A (l - n) (i+1)):=by
          show x - ((A i).size:Int)=lfs A (l - n) i - ((A i).size:Int)
          rw [show x=lfs A (l - n) i from HX]
        have hneg:x - ((A i).size:Int) < 0→R = -1:=by
          intro hh
          rw [← show (if lfs A (l - n) n < 0 then (-1:Int) else lfs A (l - n) n)=R from HR,if_pos]
          have:=lfs_mono A (l - n) (show i+1≤n from hi)
          rw [← show x - ((A i).size:Int)=lfs A (l - n) (i+1) from HX2] at this
          omega
        have HN:Hid (x - ((A i).size:Int) < 0→R = -1):=hneg
        clear hra HA HX HR hin hneg
        have hs0:(0:Int)≤((A i).size:Int):=Int.natCast_nonneg _
        generalize hS:A i=S at *
        rcases Int.lt_or_le (x - (S.size:Int)) 0 with hx | hx
        · go_wp2_with fail
          go_ret
          rw [show R = -1 from HN hx]
          exact ⟨rfl,rfl⟩
        · have hx':¬ (x - (S.size:Int) < 0):=by omega
          clear HN
          go_wp2_with fail
          go_roundw
          case rel=>exact ⟨i+1,x - (S.size:Int),by go_num,by go_num,by omega,hx,by omega,by trivial,by first | exact HX2 | (simpa using HX2)⟩
          case measure=>simp [intOf];omega
      · obtain rfl:i=n:=by omega
        clear HA
        have HR2:Hid (x=R):=by
          show x=R
          rw [← show (if lfs A (l - i) i < 0 then (-1:Int) else lfs A (l - i) i)=R from HR,← show x=lfs A (l - i) i from HX,if_neg (by omega)]
        clear HR HX
        go_wp2_with fail
        go_ret
        rw [show x=R from HR2]
        exact ⟨rfl,rfl⟩
structure Kq (S:Nat→Prop) (a w:World):Prop where
  os:w.os=a.os
  tape:w.tape=a.tape
  output:w.output=a.output
  size:a.heap.size≤w.heap.size
  block:∀ k,k < a.heap.size→¬ S k→w.heap[k]? = a.heap[k]?
theorem Kq.refl (S:Nat→Prop) (a:World):Kq S a a:=⟨rfl,rfl,rfl,Nat.le_refl _,fun _ _ _=>rfl⟩
theorem Kq.trans {S:Nat→Prop} {a b c:World} (h:Kq S a b) (k:Kq S b c):Kq S a c :=
  ⟨k.os.trans h.os,k.tape.trans h.tape,k.output.trans h.output,Nat.le_trans h.size k.size,fun i hi hs=>(k.block i (Nat.lt_of_lt_of_le hi h.size) hs).trans (h.block i hi hs)⟩
theorem Kq.of_below {S:Nat→Prop} {n:Nat} {a w:World} (h:Below n a w) (hn:a.heap.size≤n):Kq S a w:=⟨h.os,h.tape,h.output,h.size,fun i hi _=>h.block i (Nat.lt_of_lt_of_le hi hn)⟩
theorem Kq.setCell {S:Nat→Prop} {a w:World} (h:Kq S a w) (p:Addr) (hp:S p.block) (v:Value):Kq S a (w.setCell p v) :=
  ⟨h.os,h.tape,h.output,by simpa using h.size,fun k hk hs=>(Below.heap_setCell w p v k (fun e=>hs (e ▸ hp))).trans (h.block k hk hs)⟩
theorem lt_of_cell {w:World} {b off:Nat} {v:Value} (h:w.cell? ⟨b,off,none⟩=some v):b < w.heap.size:=by
  rcases Nat.lt_or_ge b w.heap.size with hl | hl
  · exact hl
  · exfalso
    simp [World.cell?,Array.getElem?_eq_none hl] at h
theorem set_ne (W:World) (g o o':Nat) (v:Value) (h:o' ≠ o):(W.setCell ⟨g,o,none⟩ v).cell? ⟨g,o',none⟩=W.cell? ⟨g,o',none⟩ :=
  World.cell?_setCell_other _ _ _ _ (fun e=>h (congrArg Addr.off e).symm)
theorem set_eq (W:World) (g o:Nat) (v u:Value) (h:W.cell? ⟨g,o,none⟩=some u):(W.setCell ⟨g,o,none⟩ v).cell? ⟨g,o,none⟩=some v :=
  World.cell?_setCell_same _ _ _ h
theorem set_fz (W:World) (g o o':Nat) (v:Value):(W.setCell ⟨g,o,none⟩ v).frozen? ⟨g,o',none⟩=W.frozen? ⟨g,o',none⟩:=by simp
structure OwnR (W:World) (v:Value) (g n:Nat) (A:Nat→Value):Prop where
  sl:∃ pa cap,v = .slice pa n cap∧(0 < n→pa=some ⟨g,0,none⟩∧n≤cap)
  cell:∀ i,i < n→W.cell? ⟨g,i,none⟩=some (A i)
  fz : 0 < n→∀ j,W.frozen? ⟨g,j,none⟩=false
theorem OwnR.row {W:World} {v:Value} {g n:Nat} {A:Nat→Value} (h:OwnR W v g n A):RowV W v n A:=by
  obtain ⟨pa,cap,h1,h2⟩:=h.sl
  refine ⟨pa,cap,h1,fun hn=>⟨⟨g,0,none⟩,(h2 hn).1,(h2 hn).2,fun i hi=>?_⟩⟩
  have:=h.cell i hi
  rw [show (⟨g,0,none⟩:Addr).add i=⟨g,i,none⟩ from by
    by_cases e:i=0
    · subst e;rfl
    · simp [Addr.add,e]]
  exact this
theorem OwnR.block {W W':World} {v:Value} {g n:Nat} {A:Nat→Value} (h:OwnR W v g n A) (hb : 0 < n→W'.heap[g]? = W.heap[g]?):OwnR W' v g n A :=
  ⟨h.sl,fun i hi=>by rw [World.cell?_of_block (hb (by omega))];exact h.cell i hi,fun hn j=>by rw [World.frozen?_of_block (hb hn)];exact h.fz hn j⟩
structure MkR (w:World) (g n:Nat) (A M:Nat→Value) (i:Nat) (W:World):Prop where
  kq:Kq (fun k=>k=g) w W
  don:∀ j,j < i→W.cell? ⟨g,j,none⟩=some (M j)
  rest:∀ j,i≤j→j < n→W.cell? ⟨g,j,none⟩=some (A j)
  fz:∀ j,W.frozen? ⟨g,j,none⟩=false
theorem MkR.step {w W w6 : World} {g n i : Nat} {A M : Nat → Value} (h : MkR w g n A M i W) (hi : i < n) (hb : Below W.heap.size W w6) :
    w6.cell? ⟨g,i,none⟩=some (A i)∧w6.frozen? ⟨g,i,none⟩=false∧MkR w g n A M (i+1) (w6.setCell ⟨g,i,none⟩ (M i)):=by
  have hg:g < W.heap.size:=lt_of_cell (h.rest i (Nat.le_refl _) hi)
  have e6:∀ j,w6.cell? ⟨g,j,none⟩=W.cell? ⟨g,j,none⟩:=fun j=>World.cell?_of_block (hb.block g hg)
  have f6:∀ j,w6.frozen? ⟨g,j,none⟩=false:=fun j=>by rw [World.frozen?_of_block (hb.block g hg)];exact h.fz j
  have c:w6.cell? ⟨g,i,none⟩=some (A i):=by rw [e6];exact h.rest i (Nat.le_refl _) hi
  refine ⟨c,f6 i,⟨(h.kq.trans (Kq.of_below hb (Nat.le_refl _))).setCell _ rfl _,?_,?_,?_⟩⟩
  · intro j hj
    by_cases e:j=i
    · subst e;exact set_eq _ _ _ _ _ c
    · rw [set_ne _ _ _ _ _ e,e6];exact h.don j (by omega)
  · intro j h1 h2
    rw [set_ne _ _ _ _ _ (by omega),e6];exact h.rest j (by omega) h2
  · intro j;rw [set_fz];exact f6 j
theorem lt_of_cell' {w:World} {p:Addr} {v:Value} (h:w.cell? p=some v):p.block < w.heap.size:=by
  rcases Nat.lt_or_ge p.block w.heap.size with hl | hl
  · exact hl
  · exfalso
    simp [World.cell?,Array.getElem?_eq_none hl] at h
theorem made_cell (w:World) (z:Value) (e n:Nat) (hz:z.cells = #[z]) (j:Nat) (hj:j < n):(w.alloc (.cells (madeCells z.cells (n*1)) e)).cell? ⟨w.heap.size,j,none⟩=some z:=by
  have hs:j < (madeCells z.cells (n*1)).size:=by rw [size_madeCells];omega
  have hg:(madeCells z.cells n)[j]? = some z:=by simp [madeCells,hz,hj,Nat.mod_one]
  simpa using hg
theorem made_fz (w:World) (c:Array Value) (e j:Nat):(w.alloc (.cells c e)).frozen? ⟨w.heap.size,j,none⟩=false:=by
  simp
theorem to_ints {va : Value} {n : Nat} {A : Nat → Int} (w : World) (ha : RowV w va n (fun i => .int .i64 (A i))) (hn : n ≤ 1048576) :
    Calls Tryz.prog 106 #[va] w fun e w'=>∃ v,e = .returned v∧OwnR w' v w.heap.size n (fun i=>.int .i64 (A i))∧Below w.heap.size w w'∧w.heap.size < w'.heap.size:=by
  obtain ⟨pa,ca,rfl,ha2⟩:=ha
  have hnI:(n:Int)≤1048576:=by omega
  have hmk:=run_make (P:=Tryz.prog) w 36 3 Tryz.t3 (.int .i64 0) Tryz.underlying36 (by kernel_rfl) (by kernel_rfl) .i64 .i64 (n:Int) (n:Int) (by omega) (Int.le_refl _) (by show (8:Int)*(n:Int)≤_;omega) (by omega)
  rw [Int.toNat_natCast] at hmk
  obtain ⟨w1,hw1⟩:∃ w1,w1=w.alloc (.cells (madeCells (.int .i64 0:Value).cells (n*Tryz.t3.size)) 3):=⟨_,rfl⟩
  rw [← hw1] at hmk
  have c1:∀ j,j < n→w1.cell? ⟨w.heap.size,j,none⟩=some (.int .i64 0):=by intro j hj;rw [hw1];exact made_cell w _ 3 n rfl j hj
  have f1:∀ j,w1.frozen? ⟨w.heap.size,j,none⟩=false:=by intro j;rw [hw1];exact made_fz _ _ _ _
  have b1:Below w.heap.size w w1:=by rw [hw1];exact (Below.refl _ w).alloc (Nat.le_refl _) _
  have l1:w.heap.size < w1.heap.size:=by rw [hw1];simp
  have HI0:Hid (MkR w1 w.heap.size n (fun _=>.int .i64 0) (fun i=>.int .i64 (A i)) 0 w1):=(⟨Kq.refl _ _,fun i hi=>by omega,fun i _ hi=>c1 i hi,f1⟩:MkR w1 w.heap.size n _ _ 0 w1)
  have HA:Hid ((0 < n→∃ a:Addr,pa=some a∧n≤ca∧∀ i,i < n→w.cell? (a.add i)=some (.int .i64 (A i)))∧Below w.heap.size w w1∧w.heap.size < w1.heap.size):=(⟨ha2,b1,l1⟩:_∧_∧_)
  clear ha2 b1 c1 f1 hw1 hn l1
  obtain ⟨G,hG⟩:∃ G,G=w.heap.size:=⟨_,rfl⟩
  rw [← hG] at hmk HI0 ⊢
  have HG:Hid (G=w.heap.size):=hG
  clear hG
  go_enter Tryz.func106,Tryz.ntmps106
  go_wp2_with fail
  go_loopw [4] (fun s4 wr=>∃ i:Nat,s4 = .int .i64 (i:Int)∧i≤n∧Hid (MkR w1 G n (fun _=>.int .i64 0) (fun i=>.int .i64 (A i)) i wr)) (fun s4 _=>n - (intOf s4).toNat)
  case atStart=>exact ⟨0,rfl,Nat.zero_le _,HI0⟩
  case round =>
    clear HI0 hmk
    obtain ⟨i,rfl,hin,HI⟩:=hrel
    have hI:=(show MkR w1 G n (fun _=>.int .i64 0) (fun i=>.int .i64 (A i)) i wr from HI)
    have hA:=(show (0 < n→∃ a:Addr,pa=some a∧n≤ca∧∀ i,i < n→w.cell? (a.add i)=some (.int .i64 (A i)))∧Below w.heap.size w w1∧w.heap.size < w1.heap.size from HA)
    rcases Nat.lt_or_ge i n with hi | hi
    · have hiI:(i:Int) < (n:Int):=by omega
      obtain ⟨a,rfl,hca,hra⟩:=hA.1 (by omega)
      have q0:=hra i hi
      have hl:=lt_of_cell' q0
      have qa:wr.cell? (a.add i)=some (.int .i64 (A i)):=by
        rw [World.cell?_of_block (w:=w1) (hI.kq.block _ (Nat.lt_of_lt_of_le hl hA.2.1.size) (by rw [show G=w.heap.size from HG];omega)),hA.2.1.cell hl]
        exact q0
      obtain ⟨c,f,hM⟩:=hI.step hi (Below.refl _ _)
      have HM:Hid (MkR w1 G n (fun _=>.int .i64 0) (fun i=>.int .i64 (A i)) (i+1) (wr.setCell ⟨G,i,none⟩ (.int .i64 (A i)))):=hM
      clear hM hI HI hin hA HA hra q0 hl HG
      generalize A i=y at qa HM
      go_wp2_with fail
      go_roundw
      case rel=>exact ⟨i+1,by go_num,by omega,HM⟩
      case measure=>simp [intOf];omega
    · obtain rfl:i=n:=by omega
      have HE:Hid (MkR w1 G i (fun _=>.int .i64 0) (fun i=>.int .i64 (A i)) i wr∧Below w.heap.size w w1∧G=w.heap.size∧w.heap.size < w1.heap.size):=(⟨hI,hA.2.1,HG,hA.2.2⟩:_∧_∧_∧_)
      clear HI hI hA HA HG
      go_wp2_with fail
      go_ret
      obtain ⟨hE,hB,rfl,hL⟩:=(show MkR w1 G i (fun _=>.int .i64 0) (fun i=>.int .i64 (A i)) i wr∧Below w.heap.size w w1∧G=w.heap.size∧w.heap.size < w1.heap.size from HE)
      refine ⟨_,rfl,⟨⟨_,_,rfl,fun _=>⟨rfl,Nat.le_refl _⟩⟩,fun j hj=>hE.don j hj,fun _ j=>hE.fz j⟩,?_,Nat.lt_of_lt_of_le hL hE.kq.size⟩
      exact ⟨hE.kq.os.trans hB.os,hE.kq.tape.trans hB.tape,hE.kq.output.trans hB.output,Nat.le_trans hB.size hE.kq.size,fun k hk=>(hE.kq.block k (Nat.lt_of_lt_of_le hk hB.size) (by omega)).trans (hB.block k hk)⟩
theorem to_strs {va : Value} {n : Nat} {A : Nat → ByteArray} (w : World) (ha : RowV w va n (fun i => .string (A i))) (hn : n ≤ 1048576) :
    Calls Tryz.prog 105 #[va] w fun e w'=>∃ v,e = .returned v∧OwnR w' v w.heap.size n (fun i=>.string (A i))∧Below w.heap.size w w'∧w.heap.size < w'.heap.size:=by
  obtain ⟨pa,ca,rfl,ha2⟩:=ha
  have hnI:(n:Int)≤1048576:=by omega
  have hmk:=run_make (P:=Tryz.prog) w 62 9 Tryz.t9 (.string ⟨#[]⟩) Tryz.underlying62 (by kernel_rfl) (by kernel_rfl) .i64 .i64 (n:Int) (n:Int) (by omega) (Int.le_refl _) (by show (16:Int)*(n:Int)≤_;omega) (by omega)
  rw [Int.toNat_natCast] at hmk
  obtain ⟨w1,hw1⟩:∃ w1,w1=w.alloc (.cells (madeCells (.string ⟨#[]⟩:Value).cells (n*Tryz.t9.size)) 9):=⟨_,rfl⟩
  rw [← hw1] at hmk
  have c1:∀ j,j < n→w1.cell? ⟨w.heap.size,j,none⟩=some (.string ⟨#[]⟩):=by intro j hj;rw [hw1];exact made_cell w _ 9 n rfl j hj
  have f1:∀ j,w1.frozen? ⟨w.heap.size,j,none⟩=false:=by intro j;rw [hw1];exact made_fz _ _ _ _
  have b1:Below w.heap.size w w1:=by rw [hw1];exact (Below.refl _ w).alloc (Nat.le_refl _) _
  have l1:w.heap.size < w1.heap.size:=by rw [hw1];simp
  have HI0:Hid (MkR w1 w.heap.size n (fun _=>.string ⟨#[]⟩) (fun i=>.string (A i)) 0 w1):=(⟨Kq.refl _ _,fun i hi=>by omega,fun i _ hi=>c1 i hi,f1⟩:MkR w1 w.heap.size n _ _ 0 w1)
  have HA:Hid ((0 < n→∃ a:Addr,pa=some a∧n≤ca∧∀ i,i < n→w.cell? (a.add i)=some (.string (A i)))∧Below w.heap.size w w1∧w.heap.size < w1.heap.size):=(⟨ha2,b1,l1⟩:_∧_∧_)
  clear ha2 b1 c1 f1 hw1 hn l1
  obtain ⟨G,hG⟩:∃ G,G=w.heap.size:=⟨_,rfl⟩
  rw [← hG] at hmk HI0 ⊢
  have HG:Hid (G=w.heap.size):=hG
  clear hG
  go_enter Tryz.func105,Tryz.ntmps105
  go_wp2_with fail
  go_loopw [4] (fun s4 wr=>∃ i:Nat,s4 = .int .i64 (i:Int)∧i≤n∧Hid (MkR w1 G n (fun _=>.string ⟨#[]⟩) (fun i=>.string (A i)) i wr)) (fun s4 _=>n - (intOf s4).toNat)
  case atStart=>exact ⟨0,rfl,Nat.zero_le _,HI0⟩
  case round =>
    clear HI0 hmk
    obtain ⟨i,rfl,hin,HI⟩:=hrel
    have hI:=(show MkR w1 G n (fun _=>.string ⟨#[]⟩) (fun i=>.string (A i)) i wr from HI)
    have hA:=(show (0 < n→∃ a:Addr,pa=some a∧n≤ca∧∀ i,i < n→w.cell? (a.add i)=some (.string (A i)))∧Below w.heap.size w w1∧w.heap.size < w1.heap.size from HA)
    rcases Nat.lt_or_ge i n with hi | hi
    · have hiI:(i:Int) < (n:Int):=by omega
      obtain ⟨a,rfl,hca,hra⟩:=hA.1 (by omega)
      have q0:=hra i hi
      have hl:=lt_of_cell' q0
      have qa:wr.cell? (a.add i)=some (.string (A i)):=by
        rw [World.cell?_of_block (w:=w1) (hI.kq.block _ (Nat.lt_of_lt_of_le hl hA.2.1.size) (by rw [show G=w.heap.size from HG];omega)),hA.2.1.cell hl]
        exact q0
      obtain ⟨c,f,hM⟩:=hI.step hi (Below.refl _ _)
      have HM:Hid (MkR w1 G n (fun _=>.string ⟨#[]⟩) (fun i=>.string (A i)) (i+1) (wr.setCell ⟨G,i,none⟩ (.string (A i)))):=hM
      clear hM hI HI hin hA HA hra q0 hl HG
      generalize A i=y at qa HM
      go_wp2_with fail
      go_roundw
      case rel=>exact ⟨i+1,by go_num,by omega,HM⟩
      case measure=>simp [intOf];omega
    · obtain rfl:i=n:=by omega
      have HE:Hid (MkR w1 G i (fun _=>.string ⟨#[]⟩) (fun i=>.string (A i)) i wr∧Below w.heap.size w w1∧G=w.heap.size∧w.heap.size < w1.heap.size):=(⟨hI,hA.2.1,HG,hA.2.2⟩:_∧_∧_∧_)
      clear HI hI hA HA HG
      go_wp2_with fail
      go_ret
      obtain ⟨hE,hB,rfl,hL⟩:=(show MkR w1 G i (fun _=>.string ⟨#[]⟩) (fun i=>.string (A i)) i wr∧Below w.heap.size w w1∧G=w.heap.size∧w.heap.size < w1.heap.size from HE)
      refine ⟨_,rfl,⟨⟨_,_,rfl,fun _=>⟨rfl,Nat.le_refl _⟩⟩,fun j hj=>hE.don j hj,fun _ j=>hE.fz j⟩,?_,Nat.lt_of_lt_of_le hL hE.kq.size⟩
      exact ⟨hE.kq.os.trans hB.os,hE.kq.tape.trans hB.tape,hE.kq.output.trans hB.output,Nat.le_trans hB.size hE.kq.size,fun k hk=>(hE.kq.block k (Nat.lt_of_lt_of_le hk hB.size) (by omega)).trans (hB.block k hk)⟩
structure Fv where
  k:Int
  f:Int
  t:Int
  l:Int
  o:Int
  m:Int
  x:ByteArray
def fmv (a:Fv) (vn vk:Value):Value:=.agg #[.int .i64 a.k,.int .i64 a.f,.int .i64 a.t,.int .i64 a.l,.int .i64 a.o,.int .i64 a.m,.string a.x,vn,vk]
theorem RowV.below {W W':World} {v:Value} {n:Nat} {A:Nat→Value} (h:RowV W v n A) (hb:Below W.heap.size W W'):RowV W' v n A:=by
  obtain ⟨pa,cap,h1,h2⟩:=h
  refine ⟨pa,cap,h1,fun hn=>?_⟩
  obtain ⟨a,ha,hc,hr⟩:=h2 hn
  exact ⟨a,ha,hc,fun i hi=>(hb.cell (lt_of_cell' (hr i hi))).trans (hr i hi)⟩
theorem bdn {B:Nat} {a w:World} (h:Below B a w) (n:Nat):Below B a (w.drewN n):=⟨h.os,h.tape,h.output,h.size,h.block⟩
theorem bel2 (w:World) (a b:Obj):Below w.heap.size w ((w.alloc a).alloc b):=((Below.refl _ w).alloc (Nat.le_refl _) _).alloc (by simp) _
theorem bel1 (w:World) (a:Obj):Below w.heap.size w (w.alloc a):=(Below.refl _ w).alloc (Nat.le_refl _) _
def szf (x:ByteArray) (p:Nat) (A:Nat→ByteArray) (q:Nat) (l:Int):Int :=
  if l - (x.size:Int) < 0 then -1 else if lfs A (l - (x.size:Int) - p) p < 0 then -1 else if lfs A (l - (x.size:Int) - p) p - q < 0 then -1 else lfs A (l - (x.size:Int) - p) p - q
theorem szf_le (x:ByteArray) (p:Nat) (A:Nat→ByteArray) (q:Nat) (l:Int) (hl : 0≤l):szf x p A q l≤l:=by
  unfold szf
  have:=lfs_le A (l - (x.size:Int) - p) p
  split
  · omega
  · split
    · omega
    · split <;> omega
theorem bel3 (w:World) (a b c:Obj):Below w.heap.size w (((w.alloc a).alloc b).alloc c):=(bel2 w a b).alloc (by simp;omega) _
theorem al3 (w : World) (c0 c1 c2 : Array Value) (t0 t1 t2 : TypeId) (W : World) (hW : W = ((w.alloc (.cells c0 t0)).alloc (.cells c1 t1)).alloc (.cells c2 t2)) :
    (∀ j,W.cell? ⟨w.heap.size,j,none⟩=c0[j]?)∧(∀ j,W.cell? ⟨w.heap.size+1,j,none⟩=c1[j]?)∧(∀ j,W.cell? ⟨w.heap.size+1+1,j,none⟩=c2[j]?)∧(∀ j,W.frozen? ⟨w.heap.size+1,j,none⟩=false)∧(∀ j,W.frozen? ⟨w.heap.size+1+1,j,none⟩=false)∧W.heap.size=w.heap.size+1+1+1:=by
  subst hW
  refine ⟨fun j=>?_,fun j=>?_,fun j=>?_,fun j=>?_,fun j=>?_,by simp⟩
  · rw [World.cell?_alloc_past _ _ _ (by simp;omega),World.cell?_alloc_past _ _ _ (by simp),World.cell?_alloc_at _ _ _ _ rfl]
  · rw [World.cell?_alloc_past _ _ _ (by simp),World.cell?_alloc_at _ _ _ _ (by simp)]
  · rw [World.cell?_alloc_at _ _ _ _ (by simp)]
  · rw [World.frozen?_alloc_past _ _ _ (by simp),World.frozen?_alloc_at _ _ _ _ (by simp)]
  · rw [World.frozen?_alloc_at _ _ _ _ (by simp)]
structure Cel9 (W:World) (b:Addr) (a:Fv) (vn vk:Value):Prop where
  c0:W.cell? b=some (.int .i64 a.k)
  c1:W.cell? ⟨b.block,b.off+1,none⟩=some (.int .i64 a.f)
  c2:W.cell? ⟨b.block,b.off+2,none⟩=some (.int .i64 a.t)
  c3:W.cell? ⟨b.block,b.off+3,none⟩=some (.int .i64 a.l)
  c4:W.cell? ⟨b.block,b.off+4,none⟩=some (.int .i64 a.o)
  c5:W.cell? ⟨b.block,b.off+5,none⟩=some (.int .i64 a.m)
  c6:W.cell? ⟨b.block,b.off+6,none⟩=some (.string a.x)
  c7:W.cell? ⟨b.block,b.off+7,none⟩=some vn
  c8:W.cell? ⟨b.block,b.off+8,none⟩=some vk
structure Gv where
  a:Fv
  p:Nat
  A:Nat→ByteArray
  q:Nat
  K:Nat→Int
def FormC (W:World) (b:Addr) (g:Gv):Prop:=∃ vn vk,Cel9 W b g.a vn vk∧RowV W vn g.p (fun i=>.string (g.A i))∧RowV W vk g.q (fun i=>.int .i64 (g.K i))
def RowF (W:World) (v:Value) (n:Nat) (F:Nat→Gv):Prop :=
  ∃ pa cap,v = .slice pa n cap∧(0 < n→∃ a:Addr,pa=some a∧n≤cap∧∀ i,i < n→FormC W (a.add (i*9)) (F i))
theorem Cel9.below {W W':World} {b:Addr} {a:Fv} {vn vk:Value} (h:Cel9 W b a vn vk) (hb:Below W.heap.size W W'):Cel9 W' b a vn vk:=by
  have hl:=lt_of_cell' h.c0
  have e:∀ j,W'.cell? ⟨b.block,j,none⟩=W.cell? ⟨b.block,j,none⟩:=fun j=>hb.cell (p:=⟨b.block,j,none⟩) hl
  exact ⟨(hb.cell hl).trans h.c0,(e _).trans h.c1,(e _).trans h.c2,(e _).trans h.c3,(e _).trans h.c4,(e _).trans h.c5,(e _).trans h.c6,(e _).trans h.c7,(e _).trans h.c8⟩
theorem szf_sub (x:ByteArray) (p:Nat) (A:Nat→ByteArray) (q:Nat) (l:Int) (h : 0≤szf x p A q l):szf x p A q l+(p:Int)+(q:Int)≤l:=by
  unfold szf at h ⊢
  have:=lfs_le A (l - (x.size:Int) - p) p
  split at h
  · omega
  · rename_i h1
    rw [if_neg h1]
    split at h
    · omega
    · rename_i h2
      rw [if_neg h2]
      split at h
      · omega
      · rename_i h3
        rw [if_neg h3]
        omega
structure Kc (g lo hi:Nat) (S:Nat→Prop) (a w:World):Prop where
  os:w.os=a.os
  tape:w.tape=a.tape
  output:w.output=a.output
  size:a.heap.size≤w.heap.size
  block:∀ k,k < a.heap.size→k ≠ g→¬ S k→w.heap[k]? = a.heap[k]?
  cell:∀ o,¬ (lo≤o∧o < hi)→w.cell? ⟨g,o,none⟩=a.cell? ⟨g,o,none⟩
  fz:∀ o,w.frozen? ⟨g,o,none⟩=a.frozen? ⟨g,o,none⟩
theorem Kc.refl (g lo hi:Nat) (S:Nat→Prop) (a:World):Kc g lo hi S a a:=⟨rfl,rfl,rfl,Nat.le_refl _,fun _ _ _ _=>rfl,fun _ _=>rfl,fun _=>rfl⟩
theorem Kc.set {g lo hi:Nat} {S:Nat→Prop} {a w:World} (h:Kc g lo hi S a w) (o:Nat) (h1:lo≤o) (h2:o < hi) (v:Value):Kc g lo hi S a (w.setCell ⟨g,o,none⟩ v) :=
  ⟨h.os,h.tape,h.output,by simpa using h.size,fun k hk hg hs=>(Below.heap_setCell w _ v k hg).trans (h.block k hk hg hs),
    fun o' ho=>(set_ne _ _ _ _ _ (fun e=>ho (by omega))).trans (h.cell o' ho),fun o'=>(set_fz _ _ _ _ _).trans (h.fz o')⟩
theorem Kc.kq {g lo hi:Nat} {S T:Nat→Prop} {a w w':World} (h:Kc g lo hi S a w) (hq:Kq T w w') (hT:∀ k,T k→S k∧k ≠ g) (hg:g < a.heap.size):Kc g lo hi S a w':=by
  have hgw:w'.heap[g]? = w.heap[g]?:=hq.block g (Nat.lt_of_lt_of_le hg h.size) (fun e=>(hT g e).2 rfl)
  exact ⟨hq.os.trans h.os,hq.tape.trans h.tape,hq.output.trans h.output,Nat.le_trans h.size hq.size,
    fun k hk hn hs=>(hq.block k (Nat.lt_of_lt_of_le hk h.size) (fun e=>hs (hT k e).1)).trans (h.block k hk hn hs),
    fun o ho=>(World.cell?_of_block hgw).trans (h.cell o ho),fun o=>(World.frozen?_of_block hgw).trans (h.fz o)⟩
theorem Kc.below {g lo hi:Nat} {S:Nat→Prop} {a w w':World} (h:Kc g lo hi S a w) (hb:Below w.heap.size w w') (hg:g < a.heap.size):Kc g lo hi S a w' :=
  h.kq (T:=fun _=>False) (Kq.of_below hb (Nat.le_refl _)) (fun _ f=>f.elim) hg
theorem add0 (g i:Nat):(⟨g,0,none⟩:Addr).add i=⟨g,i,none⟩:=by
  by_cases e:i=0
  · subst e;rfl
  · simp [Addr.add,e]
theorem qr_cells (w:World) (c:Array Value) (t:TypeId) (l:List Value) (hl:c.toList=l):∀ j u,l[j]? = some u→(w.alloc (.cells c t)).cell? ((⟨w.heap.size,0,none⟩:Addr).add j)=some u:=by
  intro j u hj
  subst hl
  rw [add0,World.cell?_alloc_mark]
  simpa using hj
theorem cells3:Tryz.prog.cellsOf 3=1:=by kernel_rfl
theorem cells2:Tryz.prog.cellsOf 2=1:=by kernel_rfl
theorem cells9:Tryz.prog.cellsOf 9=1:=by kernel_rfl
theorem cells35:Tryz.prog.cellsOf 62=1:=by kernel_rfl
theorem cells36:Tryz.prog.cellsOf 36=1:=by kernel_rfl
theorem bytes3:Tryz.prog.bytesOf 3=8:=by kernel_rfl
theorem bytes9:Tryz.prog.bytesOf 9=16:=by kernel_rfl
def strOf:Value→ByteArray
  | .string s=>s
  | _=>⟨#[]⟩
def numOf:Value→Int
  | .int _ z=>z
  | _=>0
def Sz {H:Type} (t:TypeId) (d:DataW H):Prop:=∀ n ∈ d.weights Tryz.prog t,n≤140737488351232
theorem weightsAll_mem {H:Type} {e:TypeId}:∀ {l:List (DataW H)} {d:DataW H} {n:Nat},d ∈ l→n ∈ d.weights Tryz.prog e→n ∈ DataW.weightsAll Tryz.prog e l
  | [],_,_,h,_=>by cases h
  | x :: r,d,n,h,hn=>by
    simp only [DataW.weightsAll,List.mem_append]
    rcases List.mem_cons.1 h with rfl | h
    · exact Or.inl hn
    · exact Or.inr (weightsAll_mem h hn)
theorem Sz.head {H:Type} {t e:TypeId} {el sp:List (DataW H)} (h:Sz t (.slice el sp)) (ht:Tryz.prog.underlying t=some (.slice e)):(el.length+sp.length)*Tryz.prog.bytesOf e≤140737488351232:=h _ (by simp [DataW.weights,ht])
theorem Sz.elem {H:Type} {t e:TypeId} {el sp:List (DataW H)} (h:Sz t (.slice el sp)) (ht:Tryz.prog.underlying t=some (.slice e)) {d:DataW H} (hd:d ∈ el):Sz e d:=fun n hn=>h n (by
  simp only [DataW.weights,ht,List.mem_cons,List.mem_append]
  exact Or.inr (Or.inl (weightsAll_mem hd hn)))
section
variable {H:Type} {enc:TypeId × Value→H} {w:World} {base:Nat} {sp:Nat→Bool} {held:Bool}
theorem read_ints {fuel : Nat} {cs : List Value} {x : DataW H × List MemPlace} (h : DataW.trod enc Tryz.prog w base sp held fuel 36 cs = some x) (hz : Sz 36 x.1) :
    ∃ (v:Value) (n:Nat) (A:Nat→Int),cs = [v]∧RowV w v n (fun i=>.int .i64 (A i))∧(n:Int) < 140737488355328:=by
  rcases Deep.open_slice1 Tryz.underlying36 cells3 h with ⟨rfl,rfl⟩ | ⟨a,len,cap,m,n,V,D,Pl,rfl,hb,hl,hm,hmm,rfl,hx⟩
  · exact ⟨.slice none 0 0,0,fun _=>0,rfl,⟨none,0,rfl,fun f=>by omega⟩,by omega⟩
  · have hle:len≤m:=by rw [hmm];split <;> omega
    have hh:=hz.head Tryz.underlying36
    rw [bytes3] at hh
    simp only [List.length_map,List.length_range] at hh
    refine ⟨_,len,fun i=>numOf (V i),rfl,⟨some a,cap,rfl,fun _=>⟨a,rfl,hl,fun i hi=>?_⟩⟩,by omega⟩
    obtain ⟨h1,h2⟩:=hx i (by omega)
    obtain ⟨z,e1,_⟩:=DataW.trod_int Tryz.underlying3 h2
    simp only [List.cons.injEq,and_true] at e1
    rw [h1]
    show some (V i)=some (.int .i64 (numOf (V i)))
    rw [e1];rfl
theorem read_strs {fuel : Nat} {cs : List Value} {x : DataW H × List MemPlace} (h : DataW.trod enc Tryz.prog w base sp held fuel 62 cs = some x) (hz : Sz 62 x.1) :
    ∃ (v:Value) (n:Nat) (A:Nat→ByteArray),cs = [v]∧RowV w v n (fun i=>.string (A i))∧(n:Int) < 140737488355328∧∀ i,i < n→((A i).size:Int) < 140737488355328:=by
  rcases Deep.open_slice1 Tryz.underlying62 cells9 h with ⟨rfl,rfl⟩ | ⟨a,len,cap,m,n,V,D,Pl,rfl,hb,hl,hm,hmm,rfl,hx⟩
  · exact ⟨.slice none 0 0,0,fun _=>⟨#[]⟩,rfl,⟨none,0,rfl,fun f=>by omega⟩,by omega,fun i hi=>by omega⟩
  · have hle:len≤m:=by rw [hmm];split <;> omega
    have hh:=hz.head Tryz.underlying62
    rw [bytes9] at hh
    simp only [List.length_map,List.length_range] at hh
    refine ⟨_,len,fun i=>strOf (V i),rfl,⟨some a,cap,rfl,fun _=>⟨a,rfl,hl,fun i hi=>?_⟩⟩,by omega,fun i hi=>?_⟩
    · obtain ⟨h1,h2⟩:=hx i (by omega)
      obtain ⟨z,e1,_⟩:=DataW.trod_string Tryz.underlying9 h2
      simp only [List.cons.injEq,and_true] at e1
      rw [h1]
      show some (V i)=some (.string (strOf (V i)))
      rw [e1];rfl
    · obtain ⟨h1,h2⟩:=hx i (by omega)
      obtain ⟨z,e1,e2,_⟩:=DataW.trod_string Tryz.underlying9 h2
      simp only [List.cons.injEq,and_true] at e1
      have hs:=hz.elem Tryz.underlying62 (d:=D i) (List.mem_map.2 ⟨i,List.mem_range.2 hi,rfl⟩)
      rw [show D i = .lit (.string z.data.toList) from congrArg Prod.fst e2] at hs
      have:=hs z.data.toList.length (by simp [DataW.weights])
      show ((strOf (V i)).size:Int) < _
      rw [e1]
      show ((z.size:Nat):Int) < _
      have e:z.size=z.data.toList.length:=by simp
      omega
end
noncomputable def dc (p:Prop):Bool:=@decide p (Classical.propDecidable p)
theorem dc_t {p:Prop} (h:p):dc p=true:=@decide_eq_true p (Classical.propDecidable p) h
theorem dc_f {p:Prop} (h:¬ p):dc p=false:=@decide_eq_false p (Classical.propDecidable p) h
theorem dc_iff {p q:Prop} (h:p↔q):dc p=dc q:=by rw [show p=q from propext h]
theorem bne {k m:Int} (h:k ≠ m):(k == m)=false:=beq_eq_false_iff_ne.2 h
theorem beq1 {k m:Int} (h:k=m):(k == m)=true:=beq_iff_eq.2 h
theorem str0 {x:ByteArray} (h:x=⟨#[]⟩):x.toList = []:=by rw [Lib.toList_data,h]
theorem str1 {x:ByteArray} (h:¬ x=⟨#[]⟩):¬ x.toList = []:=by
  rw [Lib.toList_data]
  intro e
  exact h (by apply ByteArray.ext;exact Array.toList_inj.1 (by simpa using e))
theorem nat0 {p:Nat} (h:p=0):((p:Int) == 0)=true:=by subst h;rfl
theorem nat1 {p:Nat} (h:¬ p=0):((p:Int) == 0)=false:=bne (by omega)
def NmS (nm:ByteArray→Prop):Prop:=∀ x w,Calls Tryz.prog 104 #[.string x] w fun e w'=>e = .returned (.bool (dc (nm x)))∧Below w.heap.size w w'
def kdk (F:Nat→Gv) (K:Nat→Int) (j:Nat):Int:=(F (K j).toNat).a.k
theorem below_to {a W W':World} (h:Below a.heap.size a W) (k:Below W.heap.size W W'):Below a.heap.size a W':=h.trans (k.mono h.size)
def Nt (p:Prop):Prop:=¬ p
structure Bx (W:World) (b:Nat) (a:Fv) (vn vk:Value):Prop where
  c0:W.cell? ⟨b,0,none⟩=some (.int .i64 a.k)
  c1:W.cell? ⟨b,1,none⟩=some (.int .i64 a.f)
  c2:W.cell? ⟨b,2,none⟩=some (.int .i64 a.t)
  c3:W.cell? ⟨b,3,none⟩=some (.int .i64 a.l)
  c4:W.cell? ⟨b,4,none⟩=some (.int .i64 a.o)
  c5:W.cell? ⟨b,5,none⟩=some (.int .i64 a.m)
  c6:W.cell? ⟨b,6,none⟩=some (.string a.x)
  c7:W.cell? ⟨b,7,none⟩=some vn
  c8:W.cell? ⟨b,8,none⟩=some vk
theorem Bx.new (W:World) (a:Fv) (vn vk:Value) (t:TypeId):Bx (W.alloc (.cells #[.int .i64 a.k,.int .i64 a.f,.int .i64 a.t,.int .i64 a.l,.int .i64 a.o,.int .i64 a.m,.string a.x,vn,vk] t)) W.heap.size a vn vk:=by
  have e:∀ j,(W.alloc (.cells #[.int .i64 a.k,.int .i64 a.f,.int .i64 a.t,.int .i64 a.l,.int .i64 a.o,.int .i64 a.m,.string a.x,vn,vk] t)).cell? ⟨W.heap.size,j,none⟩=(#[.int .i64 a.k,.int .i64 a.f,.int .i64 a.t,.int .i64 a.l,.int .i64 a.o,.int .i64 a.m,.string a.x,vn,vk]:Array Value)[j]?:=fun j=>World.cell?_alloc_at _ _ _ _ rfl
  exact ⟨e 0,e 1,e 2,e 3,e 4,e 5,e 6,e 7,e 8⟩
def br (a:Fv) (p:Nat) (op num text names:Bool):Prop:=(op=true∨a.o=0)∧(num=true∨a.m=0)∧(text=true∨a.x=⟨#[]⟩)∧(names=true∨p=0)
def nd (nm:ByteArray→Prop) (p:Nat) (A:Nat→ByteArray) (x y:Int):Prop:=x≤(p:Int)∧(p:Int)≤y∧∀ j,j < p→nm (A j)
def ex (F:Nat→Gv) (K:Nat→Int) (i k:Nat):Prop:=∀ j,i≤j→j < k→20≤kdk F K j∧kdk F K j≤37
section
variable {nm:ByteArray→Prop} {W2:World} {b:Nat} {v:Value} {n:Nat} {F:Nat→Gv} {a:Fv} {vn vk:Value} {p:Nat} {A:Nat→ByteArray} {q:Nat} {K:Nat→Int}
end
def shk (nm fl:ByteArray→Prop) (F:Nat→Gv) (a:Fv) (p:Nat) (A:Nat→ByteArray) (q:Nat) (K:Nat→Int):Prop :=
  if a.k=1 then ((∀ j,j < q→1≤kdk F K j∧kdk F K j≤16)∧br a p false false false false)
  else if a.k=2 then (br a p false false false true∧nd nm p A 1 200∧ex F K 0 q)
  else if a.k=3 then (br a p false false false true∧nd nm p A 1 1∧q=1∧ex F K 0 1)
  else if a.k=4 then (br a p false false false true∧nd nm p A 1 1∧q=1∧kdk F K 0=36)
  else if a.k=5 then (br a p false true false false∧1≤a.m∧a.m < (q:Int)∧(∀ j,j < a.m.toNat→kdk F K j=26∨kdk F K j=32∨kdk F K j=33)∧ex F K a.m.toNat q)
  else if a.k=6 then (br a p false false false false∧q=1∧kdk F K 0=34)
  else if a.k=7 then (br a p false false false false∧(q=2∨q=3)∧ex F K 0 1∧kdk F K 1=1∧(q=2∨kdk F K 2=1∨kdk F K 2=7))
  else if a.k=8 then (br a p false false false false∧q=2∧ex F K 0 1∧kdk F K 1=1)
  else if a.k=9 then (br a p false false false true∧nd nm p A 1 1∧(q=3∨q=4)∧ex F K 0 (q - 1)∧kdk F K (q - 1)=1)
  else if a.k=10 then (br a p false false false true∧nd nm p A 1 200∧q=2∧ex F K 0 1∧kdk F K 1=1)
  else if a.k=11 then (br a p false false false false∧q=0)
  else if a.k=12 then (br a p false false false false∧q=0)
  else if a.k=13 then (br a p false false false false∧ex F K 0 q)
  else if a.k=14 then (br a p false false false true∧nd nm p A 1 2∧q=2∧kdk F K 0=1∧kdk F K 1=1)
  else if a.k=15 then (br a p false false false false∧q=1∧ex F K 0 1)
  else if a.k=16 then (br a p false false false false∧q=1∧kdk F K 0=34)
  else if a.k=20 then (q=0∧br a p false false false false)
  else if a.k=21 then (q=0∧br a p false false false false)
  else if a.k=22 then (q=0∧br a p false false false false)
  else if a.k=23 then (q=0∧br a p false true false false)
  else if a.k=24 then (q=0∧br a p false false true false∧fl a.x)
  else if a.k=25 then (q=0∧br a p false false true false∧a.x.size≤4000)
  else if a.k=26 then (q=0∧br a p false false true false∧nm a.x)
  else if a.k=27 then (q=0∧br a p false false false false)
  else if a.k=28 then (q=2∧ex F K 0 2∧br a p false false false false)
  else if a.k=29 then (q=2∧ex F K 0 2∧br a p false false false false)
  else if a.k=30 then (q=1∧ex F K 0 1∧br a p true false false false∧19≤a.o∧a.o≤22)
  else if a.k=31 then (q=2∧ex F K 0 2∧br a p true false false false∧1≤a.o∧a.o≤18)
  else if a.k=32 then (q=2∧ex F K 0 2∧kdk F K 0 ≠ 27∧br a p false false false false)
  else if a.k=33 then (q=1∧ex F K 0 1∧kdk F K 0 ≠ 27∧br a p false false true false∧nm a.x)
  else if a.k=34 then (1≤q∧ex F K 0 q∧kdk F K 0 ≠ 27∧br a p false false false false)
  else if a.k=35 then ((∀ j,j < q→40≤kdk F K j∧kdk F K j≤42)∧br a p false false false false)
  else if a.k=36 then (q=1∧kdk F K 0=1∧br a p true false false true∧nd nm p A 0 200∧(a.o=0∨a.o=1))
  else if a.k=37 then (q=1∧(kdk F K 0=34∨kdk F K 0=27)∧br a p false false false false)
  else if a.k=40 then (q=1∧ex F K 0 1∧br a p false false false false)
  else if a.k=41 then (q=2∧ex F K 0 2∧br a p false false false false)
  else if a.k=42 then (q=1∧ex F K 0 1∧br a p false false true false∧nm a.x)
  else False
theorem shk_1 {nm fl:ByteArray→Prop} {F:Nat→Gv} {a:Fv} {p:Nat} {A:Nat→ByteArray} {q:Nat} {K:Nat→Int} (h:a.k=1):shk nm fl F a p A q K=((∀ j,j < q→1≤kdk F K j∧kdk F K j≤16)∧br a p false false false false):=by
  unfold shk
  rw [if_pos h]
theorem shk_2 {nm fl:ByteArray→Prop} {F:Nat→Gv} {a:Fv} {p:Nat} {A:Nat→ByteArray} {q:Nat} {K:Nat→Int} (h:a.k=2):shk nm fl F a p A q K=(br a p false false false true∧nd nm p A 1 200∧ex F K 0 q):=by
  unfold shk
  rw [if_neg (by omega)]
  rw [if_pos h]
theorem shk_3 {nm fl:ByteArray→Prop} {F:Nat→Gv} {a:Fv} {p:Nat} {A:Nat→ByteArray} {q:Nat} {K:Nat→Int} (h:a.k=3):shk nm fl F a p A q K=(br a p false false false true∧nd nm p A 1 1∧q=1∧ex F K 0 1):=by
  unfold shk
  rw [if_neg (by omega)]
  rw [if_neg (by omega)]
  rw [if_pos h]
theorem shk_4 {nm fl:ByteArray→Prop} {F:Nat→Gv} {a:Fv} {p:Nat} {A:Nat→ByteArray} {q:Nat} {K:Nat→Int} (h:a.k=4):shk nm fl F a p A q K=(br a p false false false true∧nd nm p A 1 1∧q=1∧kdk F K 0=36):=by
  unfold shk
  rw [if_neg (by omega)]
  rw [if_neg (by omega)]
  rw [if_neg (by omega)]
  rw [if_pos h]
theorem shk_5 {nm fl:ByteArray→Prop} {F:Nat→Gv} {a:Fv} {p:Nat} {A:Nat→ByteArray} {q:Nat} {K:Nat→Int} (h:a.k=5):shk nm fl F a p A q K=(br a p false true false false∧1≤a.m∧a.m < (q:Int)∧(∀ j,j < a.m.toNat→kdk F K j=26∨kdk F K j=32∨kdk F K j=33)∧ex F K a.m.toNat q):=by
  unfold shk
  rw [if_neg (by omega)]
  rw [if_neg (by omega)]
  rw [if_neg (by omega)]
  rw [if_neg (by omega)]
  rw [if_pos h]
theorem shk_6 {nm fl:ByteArray→Prop} {F:Nat→Gv} {a:Fv} {p:Nat} {A:Nat→ByteArray} {q:Nat} {K:Nat→Int} (h:a.k=6):shk nm fl F a p A q K=(br a p false false false false∧q=1∧kdk F K 0=34):=by
  unfold shk
  rw [if_neg (by omega)]
  rw [if_neg (by omega)]
  rw [if_neg (by omega)]
  rw [if_neg (by omega)]
  rw [if_neg (by omega)]
  rw [if_pos h]
theorem shk_7 {nm fl:ByteArray→Prop} {F:Nat→Gv} {a:Fv} {p:Nat} {A:Nat→ByteArray} {q:Nat} {K:Nat→Int} (h:a.k=7):shk nm fl F a p A q K=(br a p false false false false∧(q=2∨q=3)∧ex F K 0 1∧kdk F K 1=1∧(q=2∨kdk F K 2=1∨kdk F K 2=7)):=by
  unfold shk
  rw [if_neg (by omega)]
  rw [if_neg (by omega)]
  rw [if_neg (by omega)]
  rw [if_neg (by omega)]
  rw [if_neg (by omega)]
  rw [if_neg (by omega)]
  rw [if_pos h]
theorem shk_8 {nm fl:ByteArray→Prop} {F:Nat→Gv} {a:Fv} {p:Nat} {A:Nat→ByteArray} {q:Nat} {K:Nat→Int} (h:a.k=8):shk nm fl F a p A q K=(br a p false false false false∧q=2∧ex F K 0 1∧kdk F K 1=1):=by
  unfold shk
  rw [if_neg (by omega)]
  rw [if_neg (by omega)]
  rw [if_neg (by omega)]
  rw [if_neg (by omega)]
  rw [if_neg (by omega)]
  rw [if_neg (by omega)]
  rw [if_neg (by omega)]
  rw [if_pos h]
theorem shk_9 {nm fl:ByteArray→Prop} {F:Nat→Gv} {a:Fv} {p:Nat} {A:Nat→ByteArray} {q:Nat} {K:Nat→Int} (h:a.k=9):shk nm fl F a p A q K=(br a p false false false true∧nd nm p A 1 1∧(q=3∨q=4)∧ex F K 0 (q - 1)∧kdk F K (q - 1)=1):=by
  unfold shk
  rw [if_neg (by omega)]
  rw [if_neg (by omega)]
  rw [if_neg (by omega)]
  rw [if_neg (by omega)]
  rw [if_neg (by omega)]
  rw [if_neg (by omega)]
  rw [if_neg (by omega)]
  rw [if_neg (by omega)]
  rw [if_pos h]
theorem shk_10 {nm fl:ByteArray→Prop} {F:Nat→Gv} {a:Fv} {p:Nat} {A:Nat→ByteArray} {q:Nat} {K:Nat→Int} (h:a.k=10):shk nm fl F a p A q K=(br a p false false false true∧nd nm p A 1 200∧q=2∧ex F K 0 1∧kdk F K 1=1):=by
  unfold shk
  rw [if_neg (by omega)]
  rw [if_neg (by omega)]
  rw [if_neg (by omega)]
  rw [if_neg (by omega)]
  rw [if_neg (by omega)]
  rw [if_neg (by omega)]
  rw [if_neg (by omega)]
  rw [if_neg (by omega)]
  rw [if_neg (by omega)]
  rw [if_pos h]
theorem shk_11 {nm fl:ByteArray→Prop} {F:Nat→Gv} {a:Fv} {p:Nat} {A:Nat→ByteArray} {q:Nat} {K:Nat→Int} (h:a.k=11):shk nm fl F a p A q K=(br a p false false false false∧q=0):=by
  unfold shk
  rw [if_neg (by omega)]
  rw [if_neg (by omega)]
  rw [if_neg (by omega)]
  rw [if_neg (by omega)]
  rw [if_neg (by omega)]
  rw [if_neg (by omega)]
  rw [if_neg (by omega)]
  rw [if_neg (by omega)]
  rw [if_neg (by omega)]
  rw [if_neg (by omega)]
  rw [if_pos h]
theorem shk_12 {nm fl:ByteArray→Prop} {F:Nat→Gv} {a:Fv} {p:Nat} {A:Nat→ByteArray} {q:Nat} {K:Nat→Int} (h:a.k=12):shk nm fl F a p A q K=(br a p false false false false∧q=0):=by
  unfold shk
  rw [if_neg (by omega)]
  rw [if_neg (by omega)]
  rw [if_neg (by omega)]
  rw [if_neg (by omega)]
  rw [if_neg (by omega)]
  rw [if_neg (by omega)]
  rw [if_neg (by omega)]
  rw [if_neg (by omega)]
  rw [if_neg (by omega)]
  rw [if_neg (by omega)]
  rw [if_neg (by omega)]
  rw [if_pos h]
theorem shk_13 {nm fl:ByteArray→Prop} {F:Nat→Gv} {a:Fv} {p:Nat} {A:Nat→ByteArray} {q:Nat} {K:Nat→Int} (h:a.k=13):shk nm fl F a p A q K=(br a p false false false false∧ex F K 0 q):=by
  unfold shk
  rw [if_neg (by omega)]
  rw [if_neg (by omega)]
  rw [if_neg (by omega)]
  rw [if_neg (by omega)]
  rw [if_neg (by omega)]
  rw [if_neg (by omega)]
  rw [if_neg (by omega)]
  rw [if_neg (by omega)]
  rw [if_neg (by omega)]
  rw [if_neg (by omega)]
  rw [if_neg (by omega)]
  rw [if_neg (by omega)]
  rw [if_pos h]
theorem shk_14 {nm fl:ByteArray→Prop} {F:Nat→Gv} {a:Fv} {p:Nat} {A:Nat→ByteArray} {q:Nat} {K:Nat→Int} (h:a.k=14):shk nm fl F a p A q K=(br a p false false false true∧nd nm p A 1 2∧q=2∧kdk F K 0=1∧kdk F K 1=1):=by
  unfold shk
  rw [if_neg (by omega)]
  rw [if_neg (by omega)]
  rw [if_neg (by omega)]
  rw [if_neg (by omega)]
  rw [if_neg (by omega)]
  rw [if_neg (by omega)]
  rw [if_neg (by omega)]
  rw [if_neg (by omega)]
  rw [if_neg (by omega)]
  rw [if_neg (by omega)]
  rw [if_neg (by omega)]
  rw [if_neg (by omega)]
  rw [if_neg (by omega)]
  rw [if_pos h]
theorem shk_15 {nm fl:ByteArray→Prop} {F:Nat→Gv} {a:Fv} {p:Nat} {A:Nat→ByteArray} {q:Nat} {K:Nat→Int} (h:a.k=15):shk nm fl F a p A q K=(br a p false false false false∧q=1∧ex F K 0 1):=by
  unfold shk
  rw [if_neg (by omega)]
  rw [if_neg (by omega)]
  rw [if_neg (by omega)]
  rw [if_neg (by omega)]
  rw [if_neg (by omega)]
  rw [if_neg (by omega)]
  rw [if_neg (by omega)]
  rw [if_neg (by omega)]
  rw [if_neg (by omega)]
  rw [if_neg (by omega)]
  rw [if_neg (by omega)]
  rw [if_neg (by omega)]
  rw [if_neg (by omega)]
  rw [if_neg (by omega)]
  rw [if_pos h]
theorem shk_16 {nm fl:ByteArray→Prop} {F:Nat→Gv} {a:Fv} {p:Nat} {A:Nat→ByteArray} {q:Nat} {K:Nat→Int} (h:a.k=16):shk nm fl F a p A q K=(br a p false false false false∧q=1∧kdk F K 0=34):=by
  unfold shk
  rw [if_neg (by omega)]
  rw [if_neg (by omega)]
  rw [if_neg (by omega)]
  rw [if_neg (by omega)]
  rw [if_neg (by omega)]
  rw [if_neg (by omega)]
  rw [if_neg (by omega)]
  rw [if_neg (by omega)]
  rw [if_neg (by omega)]
  rw [if_neg (by omega)]
  rw [if_neg (by omega)]
  rw [if_neg (by omega)]
  rw [if_neg (by omega)]
  rw [if_neg (by omega)]
  rw [if_neg (by omega)]
  rw [if_pos h]
theorem shk_20 {nm fl:ByteArray→Prop} {F:Nat→Gv} {a:Fv} {p:Nat} {A:Nat→ByteArray} {q:Nat} {K:Nat→Int} (h:a.k=20):shk nm fl F a p A q K=(q=0∧br a p false false false false):=by
  unfold shk
  rw [if_neg (by omega)]
  rw [if_neg (by omega)]
  rw [if_neg (by omega)]
  rw [if_neg (by omega)]
  rw [if_neg (by omega)]
  rw [if_neg (by omega)]
  rw [if_neg (by omega)]
  rw [if_neg (by omega)]
  rw [if_neg (by omega)]
  rw [if_neg (by omega)]
  rw [if_neg (by omega)]
  rw [if_neg (by omega)]
  rw [if_neg (by omega)]
  rw [if_neg (by omega)]
  rw [if_neg (by omega)]
  rw [if_neg (by omega)]
  rw [if_pos h]
theorem shk_21 {nm fl:ByteArray→Prop} {F:Nat→Gv} {a:Fv} {p:Nat} {A:Nat→ByteArray} {q:Nat} {K:Nat→Int} (h:a.k=21):shk nm fl F a p A q K=(q=0∧br a p false false false false):=by
  unfold shk
  rw [if_neg (by omega)]
  rw [if_neg (by omega)]
  rw [if_neg (by omega)]
  rw [if_neg (by omega)]
  rw [if_neg (by omega)]
  rw [if_neg (by omega)]
  rw [if_neg (by omega)]
  rw [if_neg (by omega)]
  rw [if_neg (by omega)]
  rw [if_neg (by omega)]
  rw [if_neg (by omega)]
  rw [if_neg (by omega)]
  rw [if_neg (by omega)]
  rw [if_neg (by omega)]
  rw [if_neg (by omega)]
  rw [if_neg (by omega)]
  rw [if_neg (by omega)]
  rw [if_pos h]
theorem shk_22 {nm fl:ByteArray→Prop} {F:Nat→Gv} {a:Fv} {p:Nat} {A:Nat→ByteArray} {q:Nat} {K:Nat→Int} (h:a.k=22):shk nm fl F a p A q K=(q=0∧br a p false false false false):=by
  unfold shk
  rw [if_neg (by omega)]
  rw [if_neg (by omega)]
  rw [if_neg (by omega)]
  rw [if_neg (by omega)]
  rw [if_neg (by omega)]
  rw [if_neg (by omega)]
  rw [if_neg (by omega)]
  rw [if_neg (by omega)]
  rw [if_neg (by omega)]
  rw [if_neg (by omega)]
  rw [if_neg (by omega)]
  rw [if_neg (by omega)]
  rw [if_neg (by omega)]
  rw [if_neg (by omega)]
  rw [if_neg (by omega)]
  rw [if_neg (by omega)]
  rw [if_neg (by omega)]
  rw [if_neg (by omega)]
  rw [if_pos h]
theorem shk_23 {nm fl:ByteArray→Prop} {F:Nat→Gv} {a:Fv} {p:Nat} {A:Nat→ByteArray} {q:Nat} {K:Nat→Int} (h:a.k=23):shk nm fl F a p A q K=(q=0∧br a p false true false false):=by
  unfold shk
  rw [if_neg (by omega)]
  rw [if_neg (by omega)]
  rw [if_neg (by omega)]
  rw [if_neg (by omega)]
  rw [if_neg (by omega)]
  rw [if_neg (by omega)]
  rw [if_neg (by omega)]
  rw [if_neg (by omega)]
  rw [if_neg (by omega)]
  rw [if_neg (by omega)]
  rw [if_neg (by omega)]
  rw [if_neg (by omega)]
  rw [if_neg (by omega)]
  rw [if_neg (by omega)]
  rw [if_neg (by omega)]
  rw [if_neg (by omega)]
  rw [if_neg (by omega)]
  rw [if_neg (by omega)]
  rw [if_neg (by omega)]
  rw [if_pos h]
theorem shk_24 {nm fl:ByteArray→Prop} {F:Nat→Gv} {a:Fv} {p:Nat} {A:Nat→ByteArray} {q:Nat} {K:Nat→Int} (h:a.k=24):shk nm fl F a p A q K=(q=0∧br a p false false true false∧fl a.x):=by
  unfold shk
  rw [if_neg (by omega)]
  rw [if_neg (by omega)]
  rw [if_neg (by omega)]
  rw [if_neg (by omega)]
  rw [if_neg (by omega)]
  rw [if_neg (by omega)]
  rw [if_neg (by omega)]
  rw [if_neg (by omega)]
  rw [if_neg (by omega)]
  rw [if_neg (by omega)]
  rw [if_neg (by omega)]
  rw [if_neg (by omega)]
  rw [if_neg (by omega)]
  rw [if_neg (by omega)]
  rw [if_neg (by omega)]
  rw [if_neg (by omega)]
  rw [if_neg (by omega)]
  rw [if_neg (by omega)]
  rw [if_neg (by omega)]
  rw [if_neg (by omega)]
  rw [if_pos h]
theorem shk_25 {nm fl:ByteArray→Prop} {F:Nat→Gv} {a:Fv} {p:Nat} {A:Nat→ByteArray} {q:Nat} {K:Nat→Int} (h:a.k=25):shk nm fl F a p A q K=(q=0∧br a p false false true false∧a.x.size≤4000):=by
  unfold shk
  rw [if_neg (by omega)]
  rw [if_neg (by omega)]
  rw [if_neg (by omega)]
  rw [if_neg (by omega)]
  rw [if_neg (by omega)]
  rw [if_neg (by omega)]
  rw [if_neg (by omega)]
  rw [if_neg (by omega)]
  rw [if_neg (by omega)]
  rw [if_neg (by omega)]
  rw [if_neg (by omega)]
  rw [if_neg (by omega)]
  rw [if_neg (by omega)]
  rw [if_neg (by omega)]
  rw [if_neg (by omega)]
  rw [if_neg (by omega)]
  rw [if_neg (by omega)]
  rw [if_neg (by omega)]
  rw [if_neg (by omega)]
  rw [if_neg (by omega)]
  rw [if_neg (by omega)]
  rw [if_pos h]
theorem shk_26 {nm fl:ByteArray→Prop} {F:Nat→Gv} {a:Fv} {p:Nat} {A:Nat→ByteArray} {q:Nat} {K:Nat→Int} (h:a.k=26):shk nm fl F a p A q K=(q=0∧br a p false false true false∧nm a.x):=by
  unfold shk
  rw [if_neg (by omega)]
  rw [if_neg (by omega)]
  rw [if_neg (by omega)]
  rw [if_neg (by omega)]
  rw [if_neg (by omega)]
  rw [if_neg (by omega)]
  rw [if_neg (by omega)]
  rw [if_neg (by omega)]
  rw [if_neg (by omega)]
  rw [if_neg (by omega)]
  rw [if_neg (by omega)]
  rw [if_neg (by omega)]
  rw [if_neg (by omega)]
  rw [if_neg (by omega)]
  rw [if_neg (by omega)]
  rw [if_neg (by omega)]
  rw [if_neg (by omega)]
  rw [if_neg (by omega)]
  rw [if_neg (by omega)]
  rw [if_neg (by omega)]
  rw [if_neg (by omega)]
  rw [if_neg (by omega)]
  rw [if_pos h]
theorem shk_27 {nm fl:ByteArray→Prop} {F:Nat→Gv} {a:Fv} {p:Nat} {A:Nat→ByteArray} {q:Nat} {K:Nat→Int} (h:a.k=27):shk nm fl F a p A q K=(q=0∧br a p false false false false):=by
  unfold shk
  rw [if_neg (by omega)]
  rw [if_neg (by omega)]
  rw [if_neg (by omega)]
  rw [if_neg (by omega)]
  rw [if_neg (by omega)]
  rw [if_neg (by omega)]
  rw [if_neg (by omega)]
  rw [if_neg (by omega)]
  rw [if_neg (by omega)]
  rw [if_neg (by omega)]
  rw [if_neg (by omega)]
  rw [if_neg (by omega)]
  rw [if_neg (by omega)]
  rw [if_neg (by omega)]
  rw [if_neg (by omega)]
  rw [if_neg (by omega)]
  rw [if_neg (by omega)]
  rw [if_neg (by omega)]
  rw [if_neg (by omega)]
  rw [if_neg (by omega)]
  rw [if_neg (by omega)]
  rw [if_neg (by omega)]
  rw [if_neg (by omega)]
  rw [if_pos h]
theorem shk_28 {nm fl:ByteArray→Prop} {F:Nat→Gv} {a:Fv} {p:Nat} {A:Nat→ByteArray} {q:Nat} {K:Nat→Int} (h:a.k=28):shk nm fl F a p A q K=(q=2∧ex F K 0 2∧br a p false false false false):=by
  unfold shk
  rw [if_neg (by omega)]
  rw [if_neg (by omega)]
  rw [if_neg (by omega)]
  rw [if_neg (by omega)]
  rw [if_neg (by omega)]
  rw [if_neg (by omega)]
  rw [if_neg (by omega)]
  rw [if_neg (by omega)]
  rw [if_neg (by omega)]
  rw [if_neg (by omega)]
  rw [if_neg (by omega)]
  rw [if_neg (by omega)]
  rw [if_neg (by omega)]
  rw [if_neg (by omega)]
  rw [if_neg (by omega)]
  rw [if_neg (by omega)]
  rw [if_neg (by omega)]
  rw [if_neg (by omega)]
  rw [if_neg (by omega)]
  rw [if_neg (by omega)]
  rw [if_neg (by omega)]
  rw [if_neg (by omega)]
  rw [if_neg (by omega)]
  rw [if_neg (by omega)]
  rw [if_pos h]
theorem shk_29 {nm fl:ByteArray→Prop} {F:Nat→Gv} {a:Fv} {p:Nat} {A:Nat→ByteArray} {q:Nat} {K:Nat→Int} (h:a.k=29):shk nm fl F a p A q K=(q=2∧ex F K 0 2∧br a p false false false false):=by
  unfold shk
  rw [if_neg (by omega)]
  rw [if_neg (by omega)]
  rw [if_neg (by omega)]
  rw [if_neg (by omega)]
  rw [if_neg (by omega)]
  rw [if_neg (by omega)]
  rw [if_neg (by omega)]
  rw [if_neg (by omega)]
  rw [if_neg (by omega)]
  rw [if_neg (by omega)]
  rw [if_neg (by omega)]
  rw [if_neg (by omega)]
  rw [if_neg (by omega)]
  rw [if_neg (by omega)]
  rw [if_neg (by omega)]
  rw [if_neg (by omega)]
  rw [if_neg (by omega)]
  rw [if_neg (by omega)]
  rw [if_neg (by omega)]
  rw [if_neg (by omega)]
  rw [if_neg (by omega)]
  rw [if_neg (by omega)]
  rw [if_neg (by omega)]
  rw [if_neg (by omega)]
  rw [if_neg (by omega)]
  rw [if_pos h]
theorem shk_30 {nm fl:ByteArray→Prop} {F:Nat→Gv} {a:Fv} {p:Nat} {A:Nat→ByteArray} {q:Nat} {K:Nat→Int} (h:a.k=30):shk nm fl F a p A q K=(q=1∧ex F K 0 1∧br a p true false false false∧19≤a.o∧a.o≤22):=by
  unfold shk
  rw [if_neg (by omega)]
  rw [if_neg (by omega)]
  rw [if_neg (by omega)]
  rw [if_neg (by omega)]
  rw [if_neg (by omega)]
  rw [if_neg (by omega)]
  rw [if_neg (by omega)]
  rw [if_neg (by omega)]
  rw [if_neg (by omega)]
  rw [if_neg (by omega)]
  rw [if_neg (by omega)]
  rw [if_neg (by omega)]
  rw [if_neg (by omega)]
  rw [if_neg (by omega)]
  rw [if_neg (by omega)]
  rw [if_neg (by omega)]
  rw [if_neg (by omega)]
  rw [if_neg (by omega)]
  rw [if_neg (by omega)]
  rw [if_neg (by omega)]
  rw [if_neg (by omega)]
  rw [if_neg (by omega)]
  rw [if_neg (by omega)]
  rw [if_neg (by omega)]
  rw [if_neg (by omega)]
  rw [if_neg (by omega)]
  rw [if_pos h]
theorem shk_31 {nm fl:ByteArray→Prop} {F:Nat→Gv} {a:Fv} {p:Nat} {A:Nat→ByteArray} {q:Nat} {K:Nat→Int} (h:a.k=31):shk nm fl F a p A q K=(q=2∧ex F K 0 2∧br a p true false false false∧1≤a.o∧a.o≤18):=by
  unfold shk
  rw [if_neg (by omega)]
  rw [if_neg (by omega)]
  rw [if_neg (by omega)]
  rw [if_neg (by omega)]
  rw [if_neg (by omega)]
  rw [if_neg (by omega)]
  rw [if_neg (by omega)]
  rw [if_neg (by omega)]
  rw [if_neg (by omega)]
  rw [if_neg (by omega)]
  rw [if_neg (by omega)]
  rw [if_neg (by omega)]
  rw [if_neg (by omega)]
  rw [if_neg (by omega)]
  rw [if_neg (by omega)]
  rw [if_neg (by omega)]
  rw [if_neg (by omega)]
  rw [if_neg (by omega)]
  rw [if_neg (by omega)]
  rw [if_neg (by omega)]
  rw [if_neg (by omega)]
  rw [if_neg (by omega)]
  rw [if_neg (by omega)]
  rw [if_neg (by omega)]
  rw [if_neg (by omega)]
  rw [if_neg (by omega)]
  rw [if_neg (by omega)]
  rw [if_pos h]
theorem shk_32 {nm fl:ByteArray→Prop} {F:Nat→Gv} {a:Fv} {p:Nat} {A:Nat→ByteArray} {q:Nat} {K:Nat→Int} (h:a.k=32):shk nm fl F a p A q K=(q=2∧ex F K 0 2∧kdk F K 0 ≠ 27∧br a p false false false false):=by
  unfold shk
  rw [if_neg (by omega)]
  rw [if_neg (by omega)]
  rw [if_neg (by omega)]
  rw [if_neg (by omega)]
  rw [if_neg (by omega)]
  rw [if_neg (by omega)]
  rw [if_neg (by omega)]
  rw [if_neg (by omega)]
  rw [if_neg (by omega)]
  rw [if_neg (by omega)]
  rw [if_neg (by omega)]
  rw [if_neg (by omega)]
  rw [if_neg (by omega)]
  rw [if_neg (by omega)]
  rw [if_neg (by omega)]
  rw [if_neg (by omega)]
  rw [if_neg (by omega)]
  rw [if_neg (by omega)]
  rw [if_neg (by omega)]
  rw [if_neg (by omega)]
  rw [if_neg (by omega)]
  rw [if_neg (by omega)]
  rw [if_neg (by omega)]
  rw [if_neg (by omega)]
  rw [if_neg (by omega)]
  rw [if_neg (by omega)]
  rw [if_neg (by omega)]
  rw [if_neg (by omega)]
  rw [if_pos h]
theorem shk_33 {nm fl:ByteArray→Prop} {F:Nat→Gv} {a:Fv} {p:Nat} {A:Nat→ByteArray} {q:Nat} {K:Nat→Int} (h:a.k=33):shk nm fl F a p A q K=(q=1∧ex F K 0 1∧kdk F K 0 ≠ 27∧br a p false false true false∧nm a.x):=by
  unfold shk
  rw [if_neg (by omega)]
  rw [if_neg (by omega)]
  rw [if_neg (by omega)]
  rw [if_neg (by omega)]
  rw [if_neg (by omega)]
  rw [if_neg (by omega)]
  rw [if_neg (by omega)]
  rw [if_neg (by omega)]
  rw [if_neg (by omega)]
  rw [if_neg (by omega)]
  rw [if_neg (by omega)]
  rw [if_neg (by omega)]
  rw [if_neg (by omega)]
  rw [if_neg (by omega)]
  rw [if_neg (by omega)]
  rw [if_neg (by omega)]
  rw [if_neg (by omega)]
  rw [if_neg (by omega)]
  rw [if_neg (by omega)]
  rw [if_neg (by omega)]
  rw [if_neg (by omega)]
  rw [if_neg (by omega)]
  rw [if_neg (by omega)]
  rw [if_neg (by omega)]
  rw [if_neg (by omega)]
  rw [if_neg (by omega)]
  rw [if_neg (by omega)]
  rw [if_neg (by omega)]
  rw [if_neg (by omega)]
  rw [if_pos h]
theorem shk_34 {nm fl:ByteArray→Prop} {F:Nat→Gv} {a:Fv} {p:Nat} {A:Nat→ByteArray} {q:Nat} {K:Nat→Int} (h:a.k=34):shk nm fl F a p A q K=(1≤q∧ex F K 0 q∧kdk F K 0 ≠ 27∧br a p false false false false):=by
  unfold shk
  rw [if_neg (by omega)]
  rw [if_neg (by omega)]
  rw [if_neg (by omega)]
  rw [if_neg (by omega)]
  rw [if_neg (by omega)]
  rw [if_neg (by omega)]
  rw [if_neg (by omega)]
  rw [if_neg (by omega)]
  rw [if_neg (by omega)]
  rw [if_neg (by omega)]
  rw [if_neg (by omega)]
  rw [if_neg (by omega)]
  rw [if_neg (by omega)]
  rw [if_neg (by omega)]
  rw [if_neg (by omega)]
  rw [if_neg (by omega)]
  rw [if_neg (by omega)]
  rw [if_neg (by omega)]
  rw [if_neg (by omega)]
  rw [if_neg (by omega)]
  rw [if_neg (by omega)]
  rw [if_neg (by omega)]
  rw [if_neg (by omega)]
  rw [if_neg (by omega)]
  rw [if_neg (by omega)]
  rw [if_neg (by omega)]
  rw [if_neg (by omega)]
  rw [if_neg (by omega)]
  rw [if_neg (by omega)]
  rw [if_neg (by omega)]
  rw [if_pos h]
theorem shk_35 {nm fl:ByteArray→Prop} {F:Nat→Gv} {a:Fv} {p:Nat} {A:Nat→ByteArray} {q:Nat} {K:Nat→Int} (h:a.k=35):shk nm fl F a p A q K=((∀ j,j < q→40≤kdk F K j∧kdk F K j≤42)∧br a p false false false false):=by
  unfold shk
  rw [if_neg (by omega)]
  rw [if_neg (by omega)]
  rw [if_neg (by omega)]
  rw [if_neg (by omega)]
  rw [if_neg (by omega)]
  rw [if_neg (by omega)]
  rw [if_neg (by omega)]
  rw [if_neg (by omega)]
  rw [if_neg (by omega)]
  rw [if_neg (by omega)]
  rw [if_neg (by omega)]
  rw [if_neg (by omega)]
  rw [if_neg (by omega)]
  rw [if_neg (by omega)]
  rw [if_neg (by omega)]
  rw [if_neg (by omega)]
  rw [if_neg (by omega)]
  rw [if_neg (by omega)]
  rw [if_neg (by omega)]
  rw [if_neg (by omega)]
  rw [if_neg (by omega)]
  rw [if_neg (by omega)]
  rw [if_neg (by omega)]
  rw [if_neg (by omega)]
  rw [if_neg (by omega)]
  rw [if_neg (by omega)]
  rw [if_neg (by omega)]
  rw [if_neg (by omega)]
  rw [if_neg (by omega)]
  rw [if_neg (by omega)]
  rw [if_neg (by omega)]
  rw [if_pos h]
theorem shk_36 {nm fl:ByteArray→Prop} {F:Nat→Gv} {a:Fv} {p:Nat} {A:Nat→ByteArray} {q:Nat} {K:Nat→Int} (h:a.k=36):shk nm fl F a p A q K=(q=1∧kdk F K 0=1∧br a p true false false true∧nd nm p A 0 200∧(a.o=0∨a.o=1)):=by
  unfold shk
  rw [if_neg (by omega)]
  rw [if_neg (by omega)]
  rw [if_neg (by omega)]
  rw [if_neg (by omega)]
  rw [if_neg (by omega)]
  rw [if_neg (by omega)]
  rw [if_neg (by omega)]
  rw [if_neg (by omega)]
  rw [if_neg (by omega)]
  rw [if_neg (by omega)]
  rw [if_neg (by omega)]
  rw [if_neg (by omega)]
  rw [if_neg (by omega)]
  rw [if_neg (by omega)]
  rw [if_neg (by omega)]
  rw [if_neg (by omega)]
  rw [if_neg (by omega)]
  rw [if_neg (by omega)]
  rw [if_neg (by omega)]
  rw [if_neg (by omega)]
  rw [if_neg (by omega)]
  rw [if_neg (by omega)]
  rw [if_neg (by omega)]
  rw [if_neg (by omega)]
  rw [if_neg (by omega)]
  rw [if_neg (by omega)]
  rw [if_neg (by omega)]
  rw [if_neg (by omega)]
  rw [if_neg (by omega)]
  rw [if_neg (by omega)]
  rw [if_neg (by omega)]
  rw [if_neg (by omega)]
  rw [if_pos h]
theorem shk_37 {nm fl:ByteArray→Prop} {F:Nat→Gv} {a:Fv} {p:Nat} {A:Nat→ByteArray} {q:Nat} {K:Nat→Int} (h:a.k=37):shk nm fl F a p A q K=(q=1∧(kdk F K 0=34∨kdk F K 0=27)∧br a p false false false false):=by
  unfold shk
  rw [if_neg (by omega)]
  rw [if_neg (by omega)]
  rw [if_neg (by omega)]
  rw [if_neg (by omega)]
  rw [if_neg (by omega)]
  rw [if_neg (by omega)]
  rw [if_neg (by omega)]
  rw [if_neg (by omega)]
  rw [if_neg (by omega)]
  rw [if_neg (by omega)]
  rw [if_neg (by omega)]
  rw [if_neg (by omega)]
  rw [if_neg (by omega)]
  rw [if_neg (by omega)]
  rw [if_neg (by omega)]
  rw [if_neg (by omega)]
  rw [if_neg (by omega)]
  rw [if_neg (by omega)]
  rw [if_neg (by omega)]
  rw [if_neg (by omega)]
  rw [if_neg (by omega)]
  rw [if_neg (by omega)]
  rw [if_neg (by omega)]
  rw [if_neg (by omega)]
  rw [if_neg (by omega)]
  rw [if_neg (by omega)]
  rw [if_neg (by omega)]
  rw [if_neg (by omega)]
  rw [if_neg (by omega)]
  rw [if_neg (by omega)]
  rw [if_neg (by omega)]
  rw [if_neg (by omega)]
  rw [if_neg (by omega)]
  rw [if_pos h]
theorem shk_40 {nm fl:ByteArray→Prop} {F:Nat→Gv} {a:Fv} {p:Nat} {A:Nat→ByteArray} {q:Nat} {K:Nat→Int} (h:a.k=40):shk nm fl F a p A q K=(q=1∧ex F K 0 1∧br a p false false false false):=by
  unfold shk
  rw [if_neg (by omega)]
  rw [if_neg (by omega)]
  rw [if_neg (by omega)]
  rw [if_neg (by omega)]
  rw [if_neg (by omega)]
  rw [if_neg (by omega)]
  rw [if_neg (by omega)]
  rw [if_neg (by omega)]
  rw [if_neg (by omega)]
  rw [if_neg (by omega)]
  rw [if_neg (by omega)]
  rw [if_neg (by omega)]
  rw [if_neg (by omega)]
  rw [if_neg (by omega)]
  rw [if_neg (by omega)]
  rw [if_neg (by omega)]
  rw [if_neg (by omega)]
  rw [if_neg (by omega)]
  rw [if_neg (by omega)]
  rw [if_neg (by omega)]
  rw [if_neg (by omega)]
  rw [if_neg (by omega)]
  rw [if_neg (by omega)]
  rw [if_neg (by omega)]
  rw [if_neg (by omega)]
  rw [if_neg (by omega)]
  rw [if_neg (by omega)]
  rw [if_neg (by omega)]
  rw [if_neg (by omega)]
  rw [if_neg (by omega)]
  rw [if_neg (by omega)]
  rw [if_neg (by omega)]
  rw [if_neg (by omega)]
  rw [if_neg (by omega)]
  rw [if_pos h]
theorem shk_41 {nm fl:ByteArray→Prop} {F:Nat→Gv} {a:Fv} {p:Nat} {A:Nat→ByteArray} {q:Nat} {K:Nat→Int} (h:a.k=41):shk nm fl F a p A q K=(q=2∧ex F K 0 2∧br a p false false false false):=by
  unfold shk
  rw [if_neg (by omega)]
  rw [if_neg (by omega)]
  rw [if_neg (by omega)]
  rw [if_neg (by omega)]
  rw [if_neg (by omega)]
  rw [if_neg (by omega)]
  rw [if_neg (by omega)]
  rw [if_neg (by omega)]
  rw [if_neg (by omega)]
  rw [if_neg (by omega)]
  rw [if_neg (by omega)]
  rw [if_neg (by omega)]
  rw [if_neg (by omega)]
  rw [if_neg (by omega)]
  rw [if_neg (by omega)]
  rw [if_neg (by omega)]
  rw [if_neg (by omega)]
  rw [if_neg (by omega)]
  rw [if_neg (by omega)]
  rw [if_neg (by omega)]
  rw [if_neg (by omega)]
  rw [if_neg (by omega)]
  rw [if_neg (by omega)]
  rw [if_neg (by omega)]
  rw [if_neg (by omega)]
  rw [if_neg (by omega)]
  rw [if_neg (by omega)]
  rw [if_neg (by omega)]
  rw [if_neg (by omega)]
  rw [if_neg (by omega)]
  rw [if_neg (by omega)]
  rw [if_neg (by omega)]
  rw [if_neg (by omega)]
  rw [if_neg (by omega)]
  rw [if_neg (by omega)]
  rw [if_pos h]
theorem shk_42 {nm fl:ByteArray→Prop} {F:Nat→Gv} {a:Fv} {p:Nat} {A:Nat→ByteArray} {q:Nat} {K:Nat→Int} (h:a.k=42):shk nm fl F a p A q K=(q=1∧ex F K 0 1∧br a p false false true false∧nm a.x):=by
  unfold shk
  rw [if_neg (by omega)]
  rw [if_neg (by omega)]
  rw [if_neg (by omega)]
  rw [if_neg (by omega)]
  rw [if_neg (by omega)]
  rw [if_neg (by omega)]
  rw [if_neg (by omega)]
  rw [if_neg (by omega)]
  rw [if_neg (by omega)]
  rw [if_neg (by omega)]
  rw [if_neg (by omega)]
  rw [if_neg (by omega)]
  rw [if_neg (by omega)]
  rw [if_neg (by omega)]
  rw [if_neg (by omega)]
  rw [if_neg (by omega)]
  rw [if_neg (by omega)]
  rw [if_neg (by omega)]
  rw [if_neg (by omega)]
  rw [if_neg (by omega)]
  rw [if_neg (by omega)]
  rw [if_neg (by omega)]
  rw [if_neg (by omega)]
  rw [if_neg (by omega)]
  rw [if_neg (by omega)]
  rw [if_neg (by omega)]
  rw [if_neg (by omega)]
  rw [if_neg (by omega)]
  rw [if_neg (by omega)]
  rw [if_neg (by omega)]
  rw [if_neg (by omega)]
  rw [if_neg (by omega)]
  rw [if_neg (by omega)]
  rw [if_neg (by omega)]
  rw [if_neg (by omega)]
  rw [if_neg (by omega)]
  rw [if_pos h]
def ndk (nm fl:ByteArray→Prop) (F:Nat→Gv) (i:Nat):Prop :=
  0≤(F i).a.f∧(F i).a.f≤(F i).a.t∧0≤(F i).a.l∧(F i).q≤200∧(∀ j,j < (F i).q→0≤(F i).K j∧(F i).K j < (i:Int))∧shk nm fl F (F i).a (F i).p (F i).A (F i).q (F i).K
end Go.Proofs.YtomcmnompajnlaaGreatDoor.Fo
