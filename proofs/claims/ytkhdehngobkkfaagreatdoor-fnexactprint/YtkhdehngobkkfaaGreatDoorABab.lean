import Derived.Test.YtkhdehngobkkfaaGreatDoorMZsq
import Derived.Test.YtkhdehngobkkfaaGreatDoorABaa
import Derived.Deep.RegionHeldLaw
import Derived.Deep.CutBlock
set_option maxRecDepth 100000
set_option maxHeartbeats 4000000
namespace Go.Proofs.YtkhdehngobkkfaaGreatDoor.Fo
open Go.ChangeShapes Go.WideShapes Go.ChangeAt Go.RowKit
set_option linter.unusedVariables false
variable {i n g p q:Nat}{va v n1 k1:Value}{A:Nat->ByteArray}{S:Nat->Prop}{a b w W W':World}{K:Nat->Int}
theorem conv_one(W:World)(c:UInt8):(convert 38 9 (.slice (some ⟨W.heap.size,0,none⟩) 1 1)).run Tryz.prog (W.alloc (.cells #[.int .u8 c.toNat] 5))=.ok (.string ⟨#[c]⟩) (W.alloc (.cells #[.int .u8 c.toNat] 5)):=by
 have:=run_convert_bytes_back (P:=Tryz.prog) (W.alloc (.cells #[.int .u8 c.toNat] 5)) 38 9 5 ⟨W.heap.size,0,none⟩ 1 [c] Tryz.underlying38 Tryz.underlying5 Tryz.underlying9 (λj hj=>by
  obtain rfl:j=0:=by simp at hj;omega
  simp[Addr.add])
 simpa using this
def mtl (k:Nat) (out:ByteArray):ByteArray:=if h:k=0 then out else mtl (k / 10) (⟨#[UInt8.ofNat (48+k%10)]⟩++out)
termination_by k
decreasing_by omega
def lfs (A:Nat->ByteArray) (l:Int):Nat->Int
 |0=>l
 |i+1=>lfs A l i-((A i).size:Int)
theorem lfs_le(A:Nat->ByteArray)(l:Int)(i:Nat):lfs A l i<=l:=by
 induction i with
 |zero=>exact Int.le_refl _
 |succ i ih=>show lfs A l i-((A i).size:Int)<=l;omega
theorem lfs_mono(A:Nat->ByteArray)(l:Int)(h:i<=n):lfs A l n<=lfs A l i:=by
  induction n with
  | zero => obtain rfl : i = 0 := by omega
            exact Int.le_refl _
  |succ n ih=>
    by_cases e:i=n+1
    · subst e;exact Int.le_refl _
    · have:=ih (by omega);show lfs A l n-((A n).size:Int)<=_;omega
theorem sz_strs(w:World)(l:Int)(ha:RowV w va n (λi=>.string (A i)))(hn:(n:Int)<140737488355328)(hA:∀i,i<n->((A i).size:Int)<140737488355328)(hl0:0<=l)(hl:l<=1048576):
  Calls Tryz.prog 34 #[va,.int .i64 l] w λe w'=>e=.returned (.int .i64 (if lfs A (l-n) n<0 then-1 else lfs A (l-n) n))/\w'=w:=by
 obtain⟨pa,ca,rfl,ha2⟩:=ha;have HA:Hid ((0<n->∃a:Addr,pa=some a/\n<=ca/\∀i,i<n->w.cell? (a.add i)=some (.string (A i)))/\∀i,i<n->((A i).size:Int)<140737488355328):=(⟨ha2,hA⟩:_/\_)
 clear ha2 hA;go_enter Tryz.func34,Tryz.ntmps34;rcases Int.lt_or_le (l-n) 0 with h|h
 ·rw[if_pos (Int.lt_of_le_of_lt (lfs_le A (l-n) n) h)];clear HA;go_wp2_with fail;go_ret;exact⟨rfl,rfl⟩
 ·have h':¬(l-n<0):=by omega
  generalize hR:(if lfs A (l-n) n<0 then(-1:Int)else lfs A (l-n) n)=R;have HR:Hid ((if lfs A (l-n) n<0 then(-1:Int)else lfs A (l-n) n)=R):=hR;clear hR;go_wp2_with fail
  go_loopw [1,5] (λs1 s5 wr=>∃(i:Nat) (x:Int),s1=.int .i64 x/\s5=.int .i64 i/\i<=n/\0<=x/\x<=1048576/\wr=w/\Hid (x=lfs A (l-n) i)) (λ_ s5 _=>n-(intOf s5).toNat)
  case atStart=>exact⟨0,l-n,rfl,rfl,Nat.zero_le _,by omega,by omega,rfl,(rfl:l-n=lfs A (l-n) 0)⟩
  case round=>
   obtain⟨i,x,rfl,rfl,hin,hx0,hx1,rfl,HX⟩:=hrel;rcases Nat.lt_or_ge i n with hi|hi
   ·obtain⟨a,rfl,hca,hra⟩:=(uh HA).1 (by omega);have hsz:=(uh HA).2 i hi;have hiI:(i:Int)<(n:Int):=by omega
    have qa:=hra i hi
    have HX2:Hid (x-((A i).size:Int)=lfs A (l-n) (i+1)):=by
     show x-((A i).size:Int)=lfs A (l-n) i-((A i).size:Int);rw[show x=lfs A (l-n) i from HX]
    have hneg:x-((A i).size:Int)<0->R=-1:=by
     intro hh;rw[<-show(if lfs A (l-n) n<0 then(-1:Int)else lfs A (l-n) n)=R from HR,if_pos];have:=lfs_mono A (l-n) (show i+1<=n from hi);rw[<-show x-((A i).size:Int)=lfs A (l-n) (i+1)from HX2]at this;omega
    have HN:Hid (x-((A i).size:Int)<0->R=-1):=hneg;clear hra HA HX HR hin hneg;have hs0:(0:Int)<=((A i).size:Int):=Int.natCast_nonneg _;generalize hS:A i=S at*;rcases Int.lt_or_le (x-(S.size:Int)) 0 with hx|hx
    ·go_wp2_with fail;go_ret;rw[show R=-1 from HN hx];exact⟨rfl,rfl⟩
    ·have hx':¬(x-(S.size:Int)<0):=by omega
     clear HN;go_wp2_with fail;go_roundw
     case rel=>exact⟨i+1,x-(S.size:Int),by go_num,by go_num,by omega,hx,by omega,by trivial,by first|exact HX2|(simpa using HX2)⟩
     case measure=>simp[intOf];omega
   ·obtain rfl:i=n:=by omega
    clear HA
    have HR2:Hid (x=R):=by
     show x=R;rw[<-show(if lfs A (l-i) i<0 then(-1:Int)else lfs A (l-i) i)=R from HR,<-show x=lfs A (l-i) i from HX,if_neg (by omega)]
    clear HR HX;go_wp2_with fail;go_ret;rw[show x=R from HR2];exact⟨rfl,rfl⟩
structure Kq (S:Nat->Prop) (a w:World):Prop where
 os:w.os=a.os
 tape:w.tape=a.tape
 output:w.output=a.output
 size:a.heap.size<=w.heap.size
 block:∀k,k<a.heap.size->¬S k->w.heap[k]? =a.heap[k]?
theorem Kq.refl(S:Nat->Prop)(a:World):Kq S a a:=⟨rfl,rfl,rfl,Nat.le_refl _,λ_ _ _=>rfl⟩
theorem Kq.trans{c:World}(h:Kq S a b)(k:Kq S b c):Kq S a c:=
 ⟨k.os.trans h.os,k.tape.trans h.tape,k.output.trans h.output,Nat.le_trans h.size k.size,λi hi hs=>(k.block i (Nat.lt_of_lt_of_le hi h.size) hs).trans (h.block i hi hs)⟩
theorem Kq.mono{T:Nat->Prop}(h:Kq S a b)(hs:∀k,S k->T k):Kq T a b:=
 ⟨h.os,h.tape,h.output,h.size,λk hk hn=>h.block k hk (λf=>hn (hs k f))⟩
theorem Kq.of_below(h:Below n a w)(hn:a.heap.size<=n):Kq S a w:=⟨h.os,h.tape,h.output,h.size,λi hi _=>h.block i (Nat.lt_of_lt_of_le hi hn)⟩
theorem Kq.drewN(h:Kq S a w)(n:Nat):Kq S a (w.drewN n):=⟨h.os,h.tape,h.output,h.size,h.block⟩
theorem Kq.setCell(h:Kq S a w)(p:Addr)(hp:S p.block)(v:Value):Kq S a (w.setCell p v):=
 ⟨h.os,h.tape,h.output,by simpa using h.size,λk hk hs=>(Below.heap_setCell w p v k (λe=>hs (e▸hp))).trans (h.block k hk hs)⟩
theorem lt_of_cell{b off:Nat}(h:w.cell? ⟨b,off,none⟩=some v):b<w.heap.size:=by
 rcases Nat.lt_or_ge b w.heap.size with hl|hl
 ·exact hl
 ·exfalso;simp[World.cell?,Array.getElem?_eq_none hl]at h
theorem set_ne(W:World)(g o o':Nat)(v:Value)(h:o'≠o):(W.setCell ⟨g,o,none⟩ v).cell? ⟨g,o',none⟩=W.cell? ⟨g,o',none⟩:=
 World.cell?_setCell_other _ _ _ _ (λe=>h (congrArg Addr.off e).symm)
theorem set_eq(W:World)(g o:Nat)(v u:Value)(h:W.cell? ⟨g,o,none⟩=some u):(W.setCell ⟨g,o,none⟩ v).cell? ⟨g,o,none⟩=some v:=
 World.cell?_setCell_same _ _ _ h
theorem set_fz(W:World)(g o o':Nat)(v:Value):(W.setCell ⟨g,o,none⟩ v).frozen? ⟨g,o',none⟩=W.frozen? ⟨g,o',none⟩:=by simp
structure OwnR (W:World) (v:Value) (g n:Nat) (A:Nat->Value):Prop where
 sl:∃pa cap,v=.slice pa n cap/\(0<n->pa=some ⟨g,0,none⟩/\n<=cap)
 cell:∀i,i<n->W.cell? ⟨g,i,none⟩=some (A i)
 fz:0<n->∀j,W.frozen? ⟨g,j,none⟩=false
theorem OwnR.row{A:Nat->Value}(h:OwnR W v g n A):RowV W v n A:=by
 obtain⟨pa,cap,h1,h2⟩:=h.sl;refine⟨pa,cap,h1,λhn=>⟨⟨g,0,none⟩,(h2 hn).1,(h2 hn).2,λi hi=>?_⟩⟩;have:=h.cell i hi
 rw[show(⟨g,0,none⟩:Addr).add i=⟨g,i,none⟩from by
  by_cases e:i=0
  ·subst e;rfl
  ·simp[Addr.add,e]]
 exact this
theorem OwnR.block{A:Nat->Value}(h:OwnR W v g n A)(hb:0<n->W'.heap[g]? =W.heap[g]?):OwnR W' v g n A:=
 ⟨h.sl,λi hi=>by rw[World.cell?_of_block (hb (by omega))];exact h.cell i hi,λhn j=>by rw[World.frozen?_of_block (hb hn)];exact h.fz hn j⟩
structure MkR (w:World) (g n:Nat) (A M:Nat->Value) (i:Nat) (W:World):Prop where
 kq:Kq (λk=>k=g) w W
 don:∀j,j<i->W.cell? ⟨g,j,none⟩=some (M j)
 rest:∀j,i<=j->j<n->W.cell? ⟨g,j,none⟩=some (A j)
 fz:∀j,W.frozen? ⟨g,j,none⟩=false
theorem MkR.step{w6:World}{A M:Nat->Value}(h:MkR w g n A M i W)(hi:i<n)(hb:Below W.heap.size W w6):
  w6.cell? ⟨g,i,none⟩=some (A i)/\w6.frozen? ⟨g,i,none⟩=false/\MkR w g n A M (i+1) (w6.setCell ⟨g,i,none⟩ (M i)):=by
 have hg:g<W.heap.size:=lt_of_cell (h.rest i (Nat.le_refl _) hi);have e6:∀j,w6.cell? ⟨g,j,none⟩=W.cell? ⟨g,j,none⟩:=λj=>World.cell?_of_block (hb.block g hg);have f6:∀j,w6.frozen? ⟨g,j,none⟩=false:=λj=>by rw[World.frozen?_of_block (hb.block g hg)];exact h.fz j
 have c:w6.cell? ⟨g,i,none⟩=some (A i):=by rw[e6];exact h.rest i (Nat.le_refl _) hi
 refine⟨c,f6 i,⟨(h.kq.trans (Kq.of_below hb (Nat.le_refl _))).setCell _ rfl _,?_,?_,?_⟩⟩
 ·intro j hj;by_cases e:j=i
  ·subst e;exact set_eq _ _ _ _ _ c
  ·rw[set_ne _ _ _ _ _ e,e6];exact h.don j (by omega)
 ·intro j h1 h2;rw[set_ne _ _ _ _ _ (by omega),e6];exact h.rest j (by omega) h2
 ·intro j;rw[set_fz];exact f6 j
def mtx(k:Nat):ByteArray:=⟨#[109]⟩++mtl k ⟨#[]⟩
theorem lt_of_cell'{p:Addr}(h:w.cell? p=some v):p.block<w.heap.size:=by
 rcases Nat.lt_or_ge p.block w.heap.size with hl|hl
 ·exact hl
 ·exfalso;simp[World.cell?,Array.getElem?_eq_none hl]at h
theorem made_cell(w:World)(z:Value)(e n:Nat)(hz:z.cells=#[z])(j:Nat)(hj:j<n):(w.alloc (.cells (madeCells z.cells (n*1)) e)).cell? ⟨w.heap.size,j,none⟩=some z:=by
 have hs:j<(madeCells z.cells (n*1)).size:=by rw[size_madeCells];omega
 have hg:(madeCells z.cells n)[j]? =some z:=by simp[madeCells,hz,hj,Nat.mod_one]
 simpa using hg
theorem made_fz(w:World)(c:Array Value)(e j:Nat):(w.alloc (.cells c e)).frozen? ⟨w.heap.size,j,none⟩=false:=by
 simp
theorem to_ints{A:Nat->Int}(w:World)(ha:RowV w va n (λi=>.int .i64 (A i)))(hn:n<=1048576):
  Calls Tryz.prog 48 #[va] w λe w'=>∃v,e=.returned v/\OwnR w' v w.heap.size n (λi=>.int .i64 (A i))/\Below w.heap.size w w'/\w.heap.size<w'.heap.size:=by
 obtain⟨pa,ca,rfl,ha2⟩:=ha;have hnI:(n:Int)<=1048576:=by omega
 have hmk:=run_make (P:=Tryz.prog) w 42 3 Tryz.t3 (.int .i64 0) Tryz.underlying42 (by kernel_rfl) (by kernel_rfl) .i64 .i64 (n:Int) (n:Int) (by omega) (Int.le_refl _) (by show(8:Int)*(n:Int)<=_;omega) (by omega);rw[Int.toNat_natCast]at hmk;obtain⟨w1,hw1⟩:∃w1,w1=w.alloc (.cells (madeCells (.int .i64 0:Value).cells (n*Tryz.t3.size)) 3):=⟨_,rfl⟩
 rw[<-hw1]at hmk;have c1:∀j,j<n->w1.cell? ⟨w.heap.size,j,none⟩=some (.int .i64 0):=by intro j hj;rw[hw1];exact made_cell w _ 3 n rfl j hj
 have f1:∀j,w1.frozen? ⟨w.heap.size,j,none⟩=false:=by intro j;rw[hw1];exact made_fz _ _ _ _
 have b1:Below w.heap.size w w1:=by rw[hw1];exact(Below.refl _ w).alloc (Nat.le_refl _) _
 have l1:w.heap.size<w1.heap.size:=by rw[hw1];simp
 have HI0:Hid (MkR w1 w.heap.size n (λ_=>.int .i64 0) (λi=>.int .i64 (A i)) 0 w1):=(⟨Kq.refl _ _,λi hi=>by omega,λi _ hi=>c1 i hi,f1⟩:MkR w1 w.heap.size n _ _ 0 w1)
 have HA:Hid ((0<n->∃a:Addr,pa=some a/\n<=ca/\∀i,i<n->w.cell? (a.add i)=some (.int .i64 (A i)))/\Below w.heap.size w w1/\w.heap.size<w1.heap.size):=(⟨ha2,b1,l1⟩:_/\_/\_)
 clear ha2 b1 c1 f1 hw1 hn l1;obtain⟨G,hG⟩:∃G,G=w.heap.size:=⟨_,rfl⟩
 rw[<-hG]at hmk HI0⊢;have HG:Hid (G=w.heap.size):=hG;clear hG;go_enter Tryz.func48,Tryz.ntmps48;go_wp2_with fail
 go_loopw [4] (λs4 wr=>∃i:Nat,s4=.int .i64 i/\i<=n/\Hid (MkR w1 G n (λ_=>.int .i64 0) (λi=>.int .i64 (A i)) i wr)) (λs4 _=>n-(intOf s4).toNat)
 case atStart=>exact⟨0,rfl,Nat.zero_le _,HI0⟩
 case round=>
  clear HI0 hmk;obtain⟨i,rfl,hin,HI⟩:=hrel;have hI:=(uh HI)
  have hA:=(uh HA)
  rcases Nat.lt_or_ge i n with hi|hi
  ·have hiI:(i:Int)<(n:Int):=by omega
   obtain⟨a,rfl,hca,hra⟩:=hA.1 (by omega);have q0:=hra i hi;have hl:=lt_of_cell' q0
   have qa:wr.cell? (a.add i)=some (.int .i64 (A i)):=by
    rw[World.cell?_of_block (w:=w1) (hI.kq.block _ (Nat.lt_of_lt_of_le hl hA.2.1.size) (by rw[show G=w.heap.size from HG];omega)),hA.2.1.cell hl];exact q0
   obtain⟨c,f,hM⟩:=hI.step hi (Below.refl _ _);have HM:Hid (MkR w1 G n (λ_=>.int .i64 0) (λi=>.int .i64 (A i)) (i+1) (wr.setCell ⟨G,i,none⟩ (.int .i64 (A i)))):=hM;clear hM hI HI hin hA HA hra q0 hl HG;generalize A i=y at qa HM;go_wp2_with fail;go_roundw
   case rel=>exact⟨i+1,by go_num,by omega,HM⟩
   case measure=>simp[intOf];omega
  ·obtain rfl:i=n:=by omega
   have HE:Hid (MkR w1 G i (λ_=>.int .i64 0) (λi=>.int .i64 (A i)) i wr/\Below w.heap.size w w1/\G=w.heap.size/\w.heap.size<w1.heap.size):=(⟨hI,hA.2.1,HG,hA.2.2⟩:_/\_/\_/\_)
   clear HI hI hA HA HG;go_wp2_with fail;go_ret;obtain⟨hE,hB,rfl,hL⟩:=(uh HE)
   refine⟨_,rfl,⟨⟨_,_,rfl,λ_=>⟨rfl,Nat.le_refl _⟩⟩,λj hj=>hE.don j hj,λ_ j=>hE.fz j⟩,?_,Nat.lt_of_lt_of_le hL hE.kq.size⟩;exact⟨hE.kq.os.trans hB.os,hE.kq.tape.trans hB.tape,hE.kq.output.trans hB.output,Nat.le_trans hB.size hE.kq.size,λk hk=>(hE.kq.block k (Nat.lt_of_lt_of_le hk hB.size) (by omega)).trans (hB.block k hk)⟩
theorem to_strs(w:World)(ha:RowV w va n (λi=>.string (A i)))(hn:n<=1048576):
  Calls Tryz.prog 47 #[va] w λe w'=>∃v,e=.returned v/\OwnR w' v w.heap.size n (λi=>.string (A i))/\Below w.heap.size w w'/\w.heap.size<w'.heap.size:=by
 obtain⟨pa,ca,rfl,ha2⟩:=ha;have hnI:(n:Int)<=1048576:=by omega
 have hmk:=run_make (P:=Tryz.prog) w 41 9 Tryz.t9 (.string ⟨#[]⟩) Tryz.underlying41 (by kernel_rfl) (by kernel_rfl) .i64 .i64 (n:Int) (n:Int) (by omega) (Int.le_refl _) (by show(16:Int)*(n:Int)<=_;omega) (by omega);rw[Int.toNat_natCast]at hmk;obtain⟨w1,hw1⟩:∃w1,w1=w.alloc (.cells (madeCells (.string ⟨#[]⟩:Value).cells (n*Tryz.t9.size)) 9):=⟨_,rfl⟩
 rw[<-hw1]at hmk;have c1:∀j,j<n->w1.cell? ⟨w.heap.size,j,none⟩=some (.string ⟨#[]⟩):=by intro j hj;rw[hw1];exact made_cell w _ 9 n rfl j hj
 have f1:∀j,w1.frozen? ⟨w.heap.size,j,none⟩=false:=by intro j;rw[hw1];exact made_fz _ _ _ _
 have b1:Below w.heap.size w w1:=by rw[hw1];exact(Below.refl _ w).alloc (Nat.le_refl _) _
 have l1:w.heap.size<w1.heap.size:=by rw[hw1];simp
 have HI0:Hid (MkR w1 w.heap.size n (λ_=>.string ⟨#[]⟩) (λi=>.string (A i)) 0 w1):=(⟨Kq.refl _ _,λi hi=>by omega,λi _ hi=>c1 i hi,f1⟩:MkR w1 w.heap.size n _ _ 0 w1)
 have HA:Hid ((0<n->∃a:Addr,pa=some a/\n<=ca/\∀i,i<n->w.cell? (a.add i)=some (.string (A i)))/\Below w.heap.size w w1/\w.heap.size<w1.heap.size):=(⟨ha2,b1,l1⟩:_/\_/\_)
 clear ha2 b1 c1 f1 hw1 hn l1;obtain⟨G,hG⟩:∃G,G=w.heap.size:=⟨_,rfl⟩
 rw[<-hG]at hmk HI0⊢;have HG:Hid (G=w.heap.size):=hG;clear hG;go_enter Tryz.func47,Tryz.ntmps47;go_wp2_with fail
 go_loopw [4] (λs4 wr=>∃i:Nat,s4=.int .i64 i/\i<=n/\Hid (MkR w1 G n (λ_=>.string ⟨#[]⟩) (λi=>.string (A i)) i wr)) (λs4 _=>n-(intOf s4).toNat)
 case atStart=>exact⟨0,rfl,Nat.zero_le _,HI0⟩
 case round=>
  clear HI0 hmk;obtain⟨i,rfl,hin,HI⟩:=hrel;have hI:=(uh HI)
  have hA:=(uh HA)
  rcases Nat.lt_or_ge i n with hi|hi
  ·have hiI:(i:Int)<(n:Int):=by omega
   obtain⟨a,rfl,hca,hra⟩:=hA.1 (by omega);have q0:=hra i hi;have hl:=lt_of_cell' q0
   have qa:wr.cell? (a.add i)=some (.string (A i)):=by
    rw[World.cell?_of_block (w:=w1) (hI.kq.block _ (Nat.lt_of_lt_of_le hl hA.2.1.size) (by rw[show G=w.heap.size from HG];omega)),hA.2.1.cell hl];exact q0
   obtain⟨c,f,hM⟩:=hI.step hi (Below.refl _ _);have HM:Hid (MkR w1 G n (λ_=>.string ⟨#[]⟩) (λi=>.string (A i)) (i+1) (wr.setCell ⟨G,i,none⟩ (.string (A i)))):=hM;clear hM hI HI hin hA HA hra q0 hl HG;generalize A i=y at qa HM;go_wp2_with fail;go_roundw
   case rel=>exact⟨i+1,by go_num,by omega,HM⟩
   case measure=>simp[intOf];omega
  ·obtain rfl:i=n:=by omega
   have HE:Hid (MkR w1 G i (λ_=>.string ⟨#[]⟩) (λi=>.string (A i)) i wr/\Below w.heap.size w w1/\G=w.heap.size/\w.heap.size<w1.heap.size):=(⟨hI,hA.2.1,HG,hA.2.2⟩:_/\_/\_/\_)
   clear HI hI hA HA HG;go_wp2_with fail;go_ret;obtain⟨hE,hB,rfl,hL⟩:=(uh HE)
   refine⟨_,rfl,⟨⟨_,_,rfl,λ_=>⟨rfl,Nat.le_refl _⟩⟩,λj hj=>hE.don j hj,λ_ j=>hE.fz j⟩,?_,Nat.lt_of_lt_of_le hL hE.kq.size⟩;exact⟨hE.kq.os.trans hB.os,hE.kq.tape.trans hB.tape,hE.kq.output.trans hB.output,Nat.le_trans hB.size hE.kq.size,λk hk=>(hE.kq.block k (Nat.lt_of_lt_of_le hk hB.size) (by omega)).trans (hB.block k hk)⟩
structure Fv where
 k:Int
 f:Int
 t:Int
 l:Int
 o:Int
 m:Int
 x:ByteArray
def fmv(a:Fv)(vn vk:Value):Value:=.agg #[.int .i64 a.k,.int .i64 a.f,.int .i64 a.t,.int .i64 a.l,.int .i64 a.o,.int .i64 a.m,.string a.x,vn,vk]
theorem RowV.below{A:Nat->Value}(h:RowV W v n A)(hb:Below W.heap.size W W'):RowV W' v n A:=by
 obtain⟨pa,cap,h1,h2⟩:=h;refine⟨pa,cap,h1,λhn=>?_⟩;obtain⟨a,ha,hc,hr⟩:=h2 hn;exact⟨a,ha,hc,λi hi=>(hb.cell (lt_of_cell' (hr i hi))).trans (hr i hi)⟩
theorem bdn{B:Nat}(h:Below B a w)(n:Nat):Below B a (w.drewN n):=⟨h.os,h.tape,h.output,h.size,h.block⟩
theorem bel2(w:World)(a b:Obj):Below w.heap.size w ((w.alloc a).alloc b):=((Below.refl _ w).alloc (Nat.le_refl _) _).alloc (by simp) _
theorem bel1(w:World)(a:Obj):Below w.heap.size w (w.alloc a):=(Below.refl _ w).alloc (Nat.le_refl _) _
theorem eq_form{a:Fv}{n2 k2:Value}(w:World)
  (h1:RowV w n1 p (λi=>.string (A i))) (h2:RowV w n2 p (λi=>.string (A i))) (h3:RowV w k1 q (λi=>.int .i64 (K i))) (h4:RowV w k2 q (λi=>.int .i64 (K i))) (hp:p<=1048576) (hq:q<=1048576):
  Calls Tryz.prog 33 #[fmv a n1 k1,fmv a n2 k2] w λe w'=>e=.returned (.bool true)/\Below w.heap.size w w':=by
 unfold fmv;have g1:Hid (∀W',Below w.heap.size w W'->Calls Tryz.prog 65 #[n1,n2] W' λe w'=>e=.returned (.bool true)/\∃d,w'=W'.drewN d):=(λW' hb=>eq_strs W' (h1.below hb) (h2.below hb) hp:∀W',_)
 have g2:Hid (∀W',Below w.heap.size w W'->Calls Tryz.prog 66 #[k1,k2] W' λe w'=>e=.returned (.bool true)/\∃d,w'=W'.drewN d):=(λW' hb=>eq_ints W' (h3.below hb) (h4.below hb) hq:∀W',_)
 clear h1 h2 h3 h4 hp hq;obtain⟨k,f,t,l,o,m,x⟩:=a;go_enter Tryz.func33,Tryz.ntmps33;go_wp2_with fail;refine(g1 _ (bel2 _ _ _)).mono ?_;rintro e w5 ⟨rfl,d,rfl⟩;go_wp2_with fail;refine(g2 _ (bdn (bel2 _ _ _) _)).mono ?_;rintro e w5 ⟨rfl,d2,rfl⟩;go_wp2_with fail;go_ret;exact⟨rfl,bdn (bel2 _ _ _) _⟩
def szf(x:ByteArray)(p:Nat)(A:Nat->ByteArray)(q:Nat)(l:Int):Int:=
 if l-(x.size:Int)<0 then-1 else if lfs A (l-(x.size:Int)-p) p<0 then-1 else if lfs A (l-(x.size:Int)-p) p-q<0 then-1 else lfs A (l-(x.size:Int)-p) p-q
theorem szf_le(x:ByteArray)(p:Nat)(A:Nat->ByteArray)(q:Nat)(l:Int)(hl:0<=l):szf x p A q l<=l:=by
 unfold szf;have:=lfs_le A (l-(x.size:Int)-p) p;split
 ·omega
 ·split
  ·omega
  ·split<;>omega
theorem sz_form{a:Fv}(w:World)(l:Int)
    (h1:RowV w n1 p (λi=>.string (A i))) (h3:RowV w k1 q (λi=>.int .i64 (K i))) (hx:(a.x.size:Int)<140737488355328) (hp:(p:Int)<140737488355328) (hA:∀i,i<p->((A i).size:Int)<140737488355328) (hq:(q:Int)<140737488355328) (hl0:0<=l) (hl:l<=1048576):
    Calls Tryz.prog 19 #[fmv a n1 k1,.int .i64 l] w λe w'=>e=.returned (.int .i64 (szf a.x p A q l))/\Below w.heap.size w w':=by
  unfold fmv;have g1:Hid (∀W' l,Below w.heap.size w W'->0<=l->l<=1048576->Calls Tryz.prog 34 #[n1,.int .i64 l] W' λe w'=>e=.returned (.int .i64 (if lfs A (l-p) p<0 then-1 else lfs A (l-p) p))/\w'=W'):=(λW' l hb g0 g=>sz_strs W' l (h1.below hb) hp hA g0 g:∀W' l,_)
  have g2:Hid (∀W' l,Below w.heap.size w W'->0<=l->l<=1048576->Calls Tryz.prog 35 #[k1,.int .i64 l] W' λe w'=>e=.returned (.int .i64 (if l-q<0 then-1 else l-q))/\w'=W'):=(λW' l hb g0 g=>sz_ints W' l (h3.below hb) hq g0 g:∀W' l,_)
  clear h1 h3 hp hA hq;obtain⟨k,f,t,ln,o,m,x⟩:=a;replace hx:(x.size:Int)<140737488355328:=hx;have hs0:(0:Int)<=(x.size:Int):=Int.natCast_nonneg _;obtain⟨R,hR⟩:∃R,R=szf x p A q l:=⟨_,rfl⟩
  show Calls _ _ _ _ λe w'=>e=.returned (.int .i64 (szf x p A q l))/\Below w.heap.size w w';rw[<-hR];unfold szf at hR;go_enter Tryz.func19,Tryz.ntmps19;rcases Int.lt_or_le (l-(x.size:Int)) 0 with c1|c1
  · rw[if_pos c1]at hR;subst hR;clear g1 g2;go_wp2_with fail;go_ret;exact⟨rfl,bel1 _ _⟩
  · have c1':¬(l-(x.size:Int)<0):=by omega
    rw[if_neg c1']at hR;have HR:Hid (R=if lfs A (l-(x.size:Int)-p) p<0 then-1 else if lfs A (l-(x.size:Int)-p) p-q<0 then-1 else lfs A (l-(x.size:Int)-p) p-q):=hR;clear hR;go_wp2_with fail;refine(g1 _ _ (bel1 _ _) c1 (by omega)).mono ?_;rintro e w5 ⟨rfl,rfl⟩;have hR:=(uh HR)
    have hy1:=lfs_le A (l-(x.size:Int)-p) p;generalize lfs A (l-(x.size:Int)-p) p=y at*;clear HR g1;rcases Int.lt_or_le y 0 with c2|c2
    · rw[if_pos c2]at hR⊢;subst hR;clear g2;go_wp2_with fail;go_ret;exact⟨rfl,bel1 _ _⟩
    · have c2':¬(y<0):=by omega
      rw[if_neg c2']at hR⊢;have HR:Hid (R=if y-q<0 then-1 else y-q):=hR;clear hR;have hp0:(0:Int)<=(p:Int):=Int.natCast_nonneg _;have hy2:y<=1048576:=by omega
      clear hy1 hp0 c1 c1' hs0 hx hl0 hl;go_wp2_with fail;refine(g2 _ _ (bel1 _ _) c2 hy2).mono ?_;rintro e w5 ⟨rfl,rfl⟩;have hR:=(uh HR)
      rw[<-hR];clear HR g2;rcases Int.lt_or_le R 0 with c3|c3
      · have e3 : R = -1 := by
          by_cases h:y-q<0
          · rw[if_pos h]at hR;exact hR
          · rw[if_neg h]at hR;omega
        subst e3;clear hR;go_wp2_with fail;go_ret;exact⟨rfl,bel1 _ _⟩
      · have c3':¬(R<0):=by omega
        clear hR;go_wp2_with fail;go_ret;exact⟨rfl,bel1 _ _⟩
theorem bel3(w:World)(a b c:Obj):Below w.heap.size w (((w.alloc a).alloc b).alloc c):=(bel2 w a b).alloc (by simp;omega) _
theorem al3(w:World)(c0 c1 c2:Array Value)(t0 t1 t2:TypeId)(W:World)(hW:W=((w.alloc (.cells c0 t0)).alloc (.cells c1 t1)).alloc (.cells c2 t2)):
  (∀j,W.cell? ⟨w.heap.size,j,none⟩=c0[j]?)/\(∀j,W.cell? ⟨w.heap.size+1,j,none⟩=c1[j]?)/\(∀j,W.cell? ⟨w.heap.size+1+1,j,none⟩=c2[j]?)/\(∀j,W.frozen? ⟨w.heap.size+1,j,none⟩=false)/\(∀j,W.frozen? ⟨w.heap.size+1+1,j,none⟩=false)/\W.heap.size=w.heap.size+1+1+1:=by
 subst hW;refine⟨λj=>?_,λj=>?_,λj=>?_,λj=>?_,λj=>?_,by simp⟩
 ·rw[World.cell?_alloc_past _ _ _ (by simp;omega),World.cell?_alloc_past _ _ _ (by simp),World.cell?_alloc_at _ _ _ _ rfl]
 ·rw[World.cell?_alloc_past _ _ _ (by simp),World.cell?_alloc_at _ _ _ _ (by simp)]
 ·rw[World.cell?_alloc_at _ _ _ _ (by simp)]
 ·rw[World.frozen?_alloc_past _ _ _ (by simp),World.frozen?_alloc_at _ _ _ _ (by simp)]
 ·rw[World.frozen?_alloc_at _ _ _ _ (by simp)]
theorem to_form{a:Fv}(w:World)
  (h1:RowV w n1 p (λi=>.string (A i))) (h3:RowV w k1 q (λi=>.int .i64 (K i))) (hp:p<=1048576) (hq:q<=1048576):
  Calls Tryz.prog 28 #[fmv a n1 k1] w λe w'=>∃vn vk gn gk,e=.returned (fmv a vn vk)/\OwnR w' vn gn p (λi=>.string (A i))/\OwnR w' vk gk q (λi=>.int .i64 (K i))/\w.heap.size<=gn/\gn<gk/\gk<w'.heap.size/\Below w.heap.size w w':=by
 unfold fmv;have g1:Hid (∀W',Below w.heap.size w W'->Calls Tryz.prog 47 #[n1] W' λe w'=>∃v,e=.returned v/\OwnR w' v W'.heap.size p (λi=>.string (A i))/\Below W'.heap.size W' w'/\W'.heap.size<w'.heap.size):=(λW' hb=>to_strs W' (h1.below hb) hp:∀W',_)
 have g2:Hid (∀W',Below w.heap.size w W'->Calls Tryz.prog 48 #[k1] W' λe w'=>∃v,e=.returned v/\OwnR w' v W'.heap.size q (λi=>.int .i64 (K i))/\Below W'.heap.size W' w'/\W'.heap.size<w'.heap.size):=(λW' hb=>to_ints W' (h3.below hb) hq:∀W',_)
 clear h1 h3 hp hq;obtain⟨k,f,t,l,o,m,x⟩:=a;go_enter Tryz.func28,Tryz.ntmps28;go_wp2_with fail;obtain⟨w3,hw3⟩:∃w3,w3=((w.alloc (.cells #[.int .i64 k,.int .i64 f,.int .i64 t,.int .i64 l,.int .i64 o,.int .i64 m,.string x,n1,k1] 59)).alloc (.cells #[.int .i64 0,.int .i64 0,.int .i64 0,.int .i64 0,.int .i64 0,.int .i64 0,.string ⟨#[]⟩,.slice none 0 0,.slice none 0 0] 44)).alloc (.cells #[.int .i64 k,.int .i64 f,.int .i64 t,.int .i64 l,.int .i64 o,.int .i64 m,.string x,.slice none 0 0,.slice none 0 0] 44):=⟨_,rfl⟩
 obtain⟨r0,r1,r2,s1,s2,z3⟩:=al3 w _ _ _ _ _ _ w3 hw3;have b3:Below w.heap.size w w3:=by rw[hw3];exact bel3 _ _ _ _
 rw[<-hw3];clear hw3;refine(g1 _ b3).mono ?_;rintro e w5 ⟨vn,rfl,hvn,hb5,lt5⟩;have HL5:Hid (w3.heap.size<w5.heap.size):=lt5;clear lt5;obtain⟨pn,cn,rfl,hsn⟩:=hvn.sl;clear hsn g1;have e0:∀j,w5.cell? ⟨w.heap.size,j,none⟩=w3.cell? ⟨w.heap.size,j,none⟩:=λj=>hb5.cell (p:=⟨w.heap.size,j,none⟩) (by show w.heap.size<w3.heap.size;omega);have e1:∀j,w5.cell? ⟨w.heap.size+1,j,none⟩=w3.cell? ⟨w.heap.size+1,j,none⟩:=λj=>hb5.cell (p:=⟨w.heap.size+1,j,none⟩) (by show w.heap.size+1<w3.heap.size;omega);have e2:∀j,w5.cell? ⟨w.heap.size+1+1,j,none⟩=w3.cell? ⟨w.heap.size+1+1,j,none⟩:=λj=>hb5.cell (p:=⟨w.heap.size+1+1,j,none⟩) (by show w.heap.size+1+1<w3.heap.size;omega);have u1:∀j,w5.frozen? ⟨w.heap.size+1,j,none⟩=false:=λj=>(hb5.frozen (p:=⟨w.heap.size+1,j,none⟩) (by show w.heap.size+1<w3.heap.size;omega)).trans (s1 j);have u2:∀j,w5.frozen? ⟨w.heap.size+1+1,j,none⟩=false:=λj=>(hb5.frozen (p:=⟨w.heap.size+1+1,j,none⟩) (by show w.heap.size+1+1<w3.heap.size;omega)).trans (s2 j);have q8:w5.cell? ⟨w.heap.size,8,none⟩=some k1:=(e0 8).trans (r0 8);have o7:w5.cell? ⟨w.heap.size+1+1,7,none⟩=some (.slice none 0 0):=(e2 7).trans (r2 7);have f7:=u2 7;obtain⟨wa,hwa⟩:∃wa,wa=w5.setCell ⟨w.heap.size+1+1,7,none⟩ (.slice pn p cn):=⟨_,rfl⟩
 have za:wa.heap.size=w5.heap.size:=by rw[hwa];simp
 have ba:Below w.heap.size w wa:=by rw[hwa];exact(b3.trans (hb5.mono (by omega))).setCell (by show w.heap.size<=w.heap.size+1+1;omega) _
 have HV:Hid (OwnR w5 (.slice pn p cn) w3.heap.size p (λi=>.string (A i))/\Below w3.heap.size w3 w5/\w3.heap.size=w.heap.size+1+1+1/\wa.heap.size=w5.heap.size/\Below w.heap.size w wa/\wa=w5.setCell ⟨w.heap.size+1+1,7,none⟩ (.slice pn p cn)):=(⟨hvn,hb5,z3,za,ba,hwa⟩:_/\_/\_/\_/\_/\_)
 have HC:Hid ((∀j,w5.cell? ⟨w.heap.size+1,j,none⟩=(#[.int .i64 0,.int .i64 0,.int .i64 0,.int .i64 0,.int .i64 0,.int .i64 0,.string ⟨#[]⟩,.slice none 0 0,.slice none 0 0]:Array Value)[j]?)/\(∀j,w5.cell? ⟨w.heap.size+1+1,j,none⟩=(#[.int .i64 k,.int .i64 f,.int .i64 t,.int .i64 l,.int .i64 o,.int .i64 m,.string x,.slice none 0 0,.slice none 0 0]:Array Value)[j]?)/\(∀j,w5.frozen? ⟨w.heap.size+1,j,none⟩=false)/\(∀j,w5.frozen? ⟨w.heap.size+1+1,j,none⟩=false)):=(⟨λj=>(e1 j).trans (r1 j),λj=>(e2 j).trans (r2 j),u1,u2⟩:_/\_/\_/\_)
 clear hvn hb5 e0 e1 e2 u1 u2 r0 r1 r2 s1 s2 z3 b3 za ba hwa;go_wp2_with fail;have HV':=(uh HV)
 obtain⟨hvn,hb5,z3,za,ba,hwa⟩:=HV';obtain⟨e1,e2,u1,u2⟩:=(uh HC)
 have z5:=hb5.size;rw[<-hwa];refine(g2 _ ba).mono ?_;rintro e w6 ⟨vk,rfl,hvk,hb6,lt6⟩;have HL6:Hid (wa.heap.size<w6.heap.size):=lt6;clear lt6;obtain⟨pk,ck,rfl,hsk⟩:=hvk.sl;clear hsk g2 HV HC
 have y1:∀j,w6.cell? ⟨w.heap.size+1,j,none⟩=w5.cell? ⟨w.heap.size+1,j,none⟩:=λj=>by
  rw[hb6.cell (p:=⟨w.heap.size+1,j,none⟩) (by show w.heap.size+1<wa.heap.size;omega),hwa];exact World.cell?_setCell_other _ _ _ _ (λe=>by have:=congrArg Addr.block e;simp at this)
 have y2:∀j,j≠7->w6.cell? ⟨w.heap.size+1+1,j,none⟩=w5.cell? ⟨w.heap.size+1+1,j,none⟩:=λj hj=>by
  rw[hb6.cell (p:=⟨w.heap.size+1+1,j,none⟩) (by show w.heap.size+1+1<wa.heap.size;omega),hwa];exact set_ne _ _ _ _ _ hj
 have x7:w6.cell? ⟨w.heap.size+1+1,7,none⟩=some (.slice pn p cn):=by
  rw[hb6.cell (p:=⟨w.heap.size+1+1,7,none⟩) (by show w.heap.size+1+1<wa.heap.size;omega),hwa];exact set_eq _ _ _ _ _ o7
 have a0:w6.cell? ⟨w.heap.size+1,0,none⟩=some (.int .i64 0):=(y1 0).trans (e1 0);have x0:w6.cell? ⟨w.heap.size+1+1,0,none⟩=some (.int .i64 k):=(y2 0 (by omega)).trans (e2 0);have a1:w6.cell? ⟨w.heap.size+1,1,none⟩=some (.int .i64 0):=(y1 1).trans (e1 1);have x1:w6.cell? ⟨w.heap.size+1+1,1,none⟩=some (.int .i64 f):=(y2 1 (by omega)).trans (e2 1);have a2:w6.cell? ⟨w.heap.size+1,2,none⟩=some (.int .i64 0):=(y1 2).trans (e1 2);have x2:w6.cell? ⟨w.heap.size+1+1,2,none⟩=some (.int .i64 t):=(y2 2 (by omega)).trans (e2 2);have a3:w6.cell? ⟨w.heap.size+1,3,none⟩=some (.int .i64 0):=(y1 3).trans (e1 3);have x3:w6.cell? ⟨w.heap.size+1+1,3,none⟩=some (.int .i64 l):=(y2 3 (by omega)).trans (e2 3);have a4:w6.cell? ⟨w.heap.size+1,4,none⟩=some (.int .i64 0):=(y1 4).trans (e1 4);have x4:w6.cell? ⟨w.heap.size+1+1,4,none⟩=some (.int .i64 o):=(y2 4 (by omega)).trans (e2 4);have a5:w6.cell? ⟨w.heap.size+1,5,none⟩=some (.int .i64 0):=(y1 5).trans (e1 5);have x5:w6.cell? ⟨w.heap.size+1+1,5,none⟩=some (.int .i64 m):=(y2 5 (by omega)).trans (e2 5);have a6:w6.cell? ⟨w.heap.size+1,6,none⟩=some (.string ⟨#[]⟩):=(y1 6).trans (e1 6);have x6:w6.cell? ⟨w.heap.size+1+1,6,none⟩=some (.string x):=(y2 6 (by omega)).trans (e2 6);have a7:w6.cell? ⟨w.heap.size+1,7,none⟩=some (.slice none 0 0):=(y1 7).trans (e1 7);have a8:w6.cell? ⟨w.heap.size+1,8,none⟩=some (.slice none 0 0):=(y1 8).trans (e1 8);have x8:w6.cell? ⟨w.heap.size+1+1,8,none⟩=some (.slice none 0 0):=(y2 8 (by omega)).trans (e2 8)
 have v1:∀j,w6.frozen? ⟨w.heap.size+1,j,none⟩=false:=λj=>by
  rw[hb6.frozen (p:=⟨w.heap.size+1,j,none⟩) (by show w.heap.size+1<wa.heap.size;omega),hwa];simp[u1 j]
 have v2:w6.frozen? ⟨w.heap.size+1+1,8,none⟩=false:=by
  rw[hb6.frozen (p:=⟨w.heap.size+1+1,8,none⟩) (by show w.heap.size+1+1<wa.heap.size;omega),hwa];simp[u2 8]
 have HE:Hid (OwnR w5 (.slice pn p cn) w3.heap.size p (λi=>.string (A i))/\OwnR w6 (.slice pk q ck) wa.heap.size q (λi=>.int .i64 (K i))/\Below wa.heap.size wa w6/\Below w.heap.size w wa/\wa=w5.setCell ⟨w.heap.size+1+1,7,none⟩ (.slice pn p cn)/\w3.heap.size=w.heap.size+1+1+1/\w3.heap.size<=w5.heap.size):=(⟨hvn,hvk,hb6,ba,hwa,z3,z5⟩:_/\_/\_/\_/\_/\_/\_)
 clear hvn hvk hb6 ba hwa z3 z5 za hb5 e1 e2 u1 u2 y1 y2 q8 o7 f7;go_wp2_with fail;refine bodyPost_ret (by simp[results,Tryz.results28,go_sem,a0,a1,a2,a3,a4,a5,a6,a7,a8];rfl) rfl ?_;obtain⟨hvn,hvk,hb6,ba,hwa,z3,z5⟩:=(uh HE)
 clear HE a0 a1 a2 a3 a4 a5 a6 a7 a8 x0 x1 x2 x3 x4 x5 x6 x7 x8 v1 v2;have za:wa.heap.size=w5.heap.size:=by rw[hwa];simp
 have hq:=((((((((((Kq.refl (λk=>k=w.heap.size+1\/k=w.heap.size+1+1) w6).setCell ⟨w.heap.size+1+1,8,none⟩ (Or.inr rfl) (.slice pk q ck)).setCell ⟨w.heap.size+1,0,none⟩ (Or.inl rfl) (.int .i64 k)).setCell ⟨w.heap.size+1,1,none⟩ (Or.inl rfl) (.int .i64 f)).setCell ⟨w.heap.size+1,2,none⟩ (Or.inl rfl) (.int .i64 t)).setCell ⟨w.heap.size+1,3,none⟩ (Or.inl rfl) (.int .i64 l)).setCell ⟨w.heap.size+1,4,none⟩ (Or.inl rfl) (.int .i64 o)).setCell ⟨w.heap.size+1,5,none⟩ (Or.inl rfl) (.int .i64 m)).setCell ⟨w.heap.size+1,6,none⟩ (Or.inl rfl) (.string x)).setCell ⟨w.heap.size+1,7,none⟩ (Or.inl rfl) (.slice pn p cn)).setCell ⟨w.heap.size+1,8,none⟩ (Or.inl rfl) (.slice pk q ck);generalize World.setCell _ (⟨w.heap.size+1,8,none⟩:Addr) (Value.slice pk q ck)=wf at hq⊢;have zw:=ba.size;have z6:=hb6.size;have zf:=hq.size;have l5:w3.heap.size<w5.heap.size:=HL5;have l6:wa.heap.size<w6.heap.size:=HL6;refine⟨_,_,w3.heap.size,wa.heap.size,rfl,hvn.block ?_,hvk.block ?_,by omega,?_,by omega,?_⟩
 ·intro hp;have hl:=lt_of_cell (hvn.cell 0 hp);rw[hq.block _ (by omega) (by omega),hb6.block _ (by omega),hwa];exact Below.heap_setCell _ _ _ _ (by show w3.heap.size≠w.heap.size+1+1;omega)
 ·intro hp;exact hq.block _ (lt_of_cell (hvk.cell 0 hp)) (by omega)
 ·omega
 ·exact⟨hq.os.trans (hb6.os.trans ba.os),hq.tape.trans (hb6.tape.trans ba.tape),hq.output.trans (hb6.output.trans ba.output),by omega,λj hj=>(hq.block j (by omega) (by omega)).trans ((hb6.block j (by omega)).trans (ba.block j hj))⟩
structure Cel9 (W:World) (b:Addr) (a:Fv) (vn vk:Value):Prop where
 c0:W.cell? b=some (.int .i64 a.k)
 c1:W.cell? ⟨b.block,b.off+1,none⟩=some (.int .i64 a.f)
 c2:W.cell? ⟨b.block,b.off+2,none⟩=some (.int .i64 a.t)
 c3:W.cell? ⟨b.block,b.off+3,none⟩=some (.int .i64 a.l)
 c4:W.cell? ⟨b.block,b.off+4,none⟩=some (.int .i64 a.o)
 c5:W.cell? ⟨b.block,b.off+5,none⟩=some (.int .i64 a.m)
 c6:W.cell? ⟨b.block,b.off+6,none⟩=some (.string a.x)
 c7:W.cell? ⟨b.block,b.off+7,none⟩=some vn
 c8:W.cell? ⟨b.block,b.off+8,none⟩=some vk
structure Gv where
 a:Fv
 p:Nat
 A:Nat->ByteArray
 q:Nat
 K:Nat->Int
def FormC(W:World)(b:Addr)(g:Gv):Prop:=∃vn vk,Cel9 W b g.a vn vk/\RowV W vn g.p (λi=>.string (g.A i))/\RowV W vk g.q (λi=>.int .i64 (g.K i))
def RowF(W:World)(v:Value)(n:Nat)(F:Nat->Gv):Prop:=
 ∃pa cap,v=.slice pa n cap/\(0<n->∃a:Addr,pa=some a/\n<=cap/\∀i,i<n->FormC W (a.add (i*9)) (F i))
theorem Cel9.below{b:Addr}{a:Fv}{vn vk:Value}(h:Cel9 W b a vn vk)(hb:Below W.heap.size W W'):Cel9 W' b a vn vk:=by
 have hl:=lt_of_cell' h.c0;have e:∀j,W'.cell? ⟨b.block,j,none⟩=W.cell? ⟨b.block,j,none⟩:=λj=>hb.cell (p:=⟨b.block,j,none⟩) hl;exact⟨(hb.cell hl).trans h.c0,(e _).trans h.c1,(e _).trans h.c2,(e _).trans h.c3,(e _).trans h.c4,(e _).trans h.c5,(e _).trans h.c6,(e _).trans h.c7,(e _).trans h.c8⟩
theorem FormC.below{b:Addr}{g:Gv}(h:FormC W b g)(hb:Below W.heap.size W W'):FormC W' b g:=by
 obtain⟨vn,vk,h1,h2,h3⟩:=h;exact⟨vn,vk,h1.below hb,h2.below hb,h3.below hb⟩
theorem szf_sub(x:ByteArray)(p:Nat)(A:Nat->ByteArray)(q:Nat)(l:Int)(h:0<=szf x p A q l):szf x p A q l+(p:Int)+(q:Int)<=l:=by
 unfold szf at h⊢;have:=lfs_le A (l-(x.size:Int)-p) p;split at h
 ·omega
 ·rename_i h1
  rw[if_neg h1];split at h
  ·omega
  ·rename_i h2
   rw[if_neg h2];split at h
   ·omega
   ·rename_i h3
    rw[if_neg h3];omega
def smr (F:Nat->Gv):Nat->Nat
 |0=>0
 |i+1=>smr F i+(F i).p+(F i).q
theorem sz_forms{F:Nat->Gv}(w:World)(l:Int)(ha:RowF w v n F)(hn:(n:Int)<140737488355328)
  (hF:∀i,i<n->((F i).a.x.size:Int)<140737488355328/\((F i).p:Int)<140737488355328/\(∀j,j<(F i).p->(((F i).A j).size:Int)<140737488355328)/\((F i).q:Int)<140737488355328) (hl0:0<=l) (hl:l<=1048576):
  Calls Tryz.prog 9 #[v,.int .i64 l] w λe w'=>∃r:Int,e=.returned (.int .i64 r)/\(0<=r->(n:Int)+(smr F n:Int)<=l)/\-1<=r/\r<=1048576/\Below w.heap.size w w':=by
 obtain⟨pa,ca,rfl,ha2⟩:=ha;have HA:Hid ((0<n->∃a:Addr,pa=some a/\n<=ca/\∀i,i<n->FormC w (a.add (i*9)) (F i))/\∀i,i<n->((F i).a.x.size:Int)<140737488355328/\((F i).p:Int)<140737488355328/\(∀j,j<(F i).p->(((F i).A j).size:Int)<140737488355328)/\((F i).q:Int)<140737488355328):=(⟨ha2,hF⟩:_/\_)
 clear ha2 hF;go_enter Tryz.func9,Tryz.ntmps9;rcases Int.lt_or_le (l-n) 0 with h|h
 ·clear HA;go_wp2_with fail;go_ret;exact⟨-1,rfl,λf=>by omega,by omega,by omega,Below.refl _ _⟩
 ·have h':¬(l-n<0):=by omega
  go_wp2_with fail
  go_loopw [1,5] (λs1 s5 wr=>∃(i:Nat) (x:Int),s1=.int .i64 x/\s5=.int .i64 i/\i<=n/\0<=x/\x<=1048576/\Hid (x+(n:Int)+(smr F i:Int)<=l/\Below w.heap.size w wr)) (λ_ s5 _=>n-(intOf s5).toNat)
  case atStart=>exact⟨0,l-n,rfl,rfl,Nat.zero_le _,by omega,by omega,(⟨by show l-n+n+((0:Nat):Int)<=l;omega,Below.refl _ _⟩:_/\_)⟩
  case round=>
   obtain⟨i,x,rfl,rfl,hin,hx0,hx1,HX⟩:=hrel;rcases Nat.lt_or_ge i n with hi|hi
   ·have hA:=(uh HA)
    have hX:=(uh HX)
    obtain⟨a,rfl,hca,hra⟩:=hA.1 (by omega);obtain⟨y1,y2,y3,y4⟩:=hA.2 i hi;obtain⟨vn,vk,hc,hrn,hrk⟩:=(hra i hi).below hX.2;have hsz:=λW' (hb:Below wr.heap.size wr W')=>sz_form W' x (a:=(F i).a) (hrn.below hb) (hrk.below hb) y1 y2 y3 y4 hx0 hx1;have hsub:=szf_sub (F i).a.x (F i).p (F i).A (F i).q x;have hle:=szf_le (F i).a.x (F i).p (F i).A (F i).q x hx0;obtain⟨r,hr⟩:∃r,r=szf (F i).a.x (F i).p (F i).A (F i).q x:=⟨_,rfl⟩
    rw[<-hr]at hsub hle
    have hm1:-1<=r:=by
     rw[hr];unfold szf;split
     ·omega
     ·split
      ·omega
      ·split<;>omega
    have HS:Hid (Calls Tryz.prog 19 #[fmv (F i).a vn vk,.int .i64 x] wr λe w'=>e=.returned (.int .i64 r)/\Below wr.heap.size wr w'):=by
     rw[hr];exact hsz wr (Below.refl _ _)
    have HSUB:Hid ((0<=r->r+(n:Int)+(smr F (i+1):Int)<=l)/\Below w.heap.size w wr):=(⟨λg=>by
     have:=hsub g;have:=hX.1;show r+(n:Int)+((smr F i+(F i).p+(F i).q:Nat):Int)<=l
     omega,hX.2⟩:_/\_)
    obtain⟨d0,d1,d2,d3,d4,d5,d6,d7,d8⟩:=hc;have hiI:(i:Int)<(n:Int):=by omega
    clear hA hX HX hra y1 y2 y3 y4 hrn hrk hsz hsub hr HA hin;go_wp2_with fail;refine(uh HS).mono ?_;rintro e w6 ⟨rfl,hb6⟩;have hS:=(uh HSUB)
    have HB6:Hid ((0<=r->r+(n:Int)+(smr F (i+1):Int)<=l)/\Below w.heap.size w w6):=(⟨hS.1,hS.2.trans (hb6.mono hS.2.size)⟩:_/\_)
    clear HS HSUB hS hb6 d0 d1 d2 d3 d4 d5 d6 d7 d8;rcases Int.lt_or_le r 0 with hr0|hr0
    ·go_wp2_with fail;go_ret;exact⟨-1,rfl,λf=>by omega,by omega,by omega,HB6.2⟩
    ·have hr0':¬(r<0):=by omega
     have hr1:r<=1048576:=by omega
     have hnI:(n:Int)<=1048576:=by omega
     clear hn hle h h' hm1 hl0 hl hx0 hx1;go_wp2_with fail;go_roundw
     case rel=>exact⟨i+1,r,rfl,by go_num,by omega,hr0,hr1,(⟨HB6.1 hr0,HB6.2⟩:_/\_)⟩
     case measure=>simp[intOf];omega
   ·obtain rfl:i=n:=by omega
    clear HA;go_wp2_with fail;go_ret;have hX:=(uh HX)
    exact⟨x,rfl,λ_=>by have:=hX.1;omega,by omega,hx1,hX.2⟩
theorem eq_forms{vb:Value}{F:Nat->Gv}(w:World)(ha:RowF w va n F)(hb:RowF w vb n F)(hn:n<=1048576)(hF:∀i,i<n->(F i).p<=1048576/\(F i).q<=1048576):
  Calls Tryz.prog 18 #[va,vb] w λe w'=>e=.returned (.bool true)/\Below w.heap.size w w':=by
 obtain⟨qa,ca,rfl,ha2⟩:=ha;obtain⟨qb,cb,rfl,hb2⟩:=hb;have HA:Hid ((0<n->∃a:Addr,qa=some a/\n<=ca/\∀i,i<n->FormC w (a.add (i*9)) (F i))/\(0<n->∃a:Addr,qb=some a/\n<=cb/\∀i,i<n->FormC w (a.add (i*9)) (F i))/\∀i,i<n->(F i).p<=1048576/\(F i).q<=1048576):=(⟨ha2,hb2,hF⟩:_/\_/\_)
 have hnI:(n:Int)<=1048576:=by omega
 clear ha2 hb2 hn hF;go_enter Tryz.func18,Tryz.ntmps18;go_wp2_with fail
 go_loopw [5] (λs5 wr=>∃i:Nat,s5=.int .i64 i/\i<=n/\Hid (Below w.heap.size w wr)) (λs5 _=>n-(intOf s5).toNat)
 case atStart=>exact⟨0,rfl,Nat.zero_le _,Below.refl _ _⟩
 case round=>
  obtain⟨i,rfl,hin,HB⟩:=hrel;rcases Nat.lt_or_ge i n with hi|hi
  ·have hA:=(uh HA)
   obtain⟨pa,rfl,hca,hra⟩:=hA.1 (by omega);obtain⟨pb,rfl,hcb,hrb⟩:=hA.2.1 (by omega);obtain⟨y1,y2⟩:=hA.2.2 i hi;have hiI:(i:Int)<(n:Int):=by omega
   obtain⟨na,ka,⟨a0,a1,a2,a3,a4,a5,a6,a7,a8⟩,hna,hka⟩:=(hra i hi).below HB;obtain⟨nb,kb,⟨b0,b1,b2,b3,b4,b5,b6,b7,b8⟩,hnb,hkb⟩:=(hrb i hi).below HB;have HQ:Hid (∀W',Below wr.heap.size wr W'->Calls Tryz.prog 33 #[fmv (F i).a na ka,fmv (F i).a nb kb] W' λe w'=>e=.returned (.bool true)/\Below W'.heap.size W' w'):=(λW' hb=>eq_form W' (hna.below hb) (hnb.below hb) (hka.below hb) (hkb.below hb) y1 y2:∀W',_)
   have hla:=lt_of_cell' a0;have hlb:=lt_of_cell' b0;clear hA hra hrb HA hin y1 y2 hna hka hnb hkb;generalize F i=G at*;obtain⟨⟨xk,xf,xt,xl,xo,xm,xx⟩,gp,gA,gq,gK⟩:=G;unfold fmv at HQ;dsimp only at a0 a1 a2 a3 a4 a5 a6 b0 b1 b2 b3 b4 b5 b6 HQ
   have heq:∀W',W'.heap=wr.heap->W'.os=wr.os->W'.tape=wr.tape->W'.output=wr.output->Calls Tryz.prog 33 #[.agg #[.int .i64 xk,.int .i64 xf,.int .i64 xt,.int .i64 xl,.int .i64 xo,.int .i64 xm,.string xx,na,ka],.agg #[.int .i64 xk,.int .i64 xf,.int .i64 xt,.int .i64 xl,.int .i64 xo,.int .i64 xm,.string xx,nb,kb]] W' λe w'=>e=.returned (.bool true)/\Below W'.heap.size W' w':=
    λW' h0 h1 h2 h3=>HQ W' ⟨h1,h2,h3,by rw[h0];exact Nat.le_refl _,λk _=>by rw[h0]⟩
   have HEQ:Hid (∀W',W'.heap=wr.heap->W'.os=wr.os->W'.tape=wr.tape->W'.output=wr.output->Calls Tryz.prog 33 #[.agg #[.int .i64 xk,.int .i64 xf,.int .i64 xt,.int .i64 xl,.int .i64 xo,.int .i64 xm,.string xx,na,ka],.agg #[.int .i64 xk,.int .i64 xf,.int .i64 xt,.int .i64 xl,.int .i64 xo,.int .i64 xm,.string xx,nb,kb]] W' λe w'=>e=.returned (.bool true)/\Below W'.heap.size W' w'):=heq
   have hkeep:∀(W0 W':World),Below W0.heap.size W0 W'->W0.heap=wr.heap->(W'.cell? (pa.add (i*9))=some (.int .i64 xk)/\W'.cell? ⟨(pa.add (i*9)).block,(pa.add (i*9)).off+1,none⟩=some (.int .i64 xf)/\W'.cell? ⟨(pa.add (i*9)).block,(pa.add (i*9)).off+2,none⟩=some (.int .i64 xt)/\W'.cell? ⟨(pa.add (i*9)).block,(pa.add (i*9)).off+3,none⟩=some (.int .i64 xl)/\W'.cell? ⟨(pa.add (i*9)).block,(pa.add (i*9)).off+4,none⟩=some (.int .i64 xo)/\W'.cell? ⟨(pa.add (i*9)).block,(pa.add (i*9)).off+5,none⟩=some (.int .i64 xm)/\W'.cell? ⟨(pa.add (i*9)).block,(pa.add (i*9)).off+6,none⟩=some (.string xx)/\W'.cell? ⟨(pa.add (i*9)).block,(pa.add (i*9)).off+7,none⟩=some (na)/\W'.cell? ⟨(pa.add (i*9)).block,(pa.add (i*9)).off+8,none⟩=some (ka)/\W'.cell? (pb.add (i*9))=some (.int .i64 xk)/\W'.cell? ⟨(pb.add (i*9)).block,(pb.add (i*9)).off+1,none⟩=some (.int .i64 xf)/\W'.cell? ⟨(pb.add (i*9)).block,(pb.add (i*9)).off+2,none⟩=some (.int .i64 xt)/\W'.cell? ⟨(pb.add (i*9)).block,(pb.add (i*9)).off+3,none⟩=some (.int .i64 xl)/\W'.cell? ⟨(pb.add (i*9)).block,(pb.add (i*9)).off+4,none⟩=some (.int .i64 xo)/\W'.cell? ⟨(pb.add (i*9)).block,(pb.add (i*9)).off+5,none⟩=some (.int .i64 xm)/\W'.cell? ⟨(pb.add (i*9)).block,(pb.add (i*9)).off+6,none⟩=some (.string xx)/\W'.cell? ⟨(pb.add (i*9)).block,(pb.add (i*9)).off+7,none⟩=some (nb)/\W'.cell? ⟨(pb.add (i*9)).block,(pb.add (i*9)).off+8,none⟩=some (kb)):=by
    intro W0 W' hb he;have ea:∀j,W'.cell? ⟨(pa.add (i*9)).block,j,none⟩=wr.cell? ⟨(pa.add (i*9)).block,j,none⟩:=λj=>World.cell?_of_block (by rw[hb.block _ (by rw[he];exact hla),he]);have eb:∀j,W'.cell? ⟨(pb.add (i*9)).block,j,none⟩=wr.cell? ⟨(pb.add (i*9)).block,j,none⟩:=λj=>World.cell?_of_block (by rw[hb.block _ (by rw[he];exact hlb),he]);have ea0:W'.cell? (pa.add (i*9))=wr.cell? (pa.add (i*9)):=World.cell?_of_block (by rw[hb.block _ (by rw[he];exact hla),he]);have eb0:W'.cell? (pb.add (i*9))=wr.cell? (pb.add (i*9)):=World.cell?_of_block (by rw[hb.block _ (by rw[he];exact hlb),he]);simp only[ea,eb,ea0,eb0];exact⟨a0,a1,a2,a3,a4,a5,a6,a7,a8,b0,b1,b2,b3,b4,b5,b6,b7,b8⟩
   have HKEEP:Hid (∀(W0 W':World),Below W0.heap.size W0 W'->W0.heap=wr.heap->(W'.cell? (pa.add (i*9))=some (.int .i64 xk)/\W'.cell? ⟨(pa.add (i*9)).block,(pa.add (i*9)).off+1,none⟩=some (.int .i64 xf)/\W'.cell? ⟨(pa.add (i*9)).block,(pa.add (i*9)).off+2,none⟩=some (.int .i64 xt)/\W'.cell? ⟨(pa.add (i*9)).block,(pa.add (i*9)).off+3,none⟩=some (.int .i64 xl)/\W'.cell? ⟨(pa.add (i*9)).block,(pa.add (i*9)).off+4,none⟩=some (.int .i64 xo)/\W'.cell? ⟨(pa.add (i*9)).block,(pa.add (i*9)).off+5,none⟩=some (.int .i64 xm)/\W'.cell? ⟨(pa.add (i*9)).block,(pa.add (i*9)).off+6,none⟩=some (.string xx)/\W'.cell? ⟨(pa.add (i*9)).block,(pa.add (i*9)).off+7,none⟩=some (na)/\W'.cell? ⟨(pa.add (i*9)).block,(pa.add (i*9)).off+8,none⟩=some (ka)/\W'.cell? (pb.add (i*9))=some (.int .i64 xk)/\W'.cell? ⟨(pb.add (i*9)).block,(pb.add (i*9)).off+1,none⟩=some (.int .i64 xf)/\W'.cell? ⟨(pb.add (i*9)).block,(pb.add (i*9)).off+2,none⟩=some (.int .i64 xt)/\W'.cell? ⟨(pb.add (i*9)).block,(pb.add (i*9)).off+3,none⟩=some (.int .i64 xl)/\W'.cell? ⟨(pb.add (i*9)).block,(pb.add (i*9)).off+4,none⟩=some (.int .i64 xo)/\W'.cell? ⟨(pb.add (i*9)).block,(pb.add (i*9)).off+5,none⟩=some (.int .i64 xm)/\W'.cell? ⟨(pb.add (i*9)).block,(pb.add (i*9)).off+6,none⟩=some (.string xx)/\W'.cell? ⟨(pb.add (i*9)).block,(pb.add (i*9)).off+7,none⟩=some (nb)/\W'.cell? ⟨(pb.add (i*9)).block,(pb.add (i*9)).off+8,none⟩=some (kb))):=hkeep;have HB2:Hid (∀(W0 W':World),Below W0.heap.size W0 W'->(Below w.heap.size w wr->Below w.heap.size w W0)->Below w.heap.size w W'):=(λW0 W' h1 h2=>(h2 HB).trans (h1.mono (h2 HB).size):∀(W0 W':World),Below W0.heap.size W0 W'->(Below w.heap.size w wr->Below w.heap.size w W0)->Below w.heap.size w W')
   clear hkeep hla hlb HEQ HQ;go_wp2_with fail
   go_region_held_law (λW'=>W'.cell? (pa.add (i*9))=some (.int .i64 xk)/\W'.cell? ⟨(pa.add (i*9)).block,(pa.add (i*9)).off+1,none⟩=some (.int .i64 xf)/\W'.cell? ⟨(pa.add (i*9)).block,(pa.add (i*9)).off+2,none⟩=some (.int .i64 xt)/\W'.cell? ⟨(pa.add (i*9)).block,(pa.add (i*9)).off+3,none⟩=some (.int .i64 xl)/\W'.cell? ⟨(pa.add (i*9)).block,(pa.add (i*9)).off+4,none⟩=some (.int .i64 xo)/\W'.cell? ⟨(pa.add (i*9)).block,(pa.add (i*9)).off+5,none⟩=some (.int .i64 xm)/\W'.cell? ⟨(pa.add (i*9)).block,(pa.add (i*9)).off+6,none⟩=some (.string xx)/\W'.cell? ⟨(pa.add (i*9)).block,(pa.add (i*9)).off+7,none⟩=some (na)/\W'.cell? ⟨(pa.add (i*9)).block,(pa.add (i*9)).off+8,none⟩=some (ka)/\W'.cell? (pb.add (i*9))=some (.int .i64 xk)/\W'.cell? ⟨(pb.add (i*9)).block,(pb.add (i*9)).off+1,none⟩=some (.int .i64 xf)/\W'.cell? ⟨(pb.add (i*9)).block,(pb.add (i*9)).off+2,none⟩=some (.int .i64 xt)/\W'.cell? ⟨(pb.add (i*9)).block,(pb.add (i*9)).off+3,none⟩=some (.int .i64 xl)/\W'.cell? ⟨(pb.add (i*9)).block,(pb.add (i*9)).off+4,none⟩=some (.int .i64 xo)/\W'.cell? ⟨(pb.add (i*9)).block,(pb.add (i*9)).off+5,none⟩=some (.int .i64 xm)/\W'.cell? ⟨(pb.add (i*9)).block,(pb.add (i*9)).off+6,none⟩=some (.string xx)/\W'.cell? ⟨(pb.add (i*9)).block,(pb.add (i*9)).off+7,none⟩=some (nb)/\W'.cell? ⟨(pb.add (i*9)).block,(pb.add (i*9)).off+8,none⟩=some (kb)) (first|exact⟨a0,a1,a2,a3,a4,a5,a6,a7,a8,b0,b1,b2,b3,b4,b5,b6,b7,b8⟩|exact(uh HKEEP) _ _ hb5 rfl) ((go_at_call 33;refine(heq _ (by exact rfl) (by exact rfl) (by exact rfl) (by exact rfl)).mono ?_;rintro e w5 ⟨rfl,hb5⟩))
   all_goals
    have HB5:Hid (Below w.heap.size w w5):=(uh HB2) _ _ hb5 (λh=>⟨h.os,h.tape,h.output,h.size,h.block⟩);clear HB HB2 HKEEP heq hb5 a0 a1 a2 a3 a4 a5 a6 a7 a8 b0 b1 b2 b3 b4 b5 b6 b7 b8;go_wp2_with fail;go_roundw
    case rel=>exact⟨i+1,by go_num,by omega,HB5⟩
    case measure=>simp[intOf];omega
  ·obtain rfl:i=n:=by omega
   clear HA;go_wp2_with fail;go_ret;exact⟨rfl,HB⟩
