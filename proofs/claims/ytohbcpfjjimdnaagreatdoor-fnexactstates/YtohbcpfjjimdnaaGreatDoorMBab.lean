import Derived.Test.YtohbcpfjjimdnaaGreatDoorMBaa
import Derived.Deep.RegionHeldLaw
import Derived.Deep.CutBlock
set_option maxRecDepth 100000
set_option maxHeartbeats 4000000
namespace Go.Proofs.YtohbcpfjjimdnaaGreatDoor.Fo
open Go.ChangeShapes Go.WideShapes Go.ChangeAt Go.RowKit
set_option linter.unusedVariables false
variable {S:Nat->Prop}{a b w W:World}{n g:Nat}{v:Value}{A:Nat->Value}
theorem conv_one(W:World)(c:UInt8):(convert 148 9 (.slice (some ⟨W.heap.size,0,none⟩) 1 1)).run Tryz.prog (W.alloc (.cells #[.int .u8 c.toNat] 5))=.ok (.string ⟨#[c]⟩) (W.alloc (.cells #[.int .u8 c.toNat] 5)):=by
 have:=run_convert_bytes_back (P:=Tryz.prog) (W.alloc (.cells #[.int .u8 c.toNat] 5)) 148 9 5 ⟨W.heap.size,0,none⟩ 1 [c] Tryz.underlying148 Tryz.underlying5 Tryz.underlying9 (λj hj=>by
  obtain rfl:j=0:=by simp at hj;omega
  simp[Addr.add])
 simpa using this
def mtl (k:Nat) (out:ByteArray):ByteArray:=if h:k=0 then out else mtl (k / 10) (⟨#[UInt8.ofNat (48+k%10)]⟩++out)
termination_by k
decreasing_by omega
theorem mark_text(k:Nat)(hk:1<=k)(hk2:(k:Int)<=1000000000)(w:World):Calls Tryz.prog 50 #[.int .i64 k] w λe w'=>e=.returned (.string (⟨#[109]⟩++mtl k ⟨#[]⟩))/\Below w.heap.size w w':=by
 have hk0:¬(k:Int)<=0:=by omega
 go_enter Tryz.func50,Tryz.ntmps50
 go_upto_block 0 with fail
 go_wp2_with fail
 go_loopw [0,3] (λs0 s3 wr=>∃(j:Nat) (out:ByteArray),s0=.int .i64 j/\s3=.string out/\j+out.size<=k/\Hid (mtl j out=mtl k ⟨#[]⟩/\Below w.heap.size w wr)) (λs0 _ _=>(intOf s0).toNat)
 case atStart=>exact⟨k,⟨#[]⟩,rfl,rfl,(by show k+0<=k;omega),(⟨rfl,Below.refl _ _⟩:_/\_)⟩
 case round=>
  obtain⟨j,out,rfl,rfl,hj,HB⟩:=hrel;have hsz:¬9223372036854775807<1+out.size:=by omega
  by_cases h0:j=0
  ·subst h0;have hB:=(uh HB)
   have e:out=mtl k ⟨#[]⟩:=by rw[<-hB.1];unfold mtl;rfl
   have HB2:Hid (out=mtl k ⟨#[]⟩/\Below w.heap.size w wr):=(⟨e,hB.2⟩:_/\_)
   clear HB hB e;go_wp2_with fail;go_ret;rw[show out=mtl k ⟨#[]⟩from HB2.1];exact⟨rfl,HB2.2⟩
  ·have hj0:(0:Int)<(j:Int):=by omega
   have hd0:(0:Int)<=((j%10:Nat):Int):=by omega
   have hd1:((j%10:Nat):Int)<10:=by omega
   have hq:Int.tmod (j:Int) 10=((j%10:Nat):Int):=rfl;have hq2:Int.tdiv (j:Int) 10=((j / 10:Nat):Int):=rfl;have hcv:=conv_one wr (UInt8.ofNat (48+j%10))
   have hcn:((UInt8.ofNat (48+j%10)).toNat:Int)=48+((j%10:Nat):Int):=by
    have:(UInt8.ofNat (48+j%10)).toNat=48+j%10:=by
     rw[UInt8.toNat_ofNat'];omega
    omega
   rw[hcn]at hcv;have hstep:mtl j out=mtl (j / 10) (⟨#[UInt8.ofNat (48+j%10)]⟩++out):=by rw[mtl,dif_neg h0]
   have HB1:Hid (mtl (j / 10) (⟨#[UInt8.ofNat (48+j%10)]⟩++out)=mtl k ⟨#[]⟩/\Below w.heap.size w (wr.alloc (.cells #[.int .u8 (48+((j%10:Nat):Int))] 5))):=
    (⟨hstep.symm.trans HB.1,HB.2.alloc HB.2.size _⟩:_/\_)
   clear HB hstep hcn;generalize UInt8.ofNat (48+j%10)=c at*;generalize ((j%10:Nat):Int)=r at*;generalize hjq:j / 10=jq at*;go_wp2_with fail;go_roundw
   case rel=>exact⟨jq,⟨#[c]⟩++out,rfl,rfl,by rw[ByteArray.size_append];show jq+(1+out.size)<=k;omega,HB1⟩
   case measure=>simp[intOf];omega
def lfs (A:Nat->ByteArray) (l:Int):Nat->Int
 |0=>l
 |i+1=>lfs A l i-((A i).size:Int)
structure Kq (S:Nat->Prop) (a w:World):Prop where
 os:w.os=a.os
 tape:w.tape=a.tape
 output:w.output=a.output
 size:a.heap.size<=w.heap.size
 block:∀k,k<a.heap.size->¬S k->w.heap[k]? =a.heap[k]?
theorem Kq.refl(S:Nat->Prop)(a:World):Kq S a a:=⟨rfl,rfl,rfl,Nat.le_refl _,λ_ _ _=>rfl⟩
theorem Kq.trans{c:World}(h:Kq S a b)(k:Kq S b c):Kq S a c:=
 ⟨k.os.trans h.os,k.tape.trans h.tape,k.output.trans h.output,Nat.le_trans h.size k.size,λi hi hs=>(k.block i (Nat.lt_of_lt_of_le hi h.size) hs).trans (h.block i hi hs)⟩
theorem Kq.mono{T:Nat->Prop}(h:Kq S a b)(hs:∀k,S k->T k):Kq T a b:=
 ⟨h.os,h.tape,h.output,h.size,λk hk hn=>h.block k hk (λf=>hn (hs k f))⟩
theorem Kq.of_below(h:Below n a w)(hn:a.heap.size<=n):Kq S a w:=⟨h.os,h.tape,h.output,h.size,λi hi _=>h.block i (Nat.lt_of_lt_of_le hi hn)⟩
theorem Kq.drewN(h:Kq S a w)(n:Nat):Kq S a (w.drewN n):=⟨h.os,h.tape,h.output,h.size,h.block⟩
theorem Kq.setCell(h:Kq S a w)(p:Addr)(hp:S p.block)(v:Value):Kq S a (w.setCell p v):=
 ⟨h.os,h.tape,h.output,by simpa using h.size,λk hk hs=>(Below.heap_setCell w p v k (λe=>hs (e▸hp))).trans (h.block k hk hs)⟩
theorem lt_of_cell{b off:Nat}(h:w.cell? ⟨b,off,none⟩=some v):b<w.heap.size:=by
 rcases Nat.lt_or_ge b w.heap.size with hl|hl
 ·exact hl
 ·exfalso;simp[World.cell?,Array.getElem?_eq_none hl]at h
theorem set_ne(W:World)(g o o':Nat)(v:Value)(h:o'≠o):(W.setCell ⟨g,o,none⟩ v).cell? ⟨g,o',none⟩=W.cell? ⟨g,o',none⟩:=
 World.cell?_setCell_other _ _ _ _ (λe=>h (congrArg Addr.off e).symm)
theorem set_eq(W:World)(g o:Nat)(v u:Value)(h:W.cell? ⟨g,o,none⟩=some u):(W.setCell ⟨g,o,none⟩ v).cell? ⟨g,o,none⟩=some v:=
 World.cell?_setCell_same _ _ _ h
theorem set_fz(W:World)(g o o':Nat)(v:Value):(W.setCell ⟨g,o,none⟩ v).frozen? ⟨g,o',none⟩=W.frozen? ⟨g,o',none⟩:=by simp
structure OwnR (W:World) (v:Value) (g n:Nat) (A:Nat->Value):Prop where
 sl:∃pa cap,v=.slice pa n cap/\(0<n->pa=some ⟨g,0,none⟩/\n<=cap)
 cell:∀i,i<n->W.cell? ⟨g,i,none⟩=some (A i)
 fz:0<n->∀j,W.frozen? ⟨g,j,none⟩=false
theorem OwnR.row(h:OwnR W v g n A):RowV W v n A:=by
 obtain⟨pa,cap,h1,h2⟩:=h.sl;refine⟨pa,cap,h1,λhn=>⟨⟨g,0,none⟩,(h2 hn).1,(h2 hn).2,λi hi=>?_⟩⟩;have:=h.cell i hi
 rw[show(⟨g,0,none⟩:Addr).add i=⟨g,i,none⟩from by
  by_cases e:i=0
  ·subst e;rfl
  ·simp[Addr.add,e]]
 exact this
theorem OwnR.block{W':World}(h:OwnR W v g n A)(hb:0<n->W'.heap[g]? =W.heap[g]?):OwnR W' v g n A:=
 ⟨h.sl,λi hi=>by rw[World.cell?_of_block (hb (by omega))];exact h.cell i hi,λhn j=>by rw[World.frozen?_of_block (hb hn)];exact h.fz hn j⟩
structure MkR (w:World) (g n:Nat) (A M:Nat->Value) (i:Nat) (W:World):Prop where
 kq:Kq (λk=>k=g) w W
 don:∀j,j<i->W.cell? ⟨g,j,none⟩=some (M j)
 rest:∀j,i<=j->j<n->W.cell? ⟨g,j,none⟩=some (A j)
 fz:∀j,W.frozen? ⟨g,j,none⟩=false
theorem MkR.step{w6:World}{i:Nat}{M:Nat->Value}(h:MkR w g n A M i W)(hi:i<n)(hb:Below W.heap.size W w6):
  w6.cell? ⟨g,i,none⟩=some (A i)/\w6.frozen? ⟨g,i,none⟩=false/\MkR w g n A M (i+1) (w6.setCell ⟨g,i,none⟩ (M i)):=by
 have hg:g<W.heap.size:=lt_of_cell (h.rest i (Nat.le_refl _) hi);have e6:∀j,w6.cell? ⟨g,j,none⟩=W.cell? ⟨g,j,none⟩:=λj=>World.cell?_of_block (hb.block g hg);have f6:∀j,w6.frozen? ⟨g,j,none⟩=false:=λj=>by rw[World.frozen?_of_block (hb.block g hg)];exact h.fz j
 have c:w6.cell? ⟨g,i,none⟩=some (A i):=by rw[e6];exact h.rest i (Nat.le_refl _) hi
 refine⟨c,f6 i,⟨(h.kq.trans (Kq.of_below hb (Nat.le_refl _))).setCell _ rfl _,?_,?_,?_⟩⟩
 ·intro j hj;by_cases e:j=i
  ·subst e;exact set_eq _ _ _ _ _ c
  ·rw[set_ne _ _ _ _ _ e,e6];exact h.don j (by omega)
 ·intro j h1 h2;rw[set_ne _ _ _ _ _ (by omega),e6];exact h.rest j (by omega) h2
 ·intro j;rw[set_fz];exact f6 j
theorem mark_ints{A:Nat->Int}(w:World)(k:Int)(ha:OwnR w v g n (λi=>.int .i64 (A i)))(hn:n<=1048576)(hk0:0<=k)(hk:k<=100000000):
  Calls Tryz.prog 25 #[v,.int .i64 k] w λe w'=>e=.returned (.int .i64 (k+(n:Int)))/\Kq (λj=>0<n/\j=g) w w'/\OwnR w' v g n (λi=>.int .i64 (k+(i:Int))):=by
 obtain⟨pa,ca,rfl,ha2⟩:=ha.sl;by_cases h0:n=0
 ·subst h0;go_enter Tryz.func25,Tryz.ntmps25;go_wp2_with fail;refine wp_loop_rounds 1 ?_;rw[rounds_succ];go_wp2_with fail;go_ret;exact⟨by simp,Kq.refl _ _,⟨⟨pa,ca,rfl,ha2⟩,λi hi=>by omega,λf=>by omega⟩⟩
 ·obtain⟨rfl,hca⟩:=ha2 (by omega);have HI0:Hid (MkR w g n (λi=>.int .i64 (A i)) (λi=>.int .i64 (k+(i:Int))) 0 w):=(⟨Kq.refl _ _,λi hi=>by omega,λi _ hi=>ha.cell i hi,ha.fz (by omega)⟩:MkR w g n _ _ 0 w)
  have hnI:(n:Int)<=1048576:=by omega
  have HN0:Hid (0<n):=(by omega:0<n)
  clear ha2 ha h0;go_enter Tryz.func25,Tryz.ntmps25;go_wp2_with fail
  go_loopw [1,5] (λs1 s5 wr=>∃i:Nat,s5=.int .i64 i/\s1=.int .i64 (k+(i:Int))/\i<=n/\Hid (MkR w g n (λi=>.int .i64 (A i)) (λi=>.int .i64 (k+(i:Int))) i wr)) (λ_ s5 _=>n-(intOf s5).toNat)
  case atStart=>exact⟨0,rfl,by simp,Nat.zero_le _,HI0⟩
  case round=>
   clear HI0;obtain⟨i,rfl,rfl,hin,HI⟩:=hrel;have hI:=(uh HI)
   rcases Nat.lt_or_ge i n with hi|hi
   ·have hiI:(i:Int)<(n:Int):=by omega
    obtain⟨c,f,hM⟩:=hI.step hi (Below.refl _ _);have hx:k+(i:Int)<=101048576:=by omega
    have hx0:0<=k+(i:Int):=by omega
    have HM:Hid (MkR w g n (λi=>.int .i64 (A i)) (λi=>.int .i64 (k+(i:Int))) (i+1) (wr.setCell ⟨g,i,none⟩ (.int .i64 (k+(i:Int))))):=hM;clear hM hI HI hin;generalize A i=y at c;have hxk:∃x:Int,x=k+(i:Int):=⟨_,rfl⟩
    obtain⟨x,hxk⟩:=hxk;have HX:Hid (x=k+(i:Int)):=hxk;rw[<-hxk]at hx hx0 HM⊢;clear hxk;go_wp2_with fail;go_roundw
    case rel=>exact⟨i+1,by go_num,by rw[show x=k+(i:Int)from HX];exact congrArg (Value.int .i64) (by omega),by omega,HM⟩
    case measure=>simp[intOf];omega
   ·obtain rfl:i=n:=by omega
    have HE:Hid (MkR w g i (λi=>.int .i64 (A i)) (λi=>.int .i64 (k+(i:Int))) i wr):=hI;clear HI hI;go_wp2_with fail;go_ret;exact⟨rfl,HE.kq.mono (λj e=>⟨HN0,e⟩),⟨⟨_,ca,rfl,λ_=>⟨rfl,hca⟩⟩,λj hj=>HE.don j hj,λ_ j=>HE.fz j⟩⟩
theorem lt_of_cell'{p:Addr}(h:w.cell? p=some v):p.block<w.heap.size:=by
 rcases Nat.lt_or_ge p.block w.heap.size with hl|hl
 ·exact hl
 ·exfalso;simp[World.cell?,Array.getElem?_eq_none hl]at h
theorem add_block(a:Addr)(i:Nat):(a.add i).block=a.block:=by
 unfold Addr.add;split<;>rfl
theorem made_cell(w:World)(z:Value)(e n:Nat)(hz:z.cells=#[z])(j:Nat)(hj:j<n):(w.alloc (.cells (madeCells z.cells (n*1)) e)).cell? ⟨w.heap.size,j,none⟩=some z:=by
 have hs:j<(madeCells z.cells (n*1)).size:=by rw[size_madeCells];omega
 have hg:(madeCells z.cells n)[j]? =some z:=by simp[madeCells,hz,hj,Nat.mod_one]
 simpa using hg
theorem made_fz(w:World)(c:Array Value)(e j:Nat):(w.alloc (.cells c e)).frozen? ⟨w.heap.size,j,none⟩=false:=by
 simp
