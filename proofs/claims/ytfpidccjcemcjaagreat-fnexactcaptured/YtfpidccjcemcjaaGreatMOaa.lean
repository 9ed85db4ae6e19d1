import Derived.Test.YtfpidccjcemcjaaGreatMZsq
import Derived.Test.YtfpidccjcemcjaaGreatMNbe
set_option maxRecDepth 100000
set_option maxHeartbeats 8000000
namespace Go.Proofs.YtfpidccjcemcjaaGreat.Fo
open Go.ChangeShapes Go.WideShapes Go.ChangeAt Go.RowKit
set_option linter.unusedVariables false
set_option maxRecDepth 100000
theorem Blk.lt {W:World} {g:Nat} {t:TypeId} {m:Nat} (h:Blk W g t m):g < W.heap.size:=by
 obtain ⟨c,h1,_⟩:=h
 exact (Array.getElem?_eq_some_iff.1 h1).1
theorem Blk.keep {W W':World} {b g:Nat} {t:TypeId} {m:Nat} (h:Blk W g t m) (hb:b≤g) (k:Kb b W W'):Blk W' g t m:=h.of_eq (k.block g hb h.lt)
theorem Blk.fz {W:World} {g:Nat} {t:TypeId} {m:Nat} (h:Blk W g t m) (j:Nat):W.frozen? ⟨g,j,none⟩=false:=by
 obtain ⟨c,h1,_⟩:=h
 exact frozen_of h1
theorem Blk.ex {W:World} {g:Nat} {t:TypeId} {m j:Nat} (h:Blk W g t m) (hj:j < m):∃ u,W.cell? ⟨g,j,none⟩=some u:=by
 obtain ⟨c,h1,h2⟩:=h
 exact ⟨_,cell_of h1 (getElem?_pos c j (by omega))⟩
theorem Blk.ne {W:World} {g g':Nat} {t t':TypeId} {m m':Nat} (h:Blk W g t m) (h':Blk W g' t' m') (ht:t ≠ t'):g ≠ g':=by
 rintro rfl
 obtain ⟨c,h1,_⟩:=h
 obtain ⟨c',h2,_⟩:=h'
 rw [h1] at h2
 injection h2 with h2
 injection h2 with _ h2
 exact ht h2
theorem blk_made (w:World) (c:Array Value) (t:TypeId) (m:Nat) (h:m≤c.size):Blk (w.alloc (.cells c t)) w.heap.size t m:=⟨c,alloc_new _ _ _,h⟩
def RowBT (t:TypeId) (b:Nat) (W:World) (v:Value) (n:Nat) (A:Nat→Value):Prop:=∃ pa cap,v = .slice pa n cap∧RowB b W (.slice pa n cap) n A∧∃ g,pa=some ⟨g,0,none⟩∧cap=n∧b≤g∧Blk W g t n
theorem RowBT.keep {t:TypeId} {b:Nat} {W W':World} {v:Value} {n:Nat} {A:Nat→Value} (h:RowBT t b W v n A) (k:Kb b W W'):RowBT t b W' v n A:=by
 obtain ⟨pa,cap,h1,h2,g,h3,h4,h5,h6⟩:=h
 exact ⟨pa,cap,h1,h2.keep k,g,h3,h4,h5,h6.keep h5 k⟩
theorem RowBT.mono {t:TypeId} {b c:Nat} {W:World} {v:Value} {n:Nat} {A:Nat→Value} (h:RowBT t b W v n A) (hc:c≤b):RowBT t c W v n A:=by
 obtain ⟨pa,cap,h1,h2,g,h3,h4,h5,h6⟩:=h
 exact ⟨pa,cap,h1,h2.mono hc,g,h3,h4,Nat.le_trans hc h5,h6⟩
theorem RowBT.row {t:TypeId} {b:Nat} {W:World} {v:Value} {n:Nat} {A:Nat→Value} (h:RowBT t b W v n A):RowB b W v n A:=by
 obtain ⟨pa,cap,h1,h2,_⟩:=h
 rw [h1];exact h2
def RowUT (b:Nat) (W:World) (v:Value) (n:Nat) (U:Nat→Bool × Int):Prop:=∃ pa cap,v = .slice pa n cap∧RowU b W (.slice pa n cap) n U∧∃ g,pa=some ⟨g,0,none⟩∧cap=n∧b≤g∧Blk W g 61 (n*2)
theorem RowUT.keep {b:Nat} {W W':World} {v:Value} {n:Nat} {U:Nat→Bool × Int} (h:RowUT b W v n U) (k:Kb b W W'):RowUT b W' v n U:=by
 obtain ⟨pa,cap,h1,h2,g,h3,h4,h5,h6⟩:=h
 exact ⟨pa,cap,h1,h2.keep k,g,h3,h4,h5,h6.keep h5 k⟩
theorem RowUT.mono {b c:Nat} {W:World} {v:Value} {n:Nat} {U:Nat→Bool × Int} (h:RowUT b W v n U) (hc:c≤b):RowUT c W v n U:=by
 obtain ⟨pa,cap,h1,h2,g,h3,h4,h5,h6⟩:=h
 exact ⟨pa,cap,h1,h2.mono hc,g,h3,h4,Nat.le_trans hc h5,h6⟩
theorem RowUT.row {b:Nat} {W:World} {v:Value} {n:Nat} {U:Nat→Bool × Int} (h:RowUT b W v n U):RowU b W v n U:=by
 obtain ⟨pa,cap,h1,h2,_⟩:=h
 rw [h1];exact h2
def RowNT (b:Nat) (W:World) (v:Value) (n:Nat) (N:Nat→Nd):Prop:=∃ pa cap,v = .slice pa n cap∧∃ g,pa=some ⟨g,0,none⟩∧cap=n∧b≤g∧Blk W g 59 (n*8)∧∀ j,j < n→∃ vr vk,CelN W ⟨g,j*8,none⟩ (N j).a vr vk∧RowBT 3 b W vr (N j).p (fun t=>.int .i64 ((N j).R t))∧RowBT 3 b W vk (N j).q (fun t=>.int .i64 ((N j).K t))
theorem RowNT.keep {b:Nat} {W W':World} {v:Value} {n:Nat} {N:Nat→Nd} (h:RowNT b W v n N) (k:Kb b W W'):RowNT b W' v n N:=by
 obtain ⟨pa,cap,h1,g,h3,h4,h5,h6,h7⟩:=h
 refine ⟨pa,cap,h1,g,h3,h4,h5,h6.keep h5 k,fun j hj=>?_⟩
 obtain ⟨vr,vk,c,r1,r2⟩:=h7 j hj
 exact ⟨vr,vk,c.keep h5 k,r1.keep k,r2.keep k⟩
theorem RowNT.mono {b c:Nat} {W:World} {v:Value} {n:Nat} {N:Nat→Nd} (h:RowNT b W v n N) (hc:c≤b):RowNT c W v n N:=by
 obtain ⟨pa,cap,h1,g,h3,h4,h5,h6,h7⟩:=h
 refine ⟨pa,cap,h1,g,h3,h4,Nat.le_trans hc h5,h6,fun j hj=>?_⟩
 obtain ⟨vr,vk,c,r1,r2⟩:=h7 j hj
 exact ⟨vr,vk,c,r1.mono hc,r2.mono hc⟩
theorem RowNT.row {b:Nat} {W:World} {v:Value} {n:Nat} {N:Nat→Nd} (h:RowNT b W v n N):RowN b W v n N:=by
 obtain ⟨pa,cap,h1,g,h3,h4,h5,h6,h7⟩:=h
 refine ⟨pa,cap,h1,fun _=>⟨_,h3,by omega,h5,fun j hj=>?_⟩⟩
 obtain ⟨vr,vk,c,r1,r2⟩:=h7 j hj
 rw [addr0]
 exact ⟨vr,vk,c,r1.row,r2.row⟩
def RowFT (b:Nat) (W:World) (v:Value) (n:Nat) (F:Nat→Fd):Prop:=∃ pa cap,v = .slice pa n cap∧∃ g,pa=some ⟨g,0,none⟩∧cap=n∧b≤g∧Blk W g 48 (n*7)∧∀ i,i < n→∃ vv vu vn,CelF W ⟨g,i*7,none⟩ (F i) vv vu vn∧RowBT 9 b W vv (F i).p (fun t=>.string ((F i).V t))∧RowUT b W vu (F i).u (F i).U∧RowNT b W vn (F i).n (F i).N
theorem RowFT.keep {b:Nat} {W W':World} {v:Value} {n:Nat} {F:Nat→Fd} (h:RowFT b W v n F) (k:Kb b W W'):RowFT b W' v n F:=by
 obtain ⟨pa,cap,h1,g,h3,h4,h5,h6,h7⟩:=h
 refine ⟨pa,cap,h1,g,h3,h4,h5,h6.keep h5 k,fun j hj=>?_⟩
 obtain ⟨vv,vu,vn,c,r1,r2,r3⟩:=h7 j hj
 exact ⟨vv,vu,vn,c.keep h5 k,r1.keep k,r2.keep k,r3.keep k⟩
theorem RowFT.mono {b c:Nat} {W:World} {v:Value} {n:Nat} {F:Nat→Fd} (h:RowFT b W v n F) (hc:c≤b):RowFT c W v n F:=by
 obtain ⟨pa,cap,h1,g,h3,h4,h5,h6,h7⟩:=h
 refine ⟨pa,cap,h1,g,h3,h4,Nat.le_trans hc h5,h6,fun j hj=>?_⟩
 obtain ⟨vv,vu,vn,c,r1,r2,r3⟩:=h7 j hj
 exact ⟨vv,vu,vn,c,r1.mono hc,r2.mono hc,r3.mono hc⟩
theorem RowFT.row {b:Nat} {W:World} {v:Value} {n:Nat} {F:Nat→Fd} (h:RowFT b W v n F):RowF b W v n F:=by
 obtain ⟨pa,cap,h1,g,h3,h4,h5,h6,h7⟩:=h
 refine ⟨pa,cap,h1,fun _=>⟨_,h3,by omega,h5,fun j hj=>?_⟩⟩
 obtain ⟨vv,vu,vn,c,r1,r2,r3⟩:=h7 j hj
 rw [addr0]
 exact ⟨vv,vu,vn,c,r1.row,r2.row,r3.row⟩
theorem to_intsT {va : Value} {n : Nat} {A : Nat → Int} (w : World) (ha : RowV w va n (fun i => .int .i64 (A i))) (hn : n ≤ 1048576) :
  Calls Tryz.prog 78 #[va] w fun e w'=>∃ v,e = .returned v∧RowBT 3 w.heap.size w' v n (fun i=>.int .i64 (A i))∧Kb 0 w w':=by
 obtain ⟨pa,ca,rfl,ha2⟩:=ha
 have hnI:(n:Int)≤1048576:=by omega
 have hmk:=run_make (P:=Tryz.prog) w 57 3 Tryz.t3 (.int .i64 0) Tryz.underlying57 (by kernel_rfl) (by kernel_rfl) .i64 .i64 (n:Int) (n:Int) (by omega) (Int.le_refl _) (by show (8:Int)*(n:Int)≤_;omega) (by omega)
 rw [Int.toNat_natCast] at hmk
 obtain ⟨w1,hw1⟩:∃ w1,w1=w.alloc (.cells (madeCells (.int .i64 0:Value).cells (n*Tryz.t3.size)) 3):=⟨_,rfl⟩
 rw [← hw1] at hmk
 have c1:∀ j,j < n→w1.cell? ⟨w.heap.size,j,none⟩=some (.int .i64 0):=by intro j hj;rw [hw1];exact made_cell w _ 3 n rfl j hj
 have f1:∀ j,w1.frozen? ⟨w.heap.size,j,none⟩=false:=by intro j;rw [hw1];exact made_fz _ _ _ _
 have b1:Below w.heap.size w w1:=by rw [hw1];exact (Below.refl _ w).alloc (Nat.le_refl _) _
 have l1:w.heap.size < w1.heap.size:=by rw [hw1];simp
 have hbk:Blk w1 w.heap.size 3 n:=by rw [hw1];exact blk_made _ _ _ _ (by rw [size_madeCells];exact Nat.le_of_eq (Nat.mul_one n).symm)
 have HBK:Hid (Blk w1 w.heap.size 3 n):=hbk
 have HI0:Hid (MkR w1 w.heap.size n (fun _=>.int .i64 0) (fun i=>.int .i64 (A i)) 0 w1):=(⟨Kq.refl _ _,fun i hi=>by omega,fun i _ hi=>c1 i hi,f1⟩:MkR w1 w.heap.size n _ _ 0 w1)
 have HA:Hid ((0 < n→∃ a:Addr,pa=some a∧n≤ca∧∀ i,i < n→w.cell? (a.add i)=some (.int .i64 (A i)))∧Below w.heap.size w w1∧w.heap.size < w1.heap.size):=(⟨ha2,b1,l1⟩:_∧_∧_)
 clear ha2 b1 c1 f1 hw1 hn l1 hbk
 obtain ⟨G,hG⟩:∃ G,G=w.heap.size:=⟨_,rfl⟩
 rw [← hG] at hmk HI0 HBK ⊢
 have HG:Hid (G=w.heap.size):=hG
 clear hG
 go_enter Tryz.func78,Tryz.ntmps78
 go_wp2_with fail
 go_loopw [4] (fun s4 wr=>∃ i:Nat,s4 = .int .i64 (i:Int)∧i≤n∧Hid (MkR w1 G n (fun _=>.int .i64 0) (fun i=>.int .i64 (A i)) i wr∧Blk wr G 3 n)) (fun s4 _=>n - (intOf s4).toNat)
 case atStart=>exact ⟨0,rfl,Nat.zero_le _,(⟨HI0,HBK⟩:_∧_)⟩
 case round =>
  clear HI0 hmk HBK
  obtain ⟨i,rfl,hin,HI⟩:=hrel
  obtain ⟨hI,hbw⟩:=(uh HI)
  have hA:=(uh HA)
  rcases Nat.lt_or_ge i n with hi | hi
  ·have hiI:(i:Int) < (n:Int):=by omega
   obtain ⟨a,rfl,hca,hra⟩:=hA.1 (by omega)
   have q0:=hra i hi
   have hl:=lt_of_cell' q0
   have qa:wr.cell? (a.add i)=some (.int .i64 (A i)):=by
    rw [World.cell?_of_block (w:=w1) (hI.kq.block _ (Nat.lt_of_lt_of_le hl hA.2.1.size) (by rw [show G=w.heap.size from HG];omega)),hA.2.1.cell hl]
    exact q0
   obtain ⟨c,f,hM⟩:=hI.step hi (Below.refl _ _)
   have HM:Hid (MkR w1 G n (fun _=>.int .i64 0) (fun i=>.int .i64 (A i)) (i+1) (wr.setCell ⟨G,i,none⟩ (.int .i64 (A i)))∧Blk (wr.setCell ⟨G,i,none⟩ (.int .i64 (A i))) G 3 n):=(⟨hM,hbw.set _ _⟩:_∧_)
   clear hM hI HI hin hA HA hra q0 hl HG hbw
   generalize A i=y at qa HM
   go_wp2_with fail
   go_roundw
   case rel=>exact ⟨i+1,by go_num,by omega,HM⟩
   case measure=>simp [intOf];omega
  ·obtain rfl:i=n:=by omega
   have HE:Hid (MkR w1 G i (fun _=>.int .i64 0) (fun i=>.int .i64 (A i)) i wr∧Below w.heap.size w w1∧G=w.heap.size∧w.heap.size < w1.heap.size∧Blk wr G 3 i):=(⟨hI,hA.2.1,HG,hA.2.2,hbw⟩:_∧_)
   clear HI hI hA HA HG hbw
   go_wp2_with fail
   go_ret
   obtain ⟨hE,hB,hG,hL,hbw⟩:=(uh HE)
   subst hG
   refine ⟨_,rfl,⟨_,_,rfl,⟨_,_,rfl,fun _=>⟨⟨w.heap.size,0,none⟩,rfl,Nat.le_refl _,Nat.le_refl _,fun j hj=>by rw [addr0];exact hE.don j hj⟩⟩,_,rfl,rfl,Nat.le_refl _,hbw⟩,?_⟩
   exact ⟨hE.kq.os.trans hB.os,hE.kq.output.trans hB.output,Nat.le_trans hB.size hE.kq.size,fun k _ hk=>(hE.kq.block k (Nat.lt_of_lt_of_le hk hB.size) (by omega)).trans (hB.block k hk)⟩
theorem to_strsT {va : Value} {n : Nat} {A : Nat → ByteArray} (w : World) (ha : RowV w va n (fun i => .string (A i))) (hn : n ≤ 1048576) :
  Calls Tryz.prog 43 #[va] w fun e w'=>∃ v,e = .returned v∧RowBT 9 w.heap.size w' v n (fun i=>.string (A i))∧Kb 0 w w':=by
 obtain ⟨pa,ca,rfl,ha2⟩:=ha
 have hnI:(n:Int)≤1048576:=by omega
 have hmk:=run_make (P:=Tryz.prog) w 44 9 Tryz.t9 (.string ⟨#[]⟩) Tryz.underlying44 (by kernel_rfl) (by kernel_rfl) .i64 .i64 (n:Int) (n:Int) (by omega) (Int.le_refl _) (by show (16:Int)*(n:Int)≤_;omega) (by omega)
 rw [Int.toNat_natCast] at hmk
 obtain ⟨w1,hw1⟩:∃ w1,w1=w.alloc (.cells (madeCells (.string ⟨#[]⟩:Value).cells (n*Tryz.t9.size)) 9):=⟨_,rfl⟩
 rw [← hw1] at hmk
 have c1:∀ j,j < n→w1.cell? ⟨w.heap.size,j,none⟩=some (.string ⟨#[]⟩):=by intro j hj;rw [hw1];exact made_cell w _ 9 n rfl j hj
 have f1:∀ j,w1.frozen? ⟨w.heap.size,j,none⟩=false:=by intro j;rw [hw1];exact made_fz _ _ _ _
 have b1:Below w.heap.size w w1:=by rw [hw1];exact (Below.refl _ w).alloc (Nat.le_refl _) _
 have l1:w.heap.size < w1.heap.size:=by rw [hw1];simp
 have hbk:Blk w1 w.heap.size 9 n:=by rw [hw1];exact blk_made _ _ _ _ (by rw [size_madeCells];exact Nat.le_of_eq (Nat.mul_one n).symm)
 have HBK:Hid (Blk w1 w.heap.size 9 n):=hbk
 have HI0:Hid (MkR w1 w.heap.size n (fun _=>.string ⟨#[]⟩) (fun i=>.string (A i)) 0 w1):=(⟨Kq.refl _ _,fun i hi=>by omega,fun i _ hi=>c1 i hi,f1⟩:MkR w1 w.heap.size n _ _ 0 w1)
 have HA:Hid ((0 < n→∃ a:Addr,pa=some a∧n≤ca∧∀ i,i < n→w.cell? (a.add i)=some (.string (A i)))∧Below w.heap.size w w1∧w.heap.size < w1.heap.size):=(⟨ha2,b1,l1⟩:_∧_∧_)
 clear ha2 b1 c1 f1 hw1 hn l1 hbk
 obtain ⟨G,hG⟩:∃ G,G=w.heap.size:=⟨_,rfl⟩
 rw [← hG] at hmk HI0 HBK ⊢
 have HG:Hid (G=w.heap.size):=hG
 clear hG
 go_enter Tryz.func43,Tryz.ntmps43
 go_wp2_with fail
 go_loopw [4] (fun s4 wr=>∃ i:Nat,s4 = .int .i64 (i:Int)∧i≤n∧Hid (MkR w1 G n (fun _=>.string ⟨#[]⟩) (fun i=>.string (A i)) i wr∧Blk wr G 9 n)) (fun s4 _=>n - (intOf s4).toNat)
 case atStart=>exact ⟨0,rfl,Nat.zero_le _,(⟨HI0,HBK⟩:_∧_)⟩
 case round =>
  clear HI0 hmk HBK
  obtain ⟨i,rfl,hin,HI⟩:=hrel
  obtain ⟨hI,hbw⟩:=(uh HI)
  have hA:=(uh HA)
  rcases Nat.lt_or_ge i n with hi | hi
  ·have hiI:(i:Int) < (n:Int):=by omega
   obtain ⟨a,rfl,hca,hra⟩:=hA.1 (by omega)
   have q0:=hra i hi
   have hl:=lt_of_cell' q0
   have qa:wr.cell? (a.add i)=some (.string (A i)):=by
    rw [World.cell?_of_block (w:=w1) (hI.kq.block _ (Nat.lt_of_lt_of_le hl hA.2.1.size) (by rw [show G=w.heap.size from HG];omega)),hA.2.1.cell hl]
    exact q0
   obtain ⟨c,f,hM⟩:=hI.step hi (Below.refl _ _)
   have HM:Hid (MkR w1 G n (fun _=>.string ⟨#[]⟩) (fun i=>.string (A i)) (i+1) (wr.setCell ⟨G,i,none⟩ (.string (A i)))∧Blk (wr.setCell ⟨G,i,none⟩ (.string (A i))) G 9 n):=(⟨hM,hbw.set _ _⟩:_∧_)
   clear hM hI HI hin hA HA hra q0 hl HG hbw
   generalize A i=y at qa HM
   go_wp2_with fail
   go_roundw
   case rel=>exact ⟨i+1,by go_num,by omega,HM⟩
   case measure=>simp [intOf];omega
  ·obtain rfl:i=n:=by omega
   have HE:Hid (MkR w1 G i (fun _=>.string ⟨#[]⟩) (fun i=>.string (A i)) i wr∧Below w.heap.size w w1∧G=w.heap.size∧w.heap.size < w1.heap.size∧Blk wr G 9 i):=(⟨hI,hA.2.1,HG,hA.2.2,hbw⟩:_∧_)
   clear HI hI hA HA HG hbw
   go_wp2_with fail
   go_ret
   obtain ⟨hE,hB,hG,hL,hbw⟩:=(uh HE)
   subst hG
   refine ⟨_,rfl,⟨_,_,rfl,⟨_,_,rfl,fun _=>⟨⟨w.heap.size,0,none⟩,rfl,Nat.le_refl _,Nat.le_refl _,fun j hj=>by rw [addr0];exact hE.don j hj⟩⟩,_,rfl,rfl,Nat.le_refl _,hbw⟩,?_⟩
   exact ⟨hE.kq.os.trans hB.os,hE.kq.output.trans hB.output,Nat.le_trans hB.size hE.kq.size,fun k _ hk=>(hE.kq.block k (Nat.lt_of_lt_of_le hk hB.size) (by omega)).trans (hB.block k hk)⟩
theorem to_upsT {va : Value} {n : Nat} {U : Nat → Bool × Int} (w : World) (ha : RowU 0 w va n U) (hn : n ≤ 1048576)  :
  Calls Tryz.prog 44 #[va] w fun e w'=>∃ v,e = .returned v∧RowUT w.heap.size w' v n U∧Kb 0 w w':=by
 obtain ⟨pa,ca,rfl,ha2⟩:=ha
 have hnI:(n:Int)≤1048576:=by omega
 have hmk:=run_make (P:=Tryz.prog) w 45 61 Tryz.t61 (.agg #[.bool false,.int .i64 0]) Tryz.underlying45 (by kernel_rfl) (by kernel_rfl) .i64 .i64 (n:Int) (n:Int) (by omega) (Int.le_refl _) (by show (16:Int)*(n:Int)≤_;omega) (by omega)
 rw [Int.toNat_natCast] at hmk
 obtain ⟨w1,hw1⟩:∃ w1,w1=w.alloc (.cells (madeCells (.agg #[.bool false,.int .i64 0]:Value).cells (n*2)) 61):=⟨_,rfl⟩
 have hmk2:=hmk
 rw [show n*Tryz.t61.size=n*2 from rfl,← hw1] at hmk2
 clear hmk
 have hk1:Kb 0 w w1:=by rw [hw1];exact kb_alloc _ _ _
 obtain ⟨G,hG⟩:∃ G,G=w.heap.size:=⟨_,rfl⟩
 have HI0:Hid (∃ E:Nat→List Value,Mk 2 w1 G n E 0 w1∧∀ j,j < 0→E j = [.bool (U j).1,.int .i64 (U j).2]):=by
  refine ⟨fun _=>[],?_,fun j hj=>by omega⟩
  rw [hG,hw1]
  exact mk_zero w _ 2 _ n _ rfl
 have HB1:Hid (Blk w1 G 61 (n*2)):=by
  rw [hG,hw1]
  exact blk_made _ _ _ _ (by rw [size_madeCells];exact Nat.le_refl _)
 have HA:Hid ((0 < n→∃ a:Addr,pa=some a∧n≤ca∧0≤a.block∧∀ i,i < n→UpC 0 w (a.add (i*2)) (U i))∧Kb 0 w w1∧G=w.heap.size):=(⟨ha2,hk1,hG⟩:_∧_)
 rw [← hG] at hmk2
 clear ha2 hk1 hw1 hn hG
 go_enter Tryz.func44,Tryz.ntmps44
 go_wp2_with fail
 go_loopw [4] (fun s4 wr=>∃ i:Nat,s4 = .int .i64 (i:Int)∧i≤n∧Hid (∃ E:Nat→List Value,Mk 2 w1 G n E i wr∧∀ j,j < i→E j = [.bool (U j).1,.int .i64 (U j).2])) (fun s4 _=>n - (intOf s4).toNat)
 case atStart=>exact ⟨0,rfl,Nat.zero_le _,HI0⟩
 case round =>
  clear HI0 hmk2
  obtain ⟨i,rfl,hin,HI⟩:=hrel
  obtain ⟨E,hM,hR⟩:=(uh HI)
  have hA:=(uh HA)
  have hBW:Kb 0 w wr:=by
   have hG:=hA.2.2
   have hA2:=hA.2.1
   exact ⟨hM.os.trans hA2.os,hM.output.trans hA2.output,Nat.le_trans hA2.size hM.size,fun b _ hb=>(hM.block b (Nat.lt_of_lt_of_le hb hA2.size) (by omega)).trans (hA2.block b zq hb)⟩
  rcases Nat.lt_or_ge i n with hi | hi
  ·have hiI:(i:Int) < (n:Int):=by omega
   obtain ⟨a,rfl,hca,_,hra⟩:=hA.1 (by omega)
   obtain ⟨d0,d1⟩:=(hra i hi).keep zq hBW
   have HT:Hid (Calls Tryz.prog 57 #[upv (U i)] wr fun e w'=>e = .returned (upv (U i))∧Kb 0 wr w'):=to_up (U i) wr
   have HS:Hid (∀ w6 ,Kb 0 wr w6→(∀ t,t < 2→∃ u,w6.cell? ⟨G,i*2+t,none⟩=some u)∧(∀ j,w6.frozen? ⟨G,j,none⟩=false)∧∃ E:Nat→List Value,Mk 2 w1 G n E (i+1) (setL w6 G (i*2) [.bool (U i).1,.int .i64 (U i).2])∧∀ j,j < i+1→E j = [.bool (U j).1,.int .i64 (U j).2]):=by
    show ∀ w6 ,_
    intro w6  k6
    have h6:=hM.kb k6
    have hgl:=Nat.lt_of_lt_of_le hM.gl hM.size
    have kl:Kb (G+1) w6 (setL w6 G (i*2) [.bool (U i).1,.int .i64 (U i).2]):=⟨(setL_os _ _ _ _).1,(setL_os _ _ _ _).2,by rw [setL_size];exact Nat.le_refl _,fun k h1 _=>setL_block _ _ (by omega) _ _ _⟩
    refine ⟨h6.rest i (Nat.le_refl _) hi,h6.fz,_,h6.step hi rfl,fun j hj=>?_⟩
    by_cases e:j=i
    ·subst e
     exact if_pos rfl
    ·rw [if_neg e]
     exact hR j (by omega)
   clear hA HA hM hR HI hra hin hBW
   go_wp2_with fail
   refine (uh HT).mono ?_
   rintro e w6 ⟨rfl,k6⟩
   obtain ⟨hc,hf,hT⟩:=(uh HS) w6 k6
   have HTT:Hid (∃ E:Nat→List Value,Mk 2 w1 G n E (i+1) (setL w6 G (i*2) [.bool (U i).1,.int .i64 (U i).2])∧∀ j,j < i+1→E j = [.bool (U j).1,.int .i64 (U j).2]):=hT
   obtain ⟨u0,h0⟩:=hc 0 (by omega)
   obtain ⟨u1,h1⟩:=hc 1 (by omega)
   rw [Nat.add_zero] at h0
   have e0:=hf (i*2)
   have e1:=hf (i*2+1)
   clear hc hf hT HS HT
   skip
   clear k6 d0 d1
   unfold upv
   go_wp2_with fail
   go_roundw
   case rel=>exact ⟨i+1,by go_num,by omega,HTT⟩
   case measure=>simp [intOf];omega
  ·obtain rfl:i=n:=by omega
   have HE:Hid (Mk 2 w1 G i E i wr∧(∀ j,j < i→E j = [.bool (U j).1,.int .i64 (U j).2])∧Kb 0 w wr∧G=w.heap.size):=(⟨hM,hR,hBW,hA.2.2⟩:_∧_∧_∧_)
   clear HI hM hR hA HA hBW
   go_wp2_with fail
   go_ret
   obtain ⟨hM,hR,hB,hG⟩:=(uh HE)
   refine ⟨_,rfl,⟨_,_,rfl,⟨_,_,rfl,fun _=>⟨⟨G,0,none⟩,rfl,Nat.le_refl _,(by show w.heap.size≤G;omega),fun j hj=>?_⟩⟩,G,rfl,rfl,(by omega),hM.bt _ _ HB1⟩,hB⟩
   rw [addr0]
   have hce:=hM.ce j hj
   rw [hR j hj] at hce
   exact CelU.of hce
theorem to_nodeT {a : Nv} {vr vk : Value} {p q : Nat} {R K : Nat → Int} (w : World)
  (g0:∀ W,Kb 0 w W→Calls Tryz.prog 78 #[vr] W fun e w'=>∃ v,e = .returned v∧RowBT 3 W.heap.size w' (v) p (fun i=>.int .i64 (R i))∧Kb 0 W w')
  (g1:∀ W,Kb 0 w W→Calls Tryz.prog 78 #[vk] W fun e w'=>∃ v,e = .returned v∧RowBT 3 W.heap.size w' (v) q (fun i=>.int .i64 (K i))∧Kb 0 W w') :
  Calls Tryz.prog 58 #[ndv a vr vk] w fun e w'=>∃ v0 v1,e = .returned (ndv a v0 v1)∧RowBT 3 w.heap.size w' (v0) p (fun i=>.int .i64 (R i))∧RowBT 3 w.heap.size w' (v1) q (fun i=>.int .i64 (K i))∧Kb 0 w w':=by
 have G0:Hid (∀ W,Kb 0 w W→Calls Tryz.prog 78 #[vr] W fun e w'=>∃ v,e = .returned v∧RowBT 3 W.heap.size w' (v) p (fun i=>.int .i64 (R i))∧Kb 0 W w'):=g0
 have G1:Hid (∀ W,Kb 0 w W→Calls Tryz.prog 78 #[vk] W fun e w'=>∃ v,e = .returned v∧RowBT 3 W.heap.size w' (v) q (fun i=>.int .i64 (K i))∧Kb 0 W w'):=g1
 clear g0 g1
 unfold ndv
 have hst:=hst0
 go_enter Tryz.func58,Tryz.ntmps58
 go_wp2_with fail
 obtain ⟨w3,hw3⟩:∃ w3,w3=((w.alloc (.cells #[.int .i64 a.k,.int .i64 a.l,.int .i64 a.o,.int .i64 a.m,.float .f64 a.g,.string a.x,vr,vk] 89)).alloc (.cells #[.int .i64 0,.int .i64 0,.int .i64 0,.int .i64 0,.float .f64 0,.string ⟨#[]⟩,.slice none 0 0,.slice none 0 0] 59)).alloc (.cells #[.int .i64 a.k,.int .i64 a.l,.int .i64 a.o,.int .i64 a.m,.float .f64 a.g,.string a.x,.slice none 0 0,.slice none 0 0] 59):=⟨_,rfl⟩
 rw [← hw3]
 obtain ⟨b0,b1,b2,z3,k3⟩:=three_new w _ _ _ _ _ _ w3 hw3
 clear hw3
 refine ((show ∀ W,Kb 0 w W→Calls Tryz.prog 78 #[vr] W fun e w'=>∃ v,e = .returned v∧RowBT 3 W.heap.size w' (v) p (fun i=>.int .i64 (R i))∧Kb 0 W w' from G0) w3 k3).mono ?_
 rintro e x0 ⟨v0,rfl,r0,q0⟩
 clear G0
 have zq0:=q0.size
 have zz0:w.heap.size+3≤w3.heap.size:=by omega
 have b0x0:x0.heap[w.heap.size]? = some (.cells #[.int .i64 a.k,.int .i64 a.l,.int .i64 a.o,.int .i64 a.m,.float .f64 a.g,.string a.x,vr,vk] 89 (0,0)):=(q0.block _ zq (by omega)).trans b0
 have b1x0:x0.heap[w.heap.size+1]? = some (.cells #[.int .i64 0,.int .i64 0,.int .i64 0,.int .i64 0,.float .f64 0,.string ⟨#[]⟩,.slice none 0 0,.slice none 0 0] 59 (0,0)):=(q0.block _ zq (by omega)).trans b1
 have b2x0:x0.heap[w.heap.size+1+1]? = some (.cells #[.int .i64 a.k,.int .i64 a.l,.int .i64 a.o,.int .i64 a.m,.float .f64 a.g,.string a.x,.slice none 0 0,.slice none 0 0] 59 (0,0)):=(q0.block _ zq (by omega)).trans b2
 clear b0 b1 b2
 obtain ⟨p0,l0,rfl,_⟩:=id r0
 have o0:x0.cell? ⟨w.heap.size+1+1,6,none⟩=some (.slice none 0 0):=cell_of b2x0 rfl
 have f0:x0.frozen? ⟨w.heap.size+1+1,6,none⟩=false:=frozen_of b2x0
 have n0:x0.cell? ⟨w.heap.size,7,none⟩=some (vk):=cell_of b0x0 rfl
 obtain ⟨y0,hy0⟩:∃ W,W=x0.setCell ⟨w.heap.size+1+1,6,none⟩ (.slice p0 p l0):=⟨_,rfl⟩
 have c0:y0.heap[w.heap.size]? = some (.cells #[.int .i64 a.k,.int .i64 a.l,.int .i64 a.o,.int .i64 a.m,.float .f64 a.g,.string a.x,vr,vk] 89 (0,0)):=by rw [hy0,Below.heap_setCell _ _ _ _ (show w.heap.size ≠ w.heap.size+1+1 by omega)];exact b0x0
 have c1:y0.heap[w.heap.size+1]? = some (.cells #[.int .i64 0,.int .i64 0,.int .i64 0,.int .i64 0,.float .f64 0,.string ⟨#[]⟩,.slice none 0 0,.slice none 0 0] 59 (0,0)):=by rw [hy0,Below.heap_setCell _ _ _ _ (show w.heap.size+1 ≠ w.heap.size+1+1 by omega)];exact b1x0
 have c2:y0.heap[w.heap.size+1+1]? = some (.cells #[.int .i64 a.k,.int .i64 a.l,.int .i64 a.o,.int .i64 a.m,.float .f64 a.g,.string a.x,.slice p0 p l0,.slice none 0 0] 59 (0,0)):=by rw [hy0];exact set_known _ b2x0
 have ky0:Kb 0 w y0:=by rw [hy0];exact (k3.trans q0).setCell _ (Or.inr (by show w.heap.size≤w.heap.size+1+1;omega)) _
 have qy0:Kb (w.heap.size+3) x0 y0:=by rw [hy0];exact (Kb.refl _ _).setCell _ (Or.inl (by show w.heap.size+1+1 < w.heap.size+3;omega)) _
 have zy0:y0.heap.size=x0.heap.size:=by rw [hy0];simp
 have HX0:Hid ((y0.heap[w.heap.size]? = some (.cells #[.int .i64 a.k,.int .i64 a.l,.int .i64 a.o,.int .i64 a.m,.float .f64 a.g,.string a.x,vr,vk] 89 (0,0))∧y0.heap[w.heap.size+1]? = some (.cells #[.int .i64 0,.int .i64 0,.int .i64 0,.int .i64 0,.float .f64 0,.string ⟨#[]⟩,.slice none 0 0,.slice none 0 0] 59 (0,0))∧y0.heap[w.heap.size+1+1]? = some (.cells #[.int .i64 a.k,.int .i64 a.l,.int .i64 a.o,.int .i64 a.m,.float .f64 a.g,.string a.x,.slice p0 p l0,.slice none 0 0] 59 (0,0)))∧Kb 0 w y0∧Kb (w.heap.size+3) x0 y0∧y0.heap.size=x0.heap.size∧RowBT 3 w3.heap.size x0 (.slice p0 p l0) p (fun i=>.int .i64 (R i))∧w.heap.size+3≤w3.heap.size∧w3.heap.size≤x0.heap.size):=(⟨⟨c0,c1,c2⟩,ky0,qy0,zy0,r0,(by omega:w.heap.size+3≤w3.heap.size),zq0⟩:_∧_)
 have HW0:Hid (y0=x0.setCell ⟨w.heap.size+1+1,6,none⟩ (.slice p0 p l0)):=hy0
 clear b0x0 b1x0 b2x0 c0 c1 c2 ky0 qy0 zy0 r0 q0 zq0 hy0 zz0 z3 k3
 go_wp2_with fail
 rw [← (uh HW0)]
 clear HW0 o0 f0 n0
 obtain ⟨⟨b0,b1,b2⟩,ky0,qy0,zy0,r0,zu0,zv0⟩:=(uh HX0)
 clear HX0
 have zz1:w.heap.size+3≤y0.heap.size:=by omega
 have s0:=(r0.mono (show w.heap.size+3≤w3.heap.size from zu0)).keep qy0
 clear r0 qy0
 refine ((show ∀ W,Kb 0 w W→Calls Tryz.prog 78 #[vk] W fun e w'=>∃ v,e = .returned v∧RowBT 3 W.heap.size w' (v) q (fun i=>.int .i64 (K i))∧Kb 0 W w' from G1) y0 ky0).mono ?_
 rintro e x1 ⟨v1,rfl,r1,q1⟩
 clear G1
 have zq1:=q1.size
 have b0x1:x1.heap[w.heap.size]? = some (.cells #[.int .i64 a.k,.int .i64 a.l,.int .i64 a.o,.int .i64 a.m,.float .f64 a.g,.string a.x,vr,vk] 89 (0,0)):=(q1.block _ zq (by omega)).trans b0
 have b1x1:x1.heap[w.heap.size+1]? = some (.cells #[.int .i64 0,.int .i64 0,.int .i64 0,.int .i64 0,.float .f64 0,.string ⟨#[]⟩,.slice none 0 0,.slice none 0 0] 59 (0,0)):=(q1.block _ zq (by omega)).trans b1
 have b2x1:x1.heap[w.heap.size+1+1]? = some (.cells #[.int .i64 a.k,.int .i64 a.l,.int .i64 a.o,.int .i64 a.m,.float .f64 a.g,.string a.x,.slice p0 p l0,.slice none 0 0] 59 (0,0)):=(q1.block _ zq (by omega)).trans b2
 clear b0 b1 b2
 obtain ⟨p1,l1,rfl,_⟩:=id r1
 replace s0:=s0.keep (q1.mono zq)
 have s1:=r1.mono (show w.heap.size+3≤y0.heap.size by omega)
 have KW:=ky0.trans q1
 have e0:x1.cell? ⟨w.heap.size+1+1,0,none⟩=some (.int .i64 a.k):=cell_of b2x1 rfl
 have e1:x1.cell? ⟨w.heap.size+1+1,1,none⟩=some (.int .i64 a.l):=cell_of b2x1 rfl
 have e2:x1.cell? ⟨w.heap.size+1+1,2,none⟩=some (.int .i64 a.o):=cell_of b2x1 rfl
 have e3:x1.cell? ⟨w.heap.size+1+1,3,none⟩=some (.int .i64 a.m):=cell_of b2x1 rfl
 have e4:x1.cell? ⟨w.heap.size+1+1,4,none⟩=some (.float .f64 a.g):=cell_of b2x1 rfl
 have e5:x1.cell? ⟨w.heap.size+1+1,5,none⟩=some (.string a.x):=cell_of b2x1 rfl
 have e6:x1.cell? ⟨w.heap.size+1+1,6,none⟩=some (.slice p0 p l0):=cell_of b2x1 rfl
 have e7:x1.cell? ⟨w.heap.size+1+1,7,none⟩=some (.slice none 0 0):=cell_of b2x1 rfl
 have fz:x1.frozen? ⟨w.heap.size+1+1,7,none⟩=false:=frozen_of b2x1
 have a0:x1.cell? ⟨w.heap.size+1,0,none⟩=some (.int .i64 0):=cell_of b1x1 rfl
 have a1:x1.cell? ⟨w.heap.size+1,1,none⟩=some (.int .i64 0):=cell_of b1x1 rfl
 have a2:x1.cell? ⟨w.heap.size+1,2,none⟩=some (.int .i64 0):=cell_of b1x1 rfl
 have a3:x1.cell? ⟨w.heap.size+1,3,none⟩=some (.int .i64 0):=cell_of b1x1 rfl
 have a4:x1.cell? ⟨w.heap.size+1,4,none⟩=some (.float .f64 0):=cell_of b1x1 rfl
 have a5:x1.cell? ⟨w.heap.size+1,5,none⟩=some (.string ⟨#[]⟩):=cell_of b1x1 rfl
 have a6:x1.cell? ⟨w.heap.size+1,6,none⟩=some (.slice none 0 0):=cell_of b1x1 rfl
 have a7:x1.cell? ⟨w.heap.size+1,7,none⟩=some (.slice none 0 0):=cell_of b1x1 rfl
 have fy:∀ j,x1.frozen? ⟨w.heap.size+1,j,none⟩=false:=fun j=>frozen_of b1x1
 have HE:Hid (Kb 0 w x1∧RowBT 3 (w.heap.size+3) x1 (.slice p0 p l0) p (fun i=>.int .i64 (R i))∧RowBT 3 (w.heap.size+3) x1 (.slice p1 q l1) q (fun i=>.int .i64 (K i))):=(⟨KW,s0,s1⟩:_∧_)
 clear KW s0 s1 b0x1 b1x1 b2x1 r1 q1 zq1 zz1 ky0 zu0 zv0 zy0
 go_wp2_with fail
 refine bodyPost_ret (by simp [results,Tryz.results58,go_sem,a0,a1,a2,a3,a4,a5,a6,a7];rfl) rfl ?_
 obtain ⟨KW,s0,s1⟩:=(uh HE)
 clear HE
 have hq:=(((((((((Kb.refl (w.heap.size+3) x1).setCell ⟨w.heap.size+1+1,7,none⟩ (Or.inl (show w.heap.size+1+1 < w.heap.size+3 by omega)) (.slice p1 q l1)).setCell ⟨w.heap.size+1,0,none⟩ (Or.inl (show w.heap.size+1 < w.heap.size+3 by omega)) (.int .i64 a.k)).setCell ⟨w.heap.size+1,1,none⟩ (Or.inl (show w.heap.size+1 < w.heap.size+3 by omega)) (.int .i64 a.l)).setCell ⟨w.heap.size+1,2,none⟩ (Or.inl (show w.heap.size+1 < w.heap.size+3 by omega)) (.int .i64 a.o)).setCell ⟨w.heap.size+1,3,none⟩ (Or.inl (show w.heap.size+1 < w.heap.size+3 by omega)) (.int .i64 a.m)).setCell ⟨w.heap.size+1,4,none⟩ (Or.inl (show w.heap.size+1 < w.heap.size+3 by omega)) (.float .f64 a.g)).setCell ⟨w.heap.size+1,5,none⟩ (Or.inl (show w.heap.size+1 < w.heap.size+3 by omega)) (.string a.x)).setCell ⟨w.heap.size+1,6,none⟩ (Or.inl (show w.heap.size+1 < w.heap.size+3 by omega)) (.slice p0 p l0)).setCell ⟨w.heap.size+1,7,none⟩ (Or.inl (show w.heap.size+1 < w.heap.size+3 by omega)) (.slice p1 q l1)
 have hk:=(((((((((KW).setCell ⟨w.heap.size+1+1,7,none⟩ (Or.inr (show w.heap.size≤w.heap.size+1+1 by omega)) (.slice p1 q l1)).setCell ⟨w.heap.size+1,0,none⟩ (Or.inr (show w.heap.size≤w.heap.size+1 by omega)) (.int .i64 a.k)).setCell ⟨w.heap.size+1,1,none⟩ (Or.inr (show w.heap.size≤w.heap.size+1 by omega)) (.int .i64 a.l)).setCell ⟨w.heap.size+1,2,none⟩ (Or.inr (show w.heap.size≤w.heap.size+1 by omega)) (.int .i64 a.o)).setCell ⟨w.heap.size+1,3,none⟩ (Or.inr (show w.heap.size≤w.heap.size+1 by omega)) (.int .i64 a.m)).setCell ⟨w.heap.size+1,4,none⟩ (Or.inr (show w.heap.size≤w.heap.size+1 by omega)) (.float .f64 a.g)).setCell ⟨w.heap.size+1,5,none⟩ (Or.inr (show w.heap.size≤w.heap.size+1 by omega)) (.string a.x)).setCell ⟨w.heap.size+1,6,none⟩ (Or.inr (show w.heap.size≤w.heap.size+1 by omega)) (.slice p0 p l0)).setCell ⟨w.heap.size+1,7,none⟩ (Or.inr (show w.heap.size≤w.heap.size+1 by omega)) (.slice p1 q l1)
 exact ⟨_,_,rfl,(s0.keep hq).mono (by omega),(s1.keep hq).mono (by omega),hk⟩
theorem to_nodesT {va : Value} {n : Nat} {N : Nat → Nd} (w : World) (ha : RowN 0 w va n N) (hn : n ≤ 1048576) (hN : ∀ i, i < n → (N i).p ≤ 1048576 ∧ (N i).q ≤ 1048576) :
  Calls Tryz.prog 45 #[va] w fun e w'=>∃ v,e = .returned v∧RowNT w.heap.size w' v n N∧Kb 0 w w':=by
 obtain ⟨pa,ca,rfl,ha2⟩:=ha
 have hnI:(n:Int)≤1048576:=by omega
 have hmk:=run_make (P:=Tryz.prog) w 46 59 Tryz.t59 (.agg #[.int .i64 0,.int .i64 0,.int .i64 0,.int .i64 0,.float .f64 0,.string ⟨#[]⟩,.slice none 0 0,.slice none 0 0]) Tryz.underlying46 (by kernel_rfl) (by kernel_rfl) .i64 .i64 (n:Int) (n:Int) (by omega) (Int.le_refl _) (by show (104:Int)*(n:Int)≤_;omega) (by omega)
 rw [Int.toNat_natCast] at hmk
 obtain ⟨w1,hw1⟩:∃ w1,w1=w.alloc (.cells (madeCells (.agg #[.int .i64 0,.int .i64 0,.int .i64 0,.int .i64 0,.float .f64 0,.string ⟨#[]⟩,.slice none 0 0,.slice none 0 0]:Value).cells (n*8)) 59):=⟨_,rfl⟩
 have hmk2:=hmk
 rw [show n*Tryz.t59.size=n*8 from rfl,← hw1] at hmk2
 clear hmk
 have hk1:Kb 0 w w1:=by rw [hw1];exact kb_alloc _ _ _
 obtain ⟨G,hG⟩:∃ G,G=w.heap.size:=⟨_,rfl⟩
 have HI0:Hid (∃ E:Nat→List Value,Mk 8 w1 G n E 0 w1∧∀ j,j < 0→∃ vr vk,E j = [.int .i64 (N j).a.k,.int .i64 (N j).a.l,.int .i64 (N j).a.o,.int .i64 (N j).a.m,.float .f64 (N j).a.g,.string (N j).a.x,vr,vk]∧RowBT 3 (G+1) w1 vr (N j).p (fun t=>.int .i64 ((N j).R t))∧RowBT 3 (G+1) w1 vk (N j).q (fun t=>.int .i64 ((N j).K t))):=by
  refine ⟨fun _=>[],?_,fun j hj=>by omega⟩
  rw [hG,hw1]
  exact mk_zero w _ 8 _ n _ rfl
 have HB1:Hid (Blk w1 G 59 (n*8)):=by
  rw [hG,hw1]
  exact blk_made _ _ _ _ (by rw [size_madeCells];exact Nat.le_refl _)
 have HA:Hid ((0 < n→∃ a:Addr,pa=some a∧n≤ca∧0≤a.block∧∀ i,i < n→NodeC 0 w (a.add (i*8)) (N i))∧Kb 0 w w1∧G=w.heap.size∧(∀ i,i < n→(N i).p≤1048576∧(N i).q≤1048576)):=(⟨ha2,hk1,hG,hN⟩:_∧_)
 rw [← hG] at hmk2
 clear ha2 hk1 hw1 hn hG hN
 go_enter Tryz.func45,Tryz.ntmps45
 go_wp2_with fail
 go_loopw [4] (fun s4 wr=>∃ i:Nat,s4 = .int .i64 (i:Int)∧i≤n∧Hid (∃ E:Nat→List Value,Mk 8 w1 G n E i wr∧∀ j,j < i→∃ vr vk,E j = [.int .i64 (N j).a.k,.int .i64 (N j).a.l,.int .i64 (N j).a.o,.int .i64 (N j).a.m,.float .f64 (N j).a.g,.string (N j).a.x,vr,vk]∧RowBT 3 (G+1) wr vr (N j).p (fun t=>.int .i64 ((N j).R t))∧RowBT 3 (G+1) wr vk (N j).q (fun t=>.int .i64 ((N j).K t)))) (fun s4 _=>n - (intOf s4).toNat)
 case atStart=>exact ⟨0,rfl,Nat.zero_le _,HI0⟩
 case round =>
  clear HI0 hmk2
  obtain ⟨i,rfl,hin,HI⟩:=hrel
  obtain ⟨E,hM,hR⟩:=(uh HI)
  have hA:=(uh HA)
  have hBW:Kb 0 w wr:=by
   have hG:=hA.2.2.1
   have hA2:=hA.2.1
   exact ⟨hM.os.trans hA2.os,hM.output.trans hA2.output,Nat.le_trans hA2.size hM.size,fun b _ hb=>(hM.block b (Nat.lt_of_lt_of_le hb hA2.size) (by omega)).trans (hA2.block b zq hb)⟩
  rcases Nat.lt_or_ge i n with hi | hi
  ·have hiI:(i:Int) < (n:Int):=by omega
   obtain ⟨a,rfl,hca,_,hra⟩:=hA.1 (by omega)
   obtain ⟨vr,vk,hcel,hvr,hvk⟩:=(hra i hi).keep zq hBW
   obtain ⟨y1,y2⟩:=hA.2.2.2 i hi
   obtain ⟨d0,d1,d2,d3,d4,d5,d6,d7⟩:=hcel
   have HT:Hid (Calls Tryz.prog 58 #[ndv (N i).a vr vk] wr fun e w'=>∃ v0 v1,e = .returned (ndv (N i).a v0 v1)∧RowBT 3 wr.heap.size w' v0 (N i).p (fun t=>.int .i64 ((N i).R t))∧RowBT 3 wr.heap.size w' v1 (N i).q (fun t=>.int .i64 ((N i).K t))∧Kb 0 wr w'):=to_nodeT wr (fun W k=>to_intsT W (hvr.keep k).row y1) (fun W k=>to_intsT W (hvk.keep k).row y2)
   have HS:Hid (∀ w6 (v0 v1:Value),Kb 0 wr w6→RowBT 3 wr.heap.size w6 v0 (N i).p (fun t=>.int .i64 ((N i).R t))→RowBT 3 wr.heap.size w6 v1 (N i).q (fun t=>.int .i64 ((N i).K t))→(∀ t,t < 8→∃ u,w6.cell? ⟨G,i*8+t,none⟩=some u)∧(∀ j,w6.frozen? ⟨G,j,none⟩=false)∧∃ E:Nat→List Value,Mk 8 w1 G n E (i+1) (setL w6 G (i*8) [.int .i64 (N i).a.k,.int .i64 (N i).a.l,.int .i64 (N i).a.o,.int .i64 (N i).a.m,.float .f64 (N i).a.g,.string (N i).a.x,v0,v1])∧∀ j,j < i+1→∃ vr vk,E j = [.int .i64 (N j).a.k,.int .i64 (N j).a.l,.int .i64 (N j).a.o,.int .i64 (N j).a.m,.float .f64 (N j).a.g,.string (N j).a.x,vr,vk]∧RowBT 3 (G+1) (setL w6 G (i*8) [.int .i64 (N i).a.k,.int .i64 (N i).a.l,.int .i64 (N i).a.o,.int .i64 (N i).a.m,.float .f64 (N i).a.g,.string (N i).a.x,v0,v1]) vr (N j).p (fun t=>.int .i64 ((N j).R t))∧RowBT 3 (G+1) (setL w6 G (i*8) [.int .i64 (N i).a.k,.int .i64 (N i).a.l,.int .i64 (N i).a.o,.int .i64 (N i).a.m,.float .f64 (N i).a.g,.string (N i).a.x,v0,v1]) vk (N j).q (fun t=>.int .i64 ((N j).K t))):=by
    show ∀ w6 (v0 v1:Value),_
    intro w6 v0 v1 k6 r0 r1
    have h6:=hM.kb k6
    have hgl:=Nat.lt_of_lt_of_le hM.gl hM.size
    have kl:Kb (G+1) w6 (setL w6 G (i*8) [.int .i64 (N i).a.k,.int .i64 (N i).a.l,.int .i64 (N i).a.o,.int .i64 (N i).a.m,.float .f64 (N i).a.g,.string (N i).a.x,v0,v1]):=⟨(setL_os _ _ _ _).1,(setL_os _ _ _ _).2,by rw [setL_size];exact Nat.le_refl _,fun k h1 _=>setL_block _ _ (by omega) _ _ _⟩
    refine ⟨h6.rest i (Nat.le_refl _) hi,h6.fz,_,h6.step hi rfl,fun j hj=>?_⟩
    by_cases e:j=i
    ·subst e
     rw [if_pos rfl]
     exact ⟨v0,v1,rfl,(r0.mono (by omega)).keep kl,(r1.mono (by omega)).keep kl⟩
    ·rw [if_neg e]
     obtain ⟨ur,uk,q1,q2,q3⟩:=hR j (by omega)
     exact ⟨ur,uk,q1,(q2.keep (k6.mono zq)).keep kl,(q3.keep (k6.mono zq)).keep kl⟩
   clear hA HA hM hR HI hra hin hBW hvr hvk y1 y2
   go_wp2_with fail
   refine (uh HT).mono ?_
   rintro e w6 ⟨v0,v1,rfl,r0,r1,k6⟩
   obtain ⟨hc,hf,hT⟩:=(uh HS) w6 v0 v1 k6 r0 r1
   have HTT:Hid (∃ E:Nat→List Value,Mk 8 w1 G n E (i+1) (setL w6 G (i*8) [.int .i64 (N i).a.k,.int .i64 (N i).a.l,.int .i64 (N i).a.o,.int .i64 (N i).a.m,.float .f64 (N i).a.g,.string (N i).a.x,v0,v1])∧∀ j,j < i+1→∃ vr vk,E j = [.int .i64 (N j).a.k,.int .i64 (N j).a.l,.int .i64 (N j).a.o,.int .i64 (N j).a.m,.float .f64 (N j).a.g,.string (N j).a.x,vr,vk]∧RowBT 3 (G+1) (setL w6 G (i*8) [.int .i64 (N i).a.k,.int .i64 (N i).a.l,.int .i64 (N i).a.o,.int .i64 (N i).a.m,.float .f64 (N i).a.g,.string (N i).a.x,v0,v1]) vr (N j).p (fun t=>.int .i64 ((N j).R t))∧RowBT 3 (G+1) (setL w6 G (i*8) [.int .i64 (N i).a.k,.int .i64 (N i).a.l,.int .i64 (N i).a.o,.int .i64 (N i).a.m,.float .f64 (N i).a.g,.string (N i).a.x,v0,v1]) vk (N j).q (fun t=>.int .i64 ((N j).K t))):=hT
   obtain ⟨u0,h0⟩:=hc 0 (by omega)
   obtain ⟨u1,h1⟩:=hc 1 (by omega)
   obtain ⟨u2,h2⟩:=hc 2 (by omega)
   obtain ⟨u3,h3⟩:=hc 3 (by omega)
   obtain ⟨u4,h4⟩:=hc 4 (by omega)
   obtain ⟨u5,h5⟩:=hc 5 (by omega)
   obtain ⟨u6,h6⟩:=hc 6 (by omega)
   obtain ⟨u7,h7⟩:=hc 7 (by omega)
   rw [Nat.add_zero] at h0
   have e0:=hf (i*8)
   have e1:=hf (i*8+1)
   have e2:=hf (i*8+2)
   have e3:=hf (i*8+3)
   have e4:=hf (i*8+4)
   have e5:=hf (i*8+5)
   have e6:=hf (i*8+6)
   have e7:=hf (i*8+7)
   clear hc hf hT HS HT
   obtain ⟨p0,l0,rfl,_⟩:=id r0
   obtain ⟨p1,l1,rfl,_⟩:=id r1
   clear k6 r0 r1 d0 d1 d2 d3 d4 d5 d6 d7
   have hst:=hst0
   unfold ndv
   go_wp2_with fail
   go_roundw
   case rel=>exact ⟨i+1,by go_num,by omega,HTT⟩
   case measure=>simp [intOf];omega
  ·obtain rfl:i=n:=by omega
   have HE:Hid (Mk 8 w1 G i E i wr∧(∀ j,j < i→∃ vr vk,E j = [.int .i64 (N j).a.k,.int .i64 (N j).a.l,.int .i64 (N j).a.o,.int .i64 (N j).a.m,.float .f64 (N j).a.g,.string (N j).a.x,vr,vk]∧RowBT 3 (G+1) wr vr (N j).p (fun t=>.int .i64 ((N j).R t))∧RowBT 3 (G+1) wr vk (N j).q (fun t=>.int .i64 ((N j).K t)))∧Kb 0 w wr∧G=w.heap.size):=(⟨hM,hR,hBW,hA.2.2.1⟩:_∧_∧_∧_)
   clear HI hM hR hA HA hBW
   go_wp2_with fail
   go_ret
   obtain ⟨hM,hR,hB,hG⟩:=(uh HE)
   refine ⟨_,rfl,⟨_,_,rfl,G,rfl,rfl,(by omega),hM.bt _ _ HB1,fun j hj=>?_⟩,hB⟩
   have hce:=hM.ce j hj
   obtain ⟨ur,uk,q1,q2,q3⟩:=hR j hj
   rw [q1] at hce
   exact ⟨ur,uk,CelN.of hce,q2.mono (by omega),q3.mono (by omega)⟩
end Go.Proofs.YtfpidccjcemcjaaGreat.Fo
