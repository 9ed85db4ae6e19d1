import Derived.Test.YtamcnmnaadpfoaaFXdi
import Derived.Test.YtamcnmnaadpfoaaFJra
set_option maxHeartbeats 16000000
namespace Go.Proofs.Ytamcnmnaadpfoaa.Fo
open Go.ChangeShapes Go.WideShapes Go.ChangeAt Go.RowKit
set_option linter.unusedVariables false
set_option maxRecDepth 100000
def SmG (g:Gv):Prop:=g.x.size≤1∧0≤g.k∧g.k≤4∧0≤g.m∧g.m≤20∧0≤g.r∧g.r≤80
structure Ji (b:Nat) (p:Option Addr) (c m B:Nat) (W:World) (r q:Nat) (lv:Value) (pl pc:Int) (T:Nat→Gv) (mm:Nat) (sv:Value) (wr:World):Prop where
 cu:CU b p c m (B+8*mm) wr
 kg:Kg b W wr
 zr:wr.heap[r]? = some (.cells #[.slice none 0 0,.int .i64 0,.int .i64 0,.slice none 0 0] 26 (0,0))
 zq:wr.heap[q]? = some (.cells #[lv,.int .i64 pl,.int .i64 pc,sv] 26 (0,0))
 hr:W.heap.size≤r
 hq:W.heap.size≤q
 rq:r ≠ q
 ln:RwT W.heap.size 25 5 wr lv
 st:wr.ownsRow W.heap.size 38 4 sv mm (sls T mm)
 sx:∀ i,i < mm→SmG (T i)
 mx:mm≤2
def upT (T:Nat→Gv) (mm:Nat) (g:Gv):Nat→Gv:=fun i=>if i=mm then g else T i
theorem sls_up (T:Nat→Gv) (mm:Nat) (g:Gv):sls (upT T mm g) (mm+1)=sls T mm ++ [.int .i64 g.k,.int .i64 g.m,.int .i64 g.r,.string g.x]:=by
 show sls (upT T mm g) mm ++ _ = _
 rw [sls_congr (U:=T) (fun k hk=>by unfold upT;rw [if_neg (by omega)])]
 unfold upT
 rw [if_pos rfl]
theorem Ji.step {b : Nat} {p : Option Addr} {c m B B0 : Nat} {W : World} {r q : Nat} {lv : Value} {pl pc : Int} {T : Nat → Gv} {mm : Nat} {sv : Value} {wr w1 w8 : World} {ob : Obj} {g : Gv} {gn cn : Nat} (h0 : CU b p c m B0 W) (h : Ji b p c m B W r q lv pl pc T mm sv wr) (hk : Kg b wr w1) (hC : CU b p c m (B + 8 * mm + 8) w1) (hg : (w1.alloc ob).grownBy w8 sv.ownBlock) (ho : w8.ownsRow W.heap.size 38 4 (.slice (some ⟨gn, 0, none⟩) (mm + 1) cn) (mm + 1) (sls T mm ++ [.int .i64 g.k, .int .i64 g.m, .int .i64 g.r, .string g.x])) (hx : SmG g) (hm : mm + 1 ≤ 2) :
  Ji b p c m B W r q lv pl pc (upT T mm g) (mm+1) (.slice (some ⟨gn,0,none⟩) (mm+1) cn) (w8.setCell ⟨q,3,none⟩ (.slice (some ⟨gn,0,none⟩) (mm+1) cn))∧w8.heap[q]? = some (.cells #[lv,.int .i64 pl,.int .i64 pc,sv] 26 (0,0)):=by
 have hb:=h0.lt
 have hbr:r ≠ b:=by have:=h.hr;omega
 have hbq:q ≠ b:=by have:=h.hq;omega
 have hrz:r < wr.heap.size:=(Array.getElem?_eq_some_iff.1 h.zr).1
 have hqz:q < wr.heap.size:=(Array.getElem?_eq_some_iff.1 h.zq).1
 have hs1:=hk.size
 have hown:(w1.alloc ob).ownsRow W.heap.size 38 4 sv mm (sls T mm):=(own_kg h.st hb hk).alloc _
 obtain ⟨r1,r2⟩:=h0.grow (hC.kb (kb_alloc 0 w1 ob)) ((h.kg.trans hk).trans (Kg.of_kb (kb_alloc 0 w1 ob))) hown hg
 have far:∀ k,k < wr.heap.size→k ≠ b→some k ≠ sv.ownBlock→w8.heap[k]? = wr.heap[k]?:=fun k h1 h2 h3=>((hg.block k (by rw [World.size_alloc];omega) h3).trans ((kb_alloc 0 w1 ob).block k (Nat.zero_le _) (by omega))).trans (hk.block k h1 h2)
 have nr:some r ≠ sv.ownBlock:=fun e=>own_ty h.st h.zr (by decide) e.symm rfl
 have nq:some q ≠ sv.ownBlock:=fun e=>own_ty h.st h.zq (by decide) e.symm rfl
 have z8:w8.heap[q]? = some (.cells #[lv,.int .i64 pl,.int .i64 pc,sv] 26 (0,0)):=(far q hqz hbq nq).trans h.zq
 obtain ⟨w9,hw9⟩:∃ w9,w9=w8.setCell ⟨q,3,none⟩ (.slice (some ⟨gn,0,none⟩) (mm+1) cn):=⟨_,rfl⟩
 have z9:Kz q w8 w9:=by rw [hw9];exact (Kz.refl q w8).set 3 _
 have y9:w9.heap[q]? = some (.cells #[lv,.int .i64 pl,.int .i64 pc,.slice (some ⟨gn,0,none⟩) (mm+1) cn] 26 (0,0)):=by rw [hw9,set_known _ z8];rfl
 rw [← hw9]
 obtain ⟨k1,s1,e1,e2,e3⟩:=r1.blk
 have kg9:Kg b W w9:=⟨z9.os.trans r2.os,z9.output.trans r2.output,by rw [z9.size];exact r2.size,fun i h1 h2=>(z9.block i (by have:=h.hq;omega)).trans (r2.block i h1 h2)⟩
 refine ⟨⟨(h0.kz kg9 k1 s1 ((z9.block b (by omega)).trans e1) e2 e3).mono (by omega),kg9,(z9.block r h.rq).trans ((far r hrz hbr nr).trans h.zr),y9,h.hr,h.hq,h.rq,?_,?_,?_,hm⟩,z8⟩
 ·obtain ⟨L,l1,l2,l3⟩:=h.ln
  refine ⟨L,l1,l2,own_keep l3 (fun g2 e=>?_)⟩
  have n1:g2 ≠ q:=own_ty l3 h.zq (by decide) e
  have l4:=l3.lt g2 e
  have n2:some g2 ≠ sv.ownBlock:=own_ne l3 h.st (by decide) e
  exact (z9.block g2 n1).trans (far g2 l4.2 (by omega) n2)
 ·rw [sls_up]
  exact own_keep ho (fun g2 e=>z9.block g2 (own_ty ho z8 (by decide) e))
 ·intro i hi
  unfold upT
  by_cases e:i=mm
  ·rw [if_pos e];exact hx
  ·rw [if_neg e];exact h.sx i (by omega)
def DrJ (b:Nat) (p:Option Addr) (c m B:Nat) (W:World) (e:Ending) (w':World):Prop:=∃ (lv sv:Value) (L:List ByteArray) (pl pc:Nat) (T:Nat→Gv) (mm:Nat),e = .returned (.agg #[lv,.int .i64 ((pl:Int) - 1),.int .i64 (pc:Int),sv])∧pl < 80∧pc < 9∧L.length≤25∧(∀ s,s ∈ L→s.size≤5)∧w'.ownsRow W.heap.size 9 1 lv L.length (L.map Value.string)∧w'.ownsRow W.heap.size 38 4 sv mm (sls T mm)∧(∀ i,i < mm→SmG (T i))∧mm≤2∧CU b p c m B w'∧Kg b W w'
theorem cu_journal {b : Nat} {p : Option Addr} {c m B : Nat} {W : World} (h : CU b p c m B W) (hB : B + 90 ≤ 1000000) :
  Calls Try.prog 26 #[.pointer (some ⟨b,0,none⟩)] W (DrJ b p c m (B+90) W):=by
 have HA:Hid (∀ (n B1:Nat) (W1:World),CU b p c m B1 W1→0 < n→n≤1048576→B1+2≤1000000→Calls Try.prog 27 #[.pointer (some ⟨b,0,none⟩),.int .i64 (n:Int)] W1 fun e w'=>(∃ x:Nat,x < n∧e = .returned (.int .i64 (x:Int)))∧CU b p c m (B1+2) w'∧Kg b W1 w'):=(fun n B1 W1 h1 h2 h3 h4=>cu_pick h1 n h2 h3 h4:∀ (n B1:Nat) (W1:World),_)
 have HS:Hid (∀ (B1:Nat) (W1:World),CU b p c m B1 W1→B1+8≤1000000→Calls Try.prog 53 #[.pointer (some ⟨b,0,none⟩)] W1 (DrS b p c m (B1+8) W1)):=(fun B1 W1 h1 h2=>cu_stop h1 h2:∀ (B1:Nat) (W1:World),_)
 have HH:Hid (CU b p c m B W):=h
 obtain ⟨r,hr⟩:∃ r,r=W.heap.size:=⟨_,rfl⟩
 obtain ⟨w0,hw0⟩:∃ w0,w0=W.alloc (.cells #[.slice none 0 0,.int .i64 0,.int .i64 0,.slice none 0 0] 26):=⟨_,rfl⟩
 have hK:Kb 0 W w0:=by rw [hw0];exact kb_alloc _ _ _
 have hC0:CU b p c m B w0:=h.kb hK
 have hR0:w0.heap[r]? = some (.cells #[.slice none 0 0,.int .i64 0,.int .i64 0,.slice none 0 0] 26 (0,0)):=by rw [hw0,hr];exact alloc_new _ _ _
 have hrb:r ≠ b:=by rw [hr];exact Nat.ne_of_gt h.lt
 have hr0:r < w0.heap.size:=(Array.getElem?_eq_some_iff.1 hR0).1
 have hrW:W.heap.size≤r:=by omega
 have HP1:=cu_lines hC0 (by omega)
 have HW0:Hid (w0=W.alloc (.cells #[.slice none 0 0,.int .i64 0,.int .i64 0,.slice none 0 0] 26)∧r=W.heap.size):=(⟨hw0,hr⟩:_∧_)
 have HG0:Hid (Kg b W w0):=Kg.of_kb hK
 clear hw0 hr hK h hC0
 go_enter Try.func26,Try.ntmps26
 go_upto_region 1 with fail
 rw [← (show _∧_ from HW0).1,← (show _∧_ from HW0).2]
 clear HW0
 go_wp2_with fail
 refine HP1.mono ?_
 rintro e w1 ⟨lv,rfl,⟨L,l1,l2,l3⟩,hC1,hk1⟩
 obtain ⟨lp,lc,rfl⟩:=own_shape l3
 have HP2:=(show ∀ (n B1:Nat) (W1:World),CU b p c m B1 W1→0 < n→n≤1048576→B1+2≤1000000→Calls Try.prog 27 #[.pointer (some ⟨b,0,none⟩),.int .i64 (n:Int)] W1 fun e w'=>(∃ x:Nat,x < n∧e = .returned (.int .i64 (x:Int)))∧CU b p c m (B1+2) w'∧Kg b W1 w' from HA) 80 (B+60) w1 hC1 (by omega) (by omega) (by omega)
 clear HP1
 go_wp2_with fail
 refine HP2.mono ?_
 rintro e w2 ⟨⟨x,hx,rfl⟩,hC2,hk2⟩
 have hxw:IntKind.i64.wrap ((x:Int) - 1)=(x:Int) - 1:=by rw [IntKind.wrap_i64];omega
 have HP3:=(show ∀ (n B1:Nat) (W1:World),CU b p c m B1 W1→0 < n→n≤1048576→B1+2≤1000000→Calls Try.prog 27 #[.pointer (some ⟨b,0,none⟩),.int .i64 (n:Int)] W1 fun e w'=>(∃ x:Nat,x < n∧e = .returned (.int .i64 (x:Int)))∧CU b p c m (B1+2) w'∧Kg b W1 w' from HA) 9 (B+60+2) w2 hC2 (by omega) (by omega) (by omega)
 clear HP2
 go_wp2_with fail
 refine HP3.mono ?_
 rintro e w3 ⟨⟨y,hy,rfl⟩,hC3,hk3⟩
 clear HP3
 go_upto_region 2 with fail
 obtain ⟨q,hq⟩:∃ q,q=w3.heap.size:=⟨_,rfl⟩
 obtain ⟨w4,hw4⟩:∃ w4,w4=w3.alloc (.cells #[.slice lp L.length lc,.int .i64 ((x:Int) - 1),.int .i64 (y:Int),.slice none 0 0] 26):=⟨_,rfl⟩
 have k34:Kb 0 w3 w4:=by rw [hw4];exact kb_alloc _ _ _
 have hQ4:w4.heap[q]? = some (.cells #[.slice lp L.length lc,.int .i64 ((x:Int) - 1),.int .i64 (y:Int),.slice none 0 0] 26 (0,0)):=by rw [hw4,hq];exact alloc_new _ _ _
 rw [← hw4,← hq]
 clear hw4
 have hk13:Kg b w1 w4:=(hk2.trans hk3).trans (Kg.of_kb k34)
 have hk04:Kg b w0 w4:=hk1.trans hk13
 have hb:=(show CU b p c m B W from HH).lt
 have hqz:W.heap.size≤q:=by
  rw [hq]
  exact Nat.le_trans (show Kg b W w0 from HG0).size (Nat.le_trans hk1.size (Nat.le_trans hk2.size hk3.size))
 have hqw:w0.heap.size≤q:=by
  rw [hq]
  exact Nat.le_trans hk1.size (Nat.le_trans hk2.size hk3.size)
 have hC4:=hC3.kb k34
 have l3':w1.ownsRow W.heap.size 9 1 (.slice lp L.length lc) L.length (L.map Value.string):=ownsRow_mono9 l3 (show Kg b W w0 from HG0).size
 have HJ4:Hid (∀ w5,Kg b w4 w5→CU b p c m (B+66) w5→Ji b p c m (B+66) W r q (.slice lp L.length lc) ((x:Int) - 1) (y:Int) (fun _=>ndV 0) 0 (.slice none 0 0) w5):=(fun w5 k5 c5=>⟨c5,((show Kg b W w0 from HG0).trans hk04).trans k5,(k5.block r (by have:=hk04.size;omega) hrb).trans ((hk04.block r hr0 hrb).trans hR0),(k5.block q (Array.getElem?_eq_some_iff.1 hQ4).1 (by omega)).trans hQ4,hrW,hqz,by omega,⟨L,l1,l2,own_kg (own_kg l3' hb hk13) hb k5⟩,World.ownsRow_nil _ _ _ _,fun i hi=>absurd hi (Nat.not_lt_zero _),by omega⟩:∀ w5,Kg b w4 w5→CU b p c m (B+66) w5→Ji b p c m (B+66) W r q (.slice lp L.length lc) ((x:Int) - 1) (y:Int) (fun _=>ndV 0) 0 (.slice none 0 0) w5)
 have HP4:=(show ∀ (n B1:Nat) (W1:World),CU b p c m B1 W1→0 < n→n≤1048576→B1+2≤1000000→Calls Try.prog 27 #[.pointer (some ⟨b,0,none⟩),.int .i64 (n:Int)] W1 fun e w'=>(∃ x:Nat,x < n∧e = .returned (.int .i64 (x:Int)))∧CU b p c m (B1+2) w'∧Kg b W1 w' from HA) 3 (B+60+2+2) w4 hC4 (by omega) (by omega) (by omega)
 have HXY:Hid (x < 80∧y < 9):=(⟨hx,hy⟩:_∧_)
 clear hq k34 hQ4 hk13 hk04 hk1 hk2 hk3 hC1 hC2 hC3 hC4 l1 l2 l3 l3' hR0 HG0 hqw hr0 hxw hb
 go_wp2_with fail
 refine HP4.mono ?_
 rintro e w5 ⟨⟨z,hz,rfl⟩,hC5,hk5⟩
 have HJ:Hid (Ji b p c m (B+66) W r q (.slice lp L.length lc) ((x:Int) - 1) (y:Int) (fun _=>ndV 0) 0 (.slice none 0 0) w5):=(show ∀ w5,_ from HJ4) w5 hk5 (hC5.mono (by omega))
 obtain ⟨i0,hi0,hz0,hz1,hz2⟩:=info_parts infoSt
 have HI0:Hid (Try.prog.info? 38=some i0):=hi0
 clear HJ4 HP4 hC5 hk5 hi0 HA
 go_wp2_with fail
 go_loopw [4] (fun s4 wr=>∃ (T:Nat→Gv) (mm k:Nat) (sv:Value),s4 = .int .i64 (k:Int)∧mm+k≤2∧Hid (Ji b p c m (B+66) W r q (.slice lp L.length lc) ((x:Int) - 1) (y:Int) T mm sv wr)) (fun s4 _=>(intOf s4).toNat)
 case atStart=>exact ⟨_,0,z,_,rfl,by omega,HJ⟩
 case round =>
  clear HJ
  obtain ⟨T,mm,k,sv,rfl,hmk,HX⟩:=hrel
  have hJ:=(show Ji b p c m (B+66) W r q (.slice lp L.length lc) ((x:Int) - 1) (y:Int) T mm sv wr from HX)
  obtain ⟨sa,sc,rfl⟩:=own_shape hJ.st
  clear HX
  have hz3:=hJ.zq
  have c3:wr.cell? ⟨q,3,none⟩=some (.slice sa mm sc):=cell_of hz3 rfl
  by_cases hk0:k=0
  ·subst hk0
   have c0:wr.cell? ⟨q,0,none⟩=some (.slice lp L.length lc):=cell_of hz3 rfl
   have c1:wr.cell? ⟨q,1,none⟩=some (.int .i64 ((x:Int) - 1)):=cell_of hz3 rfl
   have c2:wr.cell? ⟨q,2,none⟩=some (.int .i64 (y:Int)):=cell_of hz3 rfl
   have f0:wr.frozen? ⟨r,0,none⟩=false:=frozen_of hJ.zr
   have f1:wr.frozen? ⟨r,1,none⟩=false:=frozen_of hJ.zr
   have f2:wr.frozen? ⟨r,2,none⟩=false:=frozen_of hJ.zr
   have f3:wr.frozen? ⟨r,3,none⟩=false:=frozen_of hJ.zr
   have r0:wr.cell? ⟨r,0,none⟩=some (.slice none 0 0):=cell_of hJ.zr rfl
   have r1:wr.cell? ⟨r,1,none⟩=some (.int .i64 0):=cell_of hJ.zr rfl
   have r2:wr.cell? ⟨r,2,none⟩=some (.int .i64 0):=cell_of hJ.zr rfl
   have r3:wr.cell? ⟨r,3,none⟩=some (.slice none 0 0):=cell_of hJ.zr rfl
   have HJJ:Hid (Ji b p c m (B+66) W r q (.slice lp L.length lc) ((x:Int) - 1) (y:Int) T mm (.slice sa mm sc) wr):=hJ
   clear hz3 hJ HI0 HS
   go_wp2_with fail
   obtain ⟨wS,hwS⟩:∃ wS,wS=(((wr.setCell ⟨r,0,none⟩ (.slice lp L.length lc)).setCell ⟨r,1,none⟩ (.int .i64 ((x:Int) - 1))).setCell ⟨r,2,none⟩ (.int .i64 (y:Int))).setCell ⟨r,3,none⟩ (.slice sa mm sc):=⟨_,rfl⟩
   have hJ:=(show Ji b p c m (B+66) W r q (.slice lp L.length lc) ((x:Int) - 1) (y:Int) T mm (.slice sa mm sc) wr from HJJ)
   have zS:Kz r wr wS:=by rw [hwS];exact ((((Kz.refl r wr).set 0 _).set 1 _).set 2 _).set 3 _
   have hRS:wS.heap[r]? = some (.cells #[.slice lp L.length lc,.int .i64 ((x:Int) - 1),.int .i64 (y:Int),.slice sa mm sc] 26 (0,0)):=by rw [hwS,set_known _ (set_known _ (set_known _ (set_known _ hJ.zr)))];rfl
   have t0:wS.cell? ⟨r,0,none⟩=some _:=cell_of hRS rfl
   have t1:wS.cell? ⟨r,1,none⟩=some _:=cell_of hRS rfl
   have t2:wS.cell? ⟨r,2,none⟩=some _:=cell_of hRS rfl
   have t3:wS.cell? ⟨r,3,none⟩=some _:=cell_of hRS rfl
   rw [← hwS]
   clear hwS hRS
   refine bodyPost_ret (v:=.agg #[.slice lp L.length lc,.int .i64 ((x:Int) - 1),.int .i64 (y:Int),.slice sa mm sc]) (by simp [results,Try.results26,go_sem,t0,t1,t2,t3]) rfl ?_
   obtain ⟨L',m1,m2,m3⟩:=hJ.ln
   obtain ⟨k1,s1,e1,e2,e3⟩:=hJ.cu.blk
   have kgS:Kg b W wS:=⟨zS.os.trans hJ.kg.os,zS.output.trans hJ.kg.output,by rw [zS.size];exact hJ.kg.size,fun i h1 h2=>(zS.block i (by omega)).trans (hJ.kg.block i h1 h2)⟩
   have hx80:=(show x < 80∧y < 9 from HXY)
   have hLL:L'.length=L.length:=by
    obtain ⟨p9,c9,e9⟩:=own_shape m3
    injection e9 with _ e9 _
    exact e9.symm
   exact ⟨_,_,L',x,y,T,mm,rfl,hx80.1,hx80.2,m1,m2,own_keep m3 (fun g2 e=>zS.block g2 (own_ty m3 hJ.zr (by decide) e)),own_keep hJ.st (fun g2 e=>zS.block g2 (own_ty hJ.st hJ.zr (by decide) e)),hJ.sx,hJ.mx,((show CU b p c m B W from HH).kz kgS k1 s1 ((zS.block b (fun e=>hrb e.symm)).trans e1) e2 e3).mono (by omega),kgS⟩
  ·have g0:(0:Int) < (k:Int):=by omega
   have f3:wr.frozen? ⟨q,3,none⟩=false:=frozen_of hz3
   have hkw:IntKind.i64.wrap ((k:Int) - 1)=((k - 1:Nat):Int):=by rw [IntKind.wrap_i64];omega
   have HS1:=fun (w':World) (k':Kb 0 wr w')=>(show ∀ (B1:Nat) (W1:World),CU b p c m B1 W1→B1+8≤1000000→Calls Try.prog 53 #[.pointer (some ⟨b,0,none⟩)] W1 (DrS b p c m (B1+8) W1) from HS) (B+66+8*mm) w' (hJ.cu.kb k') (by omega)
   have HJJ:Hid (Ji b p c m (B+66) W r q (.slice lp L.length lc) ((x:Int) - 1) (y:Int) T mm (.slice sa mm sc) wr):=hJ
   have HZ3:Hid (wr.heap[q]? = some (.cells #[.slice lp L.length lc,.int .i64 ((x:Int) - 1),.int .i64 (y:Int),.slice sa mm sc] 26 (0,0))):=hz3
   have HC3:Hid (wr.cell? ⟨q,3,none⟩=some (.slice sa mm sc)):=c3
   clear hz3 hJ c3
   go_upto_region 5 with fail
   refine AnyL.region (S:=fun W'=>W'.cell? ⟨q,3,none⟩=some (.slice sa mm sc)) (z:=7) (by kernel_rfl) ?_
   obtain ⟨wd,hwd⟩:∃ wd,wd=wr.drew:=⟨_,rfl⟩
   rw [← hwd]
   have kd:Kb 0 wr wd:=by rw [hwd];exact Kb.drew (Kb.refl _ _)
   have hS0:(fun W':World=>W'.cell? ⟨q,3,none⟩=some (.slice sa mm sc)) wd:=kd.cell HC3
   clear hwd
   refine AnyL.takeAt 0 (.pointer (some ⟨q,3,none⟩)) rfl (by kernel_rfl) (by kernel_rfl) (by kernel_rfl) (by kernel_rfl) (fun _ _ _ h=>h) rfl hS0 (by intro W' hW;first | go_simp | (have hW':W'.cell? ⟨q,3,none⟩=some (.slice sa mm sc):=hW;go_simp)) ?_
   try simp only [Act.put,List.setIfInBounds_toArray,List.set_cons_zero,List.set_cons_succ]
   refine AnyL.takeAt 1 (.slice sa mm sc) rfl (by kernel_rfl) (by kernel_rfl) (by kernel_rfl) (by kernel_rfl) (fun _ _ _ h=>h) rfl hS0 (by intro W' hW;first | go_simp | (have hW':W'.cell? ⟨q,3,none⟩=some (.slice sa mm sc):=hW;go_simp)) ?_
   try simp only [Act.put,List.setIfInBounds_toArray,List.set_cons_zero,List.set_cons_succ]
   refine AnyL.takeAt 2 (.pointer (some ⟨b,0,none⟩)) rfl (by kernel_rfl) (by kernel_rfl) (by kernel_rfl) (by kernel_rfl) (fun _ _ _ h=>h) rfl hS0 (by intro W' hW;first | go_simp | (have hW':W'.cell? ⟨q,3,none⟩=some (.slice sa mm sc):=hW;go_simp)) ?_
   try simp only [Act.put,List.setIfInBounds_toArray,List.set_cons_zero,List.set_cons_succ]
   refine AnyL.oneAt 3 rfl (by kernel_rfl) rfl ?_
   intro K hK
   go_simp
   refine (HS1 wd kd).mono ?_
   rintro e w6 ⟨kk,ff,ll,ss,rfl,s1,s2,s3,s4,hC6,hk6⟩
   have hkg6:Kg b wr w6:=(Kg.of_kb kd).trans hk6
   have hqb:q ≠ b:=by have:=(show CU b p c m B W from HH).lt;omega
   have hS6:w6.cell? ⟨q,3,none⟩=some (.slice sa mm sc):=cell_of ((hkg6.block q (Array.getElem?_eq_some_iff.1 (show wr.heap[q]? = _ from HZ3)).1 hqb).trans HZ3) rfl
   clear HS1 kd hk6 hS0
   refine hK.out _ _ (fun _=>hS6) ?_
   clear hK K
   try simp only [Act.put,List.setIfInBounds_toArray,List.set_cons_zero,List.set_cons_succ]
   refine AnyL.oneAt 4 rfl (by kernel_rfl) rfl ?_
   intro K hK
   go_simp
   refine hK.out _ _ (fun _=>(kb_alloc 0 w6 _).cell hS6) ?_
   clear hK K
   try simp only [Act.put,List.setIfInBounds_toArray,List.set_cons_zero,List.set_cons_succ]
   refine AnyL.oneAt 5 rfl (by kernel_rfl) rfl ?_
   intro K hK
   have hzw6:W.heap.size≤w6.heap.size:=Nat.le_trans (show Ji b p c m (B+66) W r q (.slice lp L.length lc) ((x:Int) - 1) (y:Int) T mm (.slice sa mm sc) wr from HJJ).kg.size hkg6.size
   have hown6:w6.ownsRow W.heap.size 38 4 (.slice sa mm sc) mm (sls T mm):=own_kg (show Ji b p c m (B+66) W r q (.slice lp L.length lc) ((x:Int) - 1) (y:Int) T mm (.slice sa mm sc) wr from HJJ).st (show CU b p c m B W from HH).lt hkg6
   refine wp_append_lies _ (.tmp 20) (.tmp 23) 24 rfl W.heap.size 38 i0 (.agg #[.int .i64 0,.int .i64 0,.int .i64 0,.string ⟨#[]⟩]) 4 40 Try.underlying24 HI0 hz0 hz1 hz2 rfl (by decide) (.slice sa mm sc) mm (sls T mm) rfl (hown6.alloc _) ⟨w6.heap.size,0,none⟩ 1 1 [.int .i64 (kk:Int),.int .i64 (ff:Int),.int .i64 (ll:Int),.string ss] rfl rfl (qr_cells w6 #[.int .i64 (kk:Int),.int .i64 (ff:Int),.int .i64 (ll:Int),.string ss] 38 [.int .i64 (kk:Int),.int .i64 (ff:Int),.int .i64 (ll:Int),.string ss] rfl) (by intro u hu;simp at hu;rcases hu with rfl | rfl | rfl | rfl <;> rfl) (by decide) (by unfold maxLen;omega) (by omega) (by rw [World.size_alloc];omega) (w6.heap.size+1) (World.size_alloc _ _) ?_
   intro g' cap' w8 hown1 hgrow1 hat hlt
   obtain ⟨hJ9,z8⟩:=Ji.step (g:=⟨kk,ff,ss,ll⟩) (show CU b p c m B W from HH) (show Ji b p c m (B+66) W r q (.slice lp L.length lc) ((x:Int) - 1) (y:Int) T mm (.slice sa mm sc) wr from HJJ) hkg6 hC6 hgrow1 hown1 ⟨s4,by show (0:Int)≤(kk:Int);omega,by show (kk:Int)≤4;omega,by show (0:Int)≤(ff:Int);omega,by show (ff:Int)≤20;omega,by show (0:Int)≤(ll:Int);omega,by show (ll:Int)≤80;omega⟩ (by omega)
   have c8:w8.cell? ⟨q,3,none⟩=some (.slice sa mm sc):=cell_of z8 rfl
   have f8:w8.frozen? ⟨q,3,none⟩=false:=frozen_of z8
   have HJ9:Hid (Ji b p c m (B+66) W r q (.slice lp L.length lc) ((x:Int) - 1) (y:Int) (upT T mm ⟨kk,ff,ss,ll⟩) (mm+1) (.slice (some ⟨g',0,none⟩) (mm+1) cap') (w8.setCell ⟨q,3,none⟩ (.slice (some ⟨g',0,none⟩) (mm+1) cap'))):=hJ9
   clear hJ9 z8 hown1 hgrow1 hat hlt hown6 hS6 hkg6 hC6 HJJ HZ3 HC3
   refine hK.out _ _ (fun _=>c8) ?_
   clear hK K
   try simp only [Act.put,List.setIfInBounds_toArray,List.set_cons_zero,List.set_cons_succ]
   refine AnyL.takeAt 6 (.pointer (some ⟨q,3,none⟩)) rfl (by kernel_rfl) (by kernel_rfl) (by kernel_rfl) (by kernel_rfl) (fun _ _ _ h=>h) rfl c8 (by intro W' hW;first | go_simp | (have hW':W'.cell? ⟨q,3,none⟩=some (.slice sa mm sc):=hW;go_simp)) ?_
   try simp only [Act.put,List.setIfInBounds_toArray,List.set_cons_zero,List.set_cons_succ]
   refine AnyL.oneAt 7 rfl (by kernel_rfl) rfl ?_
   intro K hK
   go_simp
   refine hK.out _ _ (fun h=>absurd rfl h) ?_
   clear hK K c8 f8
   try simp only [Act.put,List.setIfInBounds_toArray,List.set_cons_zero,List.set_cons_succ]
   refine AnyL.done (by kernel_rfl) ?_
   go_wp2_with fail
   go_roundw
   case rel=>exact ⟨_,mm+1,k - 1,_,rfl,by omega,HJ9⟩
   case measure=>simp [intOf];omega
end Go.Proofs.Ytamcnmnaadpfoaa.Fo
