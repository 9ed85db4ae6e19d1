import Derived.Test.YtamcnmnaadpfoaaFUag
set_option maxHeartbeats 4000000
namespace Go.Proofs.Ytamcnmnaadpfoaa.Fo
open Go.ChangeShapes Go.WideShapes Go.ChangeAt Go.RowKit
set_option linter.unusedVariables false
set_option maxRecDepth 100000
theorem cu_pick {b : Nat} {p : Option Addr} {c m B : Nat} {W : World} (h : CU b p c m B W) (n : Nat) (hn : 0 < n) (hn2 : n ≤ 1048576) (hB : B + 2 ≤ 1000000) :
  Calls Try.prog 27 #[.pointer (some ⟨b,0,none⟩),.int .i64 (n:Int)] W fun e w'=>(∃ x:Nat,x < n∧e = .returned (.int .i64 (x:Int)))∧CU b p c m (B+2) w'∧Kg b W w':=by
 by_cases h1:n≤1
 ·have g1:(n:Int)≤1:=by omega
  have HD:Hid (CU b p c m (B+2) W):=h.mono (by omega)
  clear h h1
  go_enter Try.func27,Try.ntmps27
  go_wp2_with fail
  go_ret
  exact ⟨⟨0,hn,rfl⟩,HD,(Kz.refl _ _).kg⟩
 ·have g1:¬ (n:Int)≤1:=by omega
  have HB:=cu_next h (by omega)
  have HA:Hid (∀ W1,CU b p c m (B+1) W1→Calls Try.prog 32 #[.pointer (some ⟨b,0,none⟩)] W1 fun e w'=>(∃ x:Nat,x < 256∧e = .returned (.int .i64 (x:Int)))∧CU b p c m (B+1+1) w'∧Kg b W1 w'):=(fun W1 h1=>cu_next h1 (by omega):∀ W1,_)
  clear h h1
  by_cases h2 : 200 < n
  ·have g2:(200:Int) < (n:Int):=by omega
   clear h2
   go_enter Try.func27,Try.ntmps27
   go_wp2_with fail
   refine HB.mono ?_
   rintro e w1 ⟨⟨x,hx,rfl⟩,z1,z2⟩
   have HA1:=(show ∀ W1,_ from HA) w1 z1
   have HZ:Hid (Kg b W w1):=z2
   have hm:IntKind.i64.wrap ((x:Int)*256)=((x*256:Nat):Int):=by rw [IntKind.wrap_i64];omega
   have hx2:x*256≤65280:=by omega
   clear HA HB z1 z2
   obtain ⟨x2,hx2e⟩:∃ x2,x2=x*256:=⟨_,rfl⟩
   rw [← hx2e] at hm hx2
   clear hx2e
   go_wp2_with fail
   refine HA1.mono ?_
   rintro e w2 ⟨⟨x3,hx3,rfl⟩,z3,z4⟩
   have HD:Hid (CU b p c m (B+2) w2∧Kg b W w2):=(⟨z3.mono (by omega),(show Kg b W w1 from HZ).trans z4⟩:_∧_)
   have hs:IntKind.i64.wrap ((x2:Int)+(x3:Int))=((x2+x3:Nat):Int):=by rw [IntKind.wrap_i64];omega
   clear HA1 HZ z3 z4
   go_wp2_with fail
   go_ret
   exact ⟨⟨(x2+x3) % n,Nat.mod_lt _ hn,rfl⟩,(show _∧_ from HD).1,(show _∧_ from HD).2⟩
  ·have g2:¬ (200:Int) < (n:Int):=by omega
   clear h2
   go_enter Try.func27,Try.ntmps27
   go_wp2_with fail
   refine HB.mono ?_
   rintro e w1 ⟨⟨x,hx,rfl⟩,z1,z2⟩
   have HD:Hid (CU b p c m (B+2) w1):=z1.mono (by omega)
   have HZ:Hid (Kg b W w1):=z2
   clear HA HB z1 z2
   go_wp2_with fail
   go_ret
   exact ⟨⟨x % n,Nat.mod_lt _ hn,rfl⟩,HD,HZ⟩
def TxA (n:Nat) (W:World) (e:Ending) (w':World):Prop:=∃ s:ByteArray,e = .returned (.string s)∧s.size≤n∧w'=W
def WrP (v j:Nat) (out:ByteArray):Prop:=(j=v∧out.size=0)∨(j=0∧out.size=1)
theorem dr_sl (j:Nat) (hj:j≤9):∃ o:ByteArray,o.size=1∧∀ W:World,(Instr.slice 9 (.string ⟨#[48,49,50,51,52,53,54,55,56,57,97,98,99,100,101,102,103,104,105,106,107,108,109,110,111,112,113,114,115,116,117,118,119,120,121,122]⟩) (some (.int .u64 (j:Int))) (some (.int .u64 ((j:Int)+1))) none).run Try.prog W = .ok (.string o) W:=by
 rcases (by omega:j=0∨j=1∨j=2∨j=3∨j=4∨j=5∨j=6∨j=7∨j=8∨j=9) with rfl | rfl | rfl | rfl | rfl | rfl | rfl | rfl | rfl | rfl <;> exact ⟨_,rfl,fun W=>rfl⟩
theorem dr_write (W:World) (v:Nat) (hv:v≤9):Calls Try.prog 113 #[.int .u64 (v:Int),.int .i64 10] W (TxA 1 W):=by
  by_cases h0:v=0
  · subst h0
    go_enter Try.func113,Try.ntmps113
    go_wp2_with fail
    go_ret
    exact ⟨_,rfl,by decide,rfl⟩
  · have g0:¬ (v:Int)=0:=by omega
    have gp:(0:Int) < (v:Int):=by omega
    have gm:(v:Int) % 10=(v:Int):=by omega
    have gq:(v:Int) / 10=0:=by omega
    go_enter Try.func113,Try.ntmps113
    go_upto_region 5 with fail
    go_loopw [0,6,7] (fun s0 s6 s7 wr=>∃ (j:Nat) (out:ByteArray),s0 = .int .u64 (j:Int)∧s6 = .string out∧wr=W∧Hid (WrP v j out)) (fun s0 _ _ _=>(intOf s0).toNat)
    case atStart=>exact ⟨v,⟨#[]⟩,rfl,rfl,rfl,(Or.inl ⟨rfl,rfl⟩:WrP v v ⟨#[]⟩)⟩
    case round =>
      obtain ⟨j,out,rfl,rfl,rfl,HX⟩:=hrel
      by_cases hj:j=0
      · subst hj
        have HO:Hid (out.size=1):=by
          rcases (show (0=v∧out.size=0)∨(0=0∧out.size=1) from HX) with ⟨h,_⟩ | ⟨_,h⟩
          · omega
          · exact (h:out.size=1)
        clear HX
        go_wp2_with fail
        go_ret
        exact ⟨_,rfl,Nat.le_of_eq HO,rfl⟩
      · have HO : Hid (out.size = 0) := by
          rcases (show (j=v∧out.size=0)∨(j=0∧out.size=1) from HX) with ⟨_,h⟩ | ⟨h,_⟩
          · exact (h:out.size=0)
          · omega
        have hjv:j≤9:=by
          rcases (show (j=v∧out.size=0)∨(j=0∧out.size=1) from HX) with ⟨h,_⟩ | ⟨h,_⟩ <;> omega
        have hm:(j:Int) % 10=(j:Int):=by omega
        have hq:(j:Int) / 10=0:=by omega
        have hp:(0:Int) < (j:Int):=by omega
        obtain ⟨o,ho,hsl⟩:=dr_sl j hjv
        have hE:=hsl wr
        clear hsl HX gp gm gq g0
        have HN:Hid (WrP v 0 (o ++ out)):=(Or.inr ⟨rfl,by rw [ByteArray.size_append,ho,show out.size=0 from HO]⟩:WrP v 0 (o ++ out))
        have hos:out.size≤1:=by have:=(show out.size=0 from HO);omega
        clear HO
        go_wp2_with fail
        refine ⟨⟨0,o ++ out,rfl,rfl,trivial,HN⟩,?_⟩
        simp [intOf]
        omega
theorem dr_int (W:World) (x:Nat) (hx:x < 9):Calls Try.prog 111 #[.int .i64 ((x:Int) - 2),.int .i64 10] W (TxA 2 W):=by
 by_cases h2:x < 2
 ·have HB:=dr_write W (2 - x) (by omega)
  have g1:(x:Int) - 2 < 0:=by omega
  have g2:IntKind.u64.wrap (-(IntKind.u64.wrap ((x:Int) - 2)))=((2 - x:Nat):Int):=by rw [IntKind.wrap_u64,IntKind.wrap_u64];omega
  go_enter Try.func111,Try.ntmps111
  go_wp2_with fail
  refine HB.mono ?_
  rintro e w1 ⟨s,rfl,hs,rfl⟩
  clear g1 g2 HB
  go_wp2_with fail
  go_ret
  exact ⟨_,rfl,by rw [ByteArray.size_append];show 1+s.size≤2;omega,rfl⟩
 ·have HB:=dr_write W (x - 2) (by omega)
  have g1:¬ (x:Int) - 2 < 0:=by omega
  obtain ⟨y,hy⟩:∃ y,y=x - 2:=⟨_,rfl⟩
  have e:(x:Int) - 2=(y:Int):=by omega
  have hy9:y < 9:=by omega
  rw [← hy] at HB
  rw [e] at g1 ⊢
  clear e hy h2
  go_enter Try.func111,Try.ntmps111
  go_wp2_with fail
  refine HB.mono ?_
  rintro e w1 ⟨s,rfl,hs,rfl⟩
  go_wp2_with fail
  go_ret
  exact ⟨s,rfl,by omega,rfl⟩
def DrT (b:Nat) (p:Option Addr) (c m B n:Nat) (W:World) (e:Ending) (w':World):Prop:=∃ s:ByteArray,e = .returned (.string s)∧s.size≤n∧CU b p c m B w'∧Kg b W w'
theorem cu_num {b : Nat} {p : Option Addr} {c m B : Nat} {W : World} (h : CU b p c m B W) (hB : B + 2 ≤ 1000000) :
  Calls Try.prog 105 #[.pointer (some ⟨b,0,none⟩)] W (DrT b p c m (B+2) 2 W):=by
 have HB:=cu_pick h 9 (by omega) (by omega) hB
 have HA:Hid (∀ (x:Nat) (W1:World),x < 9→Calls Try.prog 111 #[.int .i64 ((x:Int) - 2),.int .i64 10] W1 (TxA 2 W1)):=(fun x W1 hx=>dr_int W1 x hx:∀ (x:Nat) (W1:World),_)
 clear h
 go_enter Try.func105,Try.ntmps105
 go_wp2_with fail
 refine HB.mono ?_
 rintro e w1 ⟨⟨x,hx,rfl⟩,z1,z2⟩
 have HA1:=(show ∀ (x:Nat) (W1:World),_ from HA) x w1 hx
 have HZ:Hid (CU b p c m (B+2) w1∧Kg b W w1):=(⟨z1,z2⟩:_∧_)
 have hw:IntKind.i64.wrap ((x:Int) - 2)=(x:Int) - 2:=by rw [IntKind.wrap_i64];omega
 clear HA HB z1 z2
 go_wp2_with fail
 refine HA1.mono ?_
 rintro e w2 ⟨s,rfl,hs,rfl⟩
 clear HA1
 go_wp2_with fail
 go_ret
 exact ⟨s,rfl,hs,(show _∧_ from HZ).1,(show _∧_ from HZ).2⟩
theorem dr_one (w:World) (x:Nat) (hx:x < 256):∃ o:ByteArray,o.size=1∧(convert 22 9 (.slice (some ⟨w.heap.size,0,none⟩) 1 1)).run Try.prog (w.alloc (.cells #[.int .u8 (x:Int)] 5)) = .ok (.string o) (w.alloc (.cells #[.int .u8 (x:Int)] 5)):=by
 refine ⟨⟨[UInt8.ofNat x].toArray⟩,rfl,?_⟩
 exact run_convert_bytes_back (P:=Try.prog) (w.alloc (.cells #[.int .u8 (x:Int)] 5)) 22 9 5 ⟨w.heap.size,0,none⟩ 1 [UInt8.ofNat x] Try.underlying22 Try.underlying5 Try.underlying9 (fun j hj=>by
  have hj0:j=0:=by simp at hj;omega
  subst hj0
  have:=qr_cells w #[.int .u8 (x:Int)] 5 [.int .u8 (x:Int)] rfl 0 _ rfl
  rw [this]
  simp [Nat.mod_eq_of_lt hx])
theorem cu_var {b : Nat} {p : Option Addr} {c m B : Nat} {W : World} (h : CU b p c m B W) (hB : B + 2 ≤ 1000000) :
  Calls Try.prog 87 #[.pointer (some ⟨b,0,none⟩)] W (DrT b p c m (B+2) 1 W):=by
 have HB:=cu_pick h 3 (by omega) (by omega) hB
 clear h
 go_enter Try.func87,Try.ntmps87
 go_wp2_with fail
 refine HB.mono ?_
 rintro e w1 ⟨⟨x,hx,rfl⟩,z1,z2⟩
 have HZ:Hid (CU b p c m (B+2) w1∧Kg b W w1):=(⟨z1,z2⟩:_∧_)
 have hw:IntKind.i64.wrap (97+(x:Int))=((97+x:Nat):Int):=by rw [IntKind.wrap_i64];omega
 have hw8:IntKind.u8.wrap ((97+x:Nat):Int)=((97+x:Nat):Int):=by rw [IntKind.wrap_u8];omega
 have hq:((97+x:Nat):Int)=97+(x:Int):=by omega
 obtain ⟨o,ho,hcv⟩:=dr_one w1 (97+x) (by omega)
 rw [hq] at hcv hw8
 have HK:Hid (Kb 0 w1 (w1.alloc (.cells #[.int .u8 (97+(x:Int))] 5))):=kb_alloc _ _ _
 clear HB z1 z2 hq
 go_wp2_with fail
 go_ret
 exact ⟨o,rfl,by omega,(show _∧_ from HZ).1.kb HK,(show _∧_ from HZ).2.trans (Kg.of_kb HK)⟩
def DrS (b:Nat) (p:Option Addr) (c m B:Nat) (W:World) (e:Ending) (w':World):Prop:=∃ (k f l:Nat) (s:ByteArray),e = .returned (.agg #[.int .i64 (k:Int),.int .i64 (f:Int),.int .i64 (l:Int),.string s])∧k≤4∧f≤20∧l≤80∧s.size≤1∧CU b p c m B w'∧Kg b W w'
theorem CU.fin {b:Nat} {p:Option Addr} {c m B B' q:Nat} {W w wS:World} (h:CU b p c m B W) (hW:Kg b W w) (hC:CU b p c m B' w) (z:Kz q w wS) (hq:q=W.heap.size):CU b p c m B' wS∧Kg b W wS:=by
 have hb:=h.lt
 have hz:wS.heap.size=w.heap.size:=z.size
 have k:Kg b W wS:=⟨z.os.trans hW.os,z.output.trans hW.output,by rw [hz];exact hW.size,fun i h1 h2=>(z.block i (by omega)).trans (hW.block i h1 h2)⟩
 obtain ⟨k1,s1,e1,e2,e3⟩:=hC.blk
 exact ⟨h.kz k k1 s1 ((z.block b (by omega)).trans e1) e2 e3,k⟩
theorem cu_stop {b : Nat} {p : Option Addr} {c m B : Nat} {W : World} (h : CU b p c m B W) (hB : B + 8 ≤ 1000000) :
  Calls Try.prog 53 #[.pointer (some ⟨b,0,none⟩)] W (DrS b p c m (B+8) W):=by
 have HA:Hid (∀ (n B1:Nat) (W1:World),CU b p c m B1 W1→0 < n→n≤1048576→B1+2≤1000000→Calls Try.prog 27 #[.pointer (some ⟨b,0,none⟩),.int .i64 (n:Int)] W1 fun e w'=>(∃ x:Nat,x < n∧e = .returned (.int .i64 (x:Int)))∧CU b p c m (B1+2) w'∧Kg b W1 w'):=(fun n B1 W1 h1 h2 h3 h4=>cu_pick h1 n h2 h3 h4:∀ (n B1:Nat) (W1:World),_)
 have HV:Hid (∀ (B1:Nat) (W1:World),CU b p c m B1 W1→B1+2≤1000000→Calls Try.prog 87 #[.pointer (some ⟨b,0,none⟩)] W1 (DrT b p c m (B1+2) 1 W1)):=(fun B1 W1 h1 h2=>cu_var h1 h2:∀ (B1:Nat) (W1:World),_)
 have HH:Hid (CU b p c m B W):=h
 clear h
 go_enter Try.func53,Try.ntmps53
 go_upto_region 1 with fail
 obtain ⟨q,hq⟩:∃ q,q=W.heap.size:=⟨_,rfl⟩
 obtain ⟨w0,hw0⟩:∃ w0,w0=W.alloc (.cells #[.int .i64 0,.int .i64 0,.int .i64 0,.string ⟨#[]⟩] 38):=⟨_,rfl⟩
 have hK:Kb 0 W w0:=by rw [hw0];exact kb_alloc _ _ _
 have hC0:CU b p c m B w0:=(show CU b p c m B W from HH).kb hK
 have hQ0:w0.heap[q]? = some (.cells #[.int .i64 0,.int .i64 0,.int .i64 0,.string ⟨#[]⟩] 38 (0,0)):=by rw [hw0,hq];exact alloc_new _ _ _
 have hqb:q ≠ b:=by rw [hq];exact Nat.ne_of_gt (show CU b p c m B W from HH).lt
 have hqz0:q < w0.heap.size:=(Array.getElem?_eq_some_iff.1 hQ0).1
 have HG0:Hid (Kg b W w0):=Kg.of_kb hK
 have HF:Hid (∀ (B':Nat) (w wS:World),Kg b W w→CU b p c m B' w→Kz q w wS→CU b p c m B' wS∧Kg b W wS):=(fun B' w wS h1 h2 h3=>(show CU b p c m B W from HH).fin h1 h2 h3 hq:∀ (B':Nat) (w wS:World),_)
 rw [← hw0,← hq]
 clear hw0 hq hK HH
 have HP1:=(show ∀ (n B1:Nat) (W1:World),CU b p c m B1 W1→0 < n→n≤1048576→B1+2≤1000000→Calls Try.prog 27 #[.pointer (some ⟨b,0,none⟩),.int .i64 (n:Int)] W1 fun e w'=>(∃ x:Nat,x < n∧e = .returned (.int .i64 (x:Int)))∧CU b p c m (B1+2) w'∧Kg b W1 w' from HA) 2 (B) w0 hC0 (by omega) (by omega) (by omega)
 go_wp2_with fail
 refine HP1.mono ?_
 rintro e w1 ⟨⟨x,hx,rfl⟩,hC1,hk1⟩
 clear HP1
 have HP2:=(show ∀ (n B1:Nat) (W1:World),CU b p c m B1 W1→0 < n→n≤1048576→B1+2≤1000000→Calls Try.prog 27 #[.pointer (some ⟨b,0,none⟩),.int .i64 (n:Int)] W1 fun e w'=>(∃ x:Nat,x < n∧e = .returned (.int .i64 (x:Int)))∧CU b p c m (B1+2) w'∧Kg b W1 w' from HA) 5 (B+2) w1 hC1 (by omega) (by omega) (by omega)
 go_wp2_with fail
 refine HP2.mono ?_
 rintro e w2 ⟨⟨y,hy,rfl⟩,hC2,hk2⟩
 clear HP2
 have hz:x*y≤4:=by
  have h1:x*y≤1*4:=Nat.mul_le_mul (by omega) (by omega)
  omega
 obtain ⟨z,hzz⟩:∃ z,z=x*y:=⟨_,rfl⟩
 have hmul:(x:Int)*(y:Int)=(z:Int):=by rw [hzz];push_cast;rfl
 rw [← hzz] at hz
 have hadd:IntKind.i64.wrap (11+(z:Int))=11+(z:Int):=by rw [IntKind.wrap_i64];omega
 clear hzz
 have HP3:=(show ∀ (n B1:Nat) (W1:World),CU b p c m B1 W1→0 < n→n≤1048576→B1+2≤1000000→Calls Try.prog 27 #[.pointer (some ⟨b,0,none⟩),.int .i64 (n:Int)] W1 fun e w'=>(∃ x:Nat,x < n∧e = .returned (.int .i64 (x:Int)))∧CU b p c m (B1+2) w'∧Kg b W1 w' from HA) 6 (B+2+2) w2 hC2 (by omega) (by omega) (by omega)
 go_wp2_with fail
 refine HP3.mono ?_
 rintro e w3 ⟨⟨v,hv,rfl⟩,hC3,hk3⟩
 clear HP3
 have hk13:Kg b w0 w3:=(hk1.trans hk2).trans hk3
 have hQ3:w3.heap[q]? = some (.cells #[.int .i64 0,.int .i64 0,.int .i64 0,.string ⟨#[]⟩] 38 (0,0)):=(hk13.block q hqz0 hqb).trans hQ0
 have hqz3:q < w3.heap.size:=(Array.getElem?_eq_some_iff.1 hQ3).1
 have HG3:Hid (Kg b W w3):=(show Kg b W w0 from HG0).trans hk13
 clear hk1 hk2 hk3 hk13 hC0 hC1 hC2 hQ0 HG0 hx hy hmul hqz0
 rcases (by omega:v=0∨v=1∨v=2∨v=3∨v=4∨v=5) with rfl | rfl | rfl | rfl | rfl | rfl
 ·have HP4:=(show ∀ (n B1:Nat) (W1:World),CU b p c m B1 W1→0 < n→n≤1048576→B1+2≤1000000→Calls Try.prog 27 #[.pointer (some ⟨b,0,none⟩),.int .i64 (n:Int)] W1 fun e w'=>(∃ x:Nat,x < n∧e = .returned (.int .i64 (x:Int)))∧CU b p c m (B1+2) w'∧Kg b W1 w' from HA) 8 (B+2+2+2) w3 hC3 (by omega) (by omega) (by omega)
  have HC3:Hid (CU b p c m (B+2+2+2) w3):=hC3
  clear hC3
  go_wp2_with fail
  refine HP4.mono ?_
  rintro e w4 ⟨⟨l,hl,rfl⟩,hC4,hk4⟩
  have hQ:w4.heap[q]? = some (.cells #[.int .i64 0,.int .i64 0,.int .i64 0,.string ⟨#[]⟩] 38 (0,0)):=(hk4.block q hqz3 hqb).trans hQ3
  have HG:Hid (Kg b W w4):=(show Kg b W w3 from HG3).trans hk4
  have hadl:IntKind.i64.wrap (71+(l:Int))=71+(l:Int):=by rw [IntKind.wrap_i64];omega
  have cq0:w4.cell? ⟨q,0,none⟩=some (.int .i64 0):=cell_of hQ rfl
  have fq0:w4.frozen? ⟨q,0,none⟩=false:=frozen_of hQ
  have cq1:w4.cell? ⟨q,1,none⟩=some (.int .i64 0):=cell_of hQ rfl
  have fq1:w4.frozen? ⟨q,1,none⟩=false:=frozen_of hQ
  have cq2:w4.cell? ⟨q,2,none⟩=some (.int .i64 0):=cell_of hQ rfl
  have fq2:w4.frozen? ⟨q,2,none⟩=false:=frozen_of hQ
  have cq3:w4.cell? ⟨q,3,none⟩=some (.string ⟨#[]⟩):=cell_of hQ rfl
  have fq3:w4.frozen? ⟨q,3,none⟩=false:=frozen_of hQ
  have HC4:Hid (CU b p c m (B+2+2+2+2) w4):=hC4
  have HQH:Hid (w4.heap[q]? = some (.cells #[.int .i64 0,.int .i64 0,.int .i64 0,.string ⟨#[]⟩] 38 (0,0))):=hQ
  clear HP4 hQ hQ3 hC4 hk4
  go_wp2_with fail
  obtain ⟨wS,hwS⟩:∃ wS,wS=(((w4.setCell ⟨q,0,none⟩ (.int .i64 1)).setCell ⟨q,1,none⟩ (.int .i64 (11+(z:Int)))).setCell ⟨q,2,none⟩ (.int .i64 (71+(l:Int)))).setCell ⟨q,3,none⟩ (.string ⟨#[]⟩):=⟨_,rfl⟩
  have zS:Kz q w4 wS:=by rw [hwS];exact ((((Kz.refl q w4).set 0 _).set 1 _).set 2 _).set 3 _
  have hQS:wS.heap[q]? = some (.cells #[.int .i64 1,.int .i64 (11+(z:Int)),.int .i64 (71+(l:Int)),(.string ⟨#[]⟩)] 38 (0,0)):=by rw [hwS,set_known _ (set_known _ (set_known _ (set_known _ (show w4.heap[q]? = _ from HQH))))];rfl
  have g0:wS.cell? ⟨q,0,none⟩=some _:=cell_of hQS rfl
  have g1:wS.cell? ⟨q,1,none⟩=some _:=cell_of hQS rfl
  have g2:wS.cell? ⟨q,2,none⟩=some _:=cell_of hQS rfl
  have g3:wS.cell? ⟨q,3,none⟩=some _:=cell_of hQS rfl
  rw [← hwS]
  clear hwS hQS
  refine bodyPost_ret (v:=.agg #[.int .i64 1,.int .i64 (11+(z:Int)),.int .i64 (71+(l:Int)),(.string ⟨#[]⟩)]) (by simp [results,Try.results53,go_sem,g0,g1,g2,g3]) rfl ?_
  obtain ⟨r1,r2⟩:=(show ∀ (B':Nat) (w wS:World),_ from HF) (B+2+2+2+2) w4 wS HG HC4 zS
  exact ⟨1,11+z,71+l,⟨#[]⟩,rfl,by omega,by omega,by omega,by first | decide | omega,r1.mono (by omega),r2⟩
 ·have HP4:=(show ∀ (n B1:Nat) (W1:World),CU b p c m B1 W1→0 < n→n≤1048576→B1+2≤1000000→Calls Try.prog 27 #[.pointer (some ⟨b,0,none⟩),.int .i64 (n:Int)] W1 fun e w'=>(∃ x:Nat,x < n∧e = .returned (.int .i64 (x:Int)))∧CU b p c m (B1+2) w'∧Kg b W1 w' from HA) 8 (B+2+2+2) w3 hC3 (by omega) (by omega) (by omega)
  have HC3:Hid (CU b p c m (B+2+2+2) w3):=hC3
  clear hC3
  go_wp2_with fail
  refine HP4.mono ?_
  rintro e w4 ⟨⟨l,hl,rfl⟩,hC4,hk4⟩
  have hQ:w4.heap[q]? = some (.cells #[.int .i64 0,.int .i64 0,.int .i64 0,.string ⟨#[]⟩] 38 (0,0)):=(hk4.block q hqz3 hqb).trans hQ3
  have HG:Hid (Kg b W w4):=(show Kg b W w3 from HG3).trans hk4
  have hadl:IntKind.i64.wrap (71+(l:Int))=71+(l:Int):=by rw [IntKind.wrap_i64];omega
  have cq0:w4.cell? ⟨q,0,none⟩=some (.int .i64 0):=cell_of hQ rfl
  have fq0:w4.frozen? ⟨q,0,none⟩=false:=frozen_of hQ
  have cq1:w4.cell? ⟨q,1,none⟩=some (.int .i64 0):=cell_of hQ rfl
  have fq1:w4.frozen? ⟨q,1,none⟩=false:=frozen_of hQ
  have cq2:w4.cell? ⟨q,2,none⟩=some (.int .i64 0):=cell_of hQ rfl
  have fq2:w4.frozen? ⟨q,2,none⟩=false:=frozen_of hQ
  have cq3:w4.cell? ⟨q,3,none⟩=some (.string ⟨#[]⟩):=cell_of hQ rfl
  have fq3:w4.frozen? ⟨q,3,none⟩=false:=frozen_of hQ
  have HC4:Hid (CU b p c m (B+2+2+2+2) w4):=hC4
  have HQH:Hid (w4.heap[q]? = some (.cells #[.int .i64 0,.int .i64 0,.int .i64 0,.string ⟨#[]⟩] 38 (0,0))):=hQ
  clear HP4 hQ hQ3 hC4 hk4
  go_wp2_with fail
  obtain ⟨wS,hwS⟩:∃ wS,wS=(((w4.setCell ⟨q,0,none⟩ (.int .i64 1)).setCell ⟨q,1,none⟩ (.int .i64 (11+(z:Int)))).setCell ⟨q,2,none⟩ (.int .i64 (71+(l:Int)))).setCell ⟨q,3,none⟩ (.string ⟨#[]⟩):=⟨_,rfl⟩
  have zS:Kz q w4 wS:=by rw [hwS];exact ((((Kz.refl q w4).set 0 _).set 1 _).set 2 _).set 3 _
  have hQS:wS.heap[q]? = some (.cells #[.int .i64 1,.int .i64 (11+(z:Int)),.int .i64 (71+(l:Int)),(.string ⟨#[]⟩)] 38 (0,0)):=by rw [hwS,set_known _ (set_known _ (set_known _ (set_known _ (show w4.heap[q]? = _ from HQH))))];rfl
  have g0:wS.cell? ⟨q,0,none⟩=some _:=cell_of hQS rfl
  have g1:wS.cell? ⟨q,1,none⟩=some _:=cell_of hQS rfl
  have g2:wS.cell? ⟨q,2,none⟩=some _:=cell_of hQS rfl
  have g3:wS.cell? ⟨q,3,none⟩=some _:=cell_of hQS rfl
  rw [← hwS]
  clear hwS hQS
  refine bodyPost_ret (v:=.agg #[.int .i64 1,.int .i64 (11+(z:Int)),.int .i64 (71+(l:Int)),(.string ⟨#[]⟩)]) (by simp [results,Try.results53,go_sem,g0,g1,g2,g3]) rfl ?_
  obtain ⟨r1,r2⟩:=(show ∀ (B':Nat) (w wS:World),_ from HF) (B+2+2+2+2) w4 wS HG HC4 zS
  exact ⟨1,11+z,71+l,⟨#[]⟩,rfl,by omega,by omega,by omega,by first | decide | omega,r1.mono (by omega),r2⟩
 ·have HG:Hid (Kg b W w3):=HG3
  have hQ:=hQ3
  have cq0:w3.cell? ⟨q,0,none⟩=some (.int .i64 0):=cell_of hQ rfl
  have fq0:w3.frozen? ⟨q,0,none⟩=false:=frozen_of hQ
  have cq1:w3.cell? ⟨q,1,none⟩=some (.int .i64 0):=cell_of hQ rfl
  have fq1:w3.frozen? ⟨q,1,none⟩=false:=frozen_of hQ
  have cq2:w3.cell? ⟨q,2,none⟩=some (.int .i64 0):=cell_of hQ rfl
  have fq2:w3.frozen? ⟨q,2,none⟩=false:=frozen_of hQ
  have cq3:w3.cell? ⟨q,3,none⟩=some (.string ⟨#[]⟩):=cell_of hQ rfl
  have fq3:w3.frozen? ⟨q,3,none⟩=false:=frozen_of hQ
  have HC3:Hid (CU b p c m (B+2+2+2) w3):=hC3
  have HQH:Hid (w3.heap[q]? = some (.cells #[.int .i64 0,.int .i64 0,.int .i64 0,.string ⟨#[]⟩] 38 (0,0))):=hQ
  clear hQ hQ3 hC3
  go_wp2_with fail
  obtain ⟨wS,hwS⟩:∃ wS,wS=(((w3.setCell ⟨q,0,none⟩ (.int .i64 2)).setCell ⟨q,1,none⟩ (.int .i64 (11+(z:Int)))).setCell ⟨q,2,none⟩ (.int .i64 (0))).setCell ⟨q,3,none⟩ (.string ⟨#[]⟩):=⟨_,rfl⟩
  have zS:Kz q w3 wS:=by rw [hwS];exact ((((Kz.refl q w3).set 0 _).set 1 _).set 2 _).set 3 _
  have hQS:wS.heap[q]? = some (.cells #[.int .i64 2,.int .i64 (11+(z:Int)),.int .i64 (0),(.string ⟨#[]⟩)] 38 (0,0)):=by rw [hwS,set_known _ (set_known _ (set_known _ (set_known _ (show w3.heap[q]? = _ from HQH))))];rfl
  have g0:wS.cell? ⟨q,0,none⟩=some _:=cell_of hQS rfl
  have g1:wS.cell? ⟨q,1,none⟩=some _:=cell_of hQS rfl
  have g2:wS.cell? ⟨q,2,none⟩=some _:=cell_of hQS rfl
  have g3:wS.cell? ⟨q,3,none⟩=some _:=cell_of hQS rfl
  rw [← hwS]
  clear hwS hQS
  refine bodyPost_ret (v:=.agg #[.int .i64 2,.int .i64 (11+(z:Int)),.int .i64 (0),(.string ⟨#[]⟩)]) (by simp [results,Try.results53,go_sem,g0,g1,g2,g3]) rfl ?_
  obtain ⟨r1,r2⟩:=(show ∀ (B':Nat) (w wS:World),_ from HF) (B+2+2+2) w3 wS HG HC3 zS
  exact ⟨2,11+z,0,⟨#[]⟩,rfl,by omega,by omega,by omega,by first | decide | omega,r1.mono (by omega),r2⟩
 ·have HP4:=(show ∀ (B1:Nat) (W1:World),_ from HV) (B+2+2+2) w3 hC3 (by omega)
  have HC3:Hid (CU b p c m (B+2+2+2) w3):=hC3
  clear hC3
  go_wp2_with fail
  refine HP4.mono ?_
  rintro e w4 ⟨s,rfl,hs,hC4,hk4⟩
  have hQ:w4.heap[q]? = some (.cells #[.int .i64 0,.int .i64 0,.int .i64 0,.string ⟨#[]⟩] 38 (0,0)):=(hk4.block q hqz3 hqb).trans hQ3
  have HG:Hid (Kg b W w4):=(show Kg b W w3 from HG3).trans hk4
  have cq0:w4.cell? ⟨q,0,none⟩=some (.int .i64 0):=cell_of hQ rfl
  have fq0:w4.frozen? ⟨q,0,none⟩=false:=frozen_of hQ
  have cq1:w4.cell? ⟨q,1,none⟩=some (.int .i64 0):=cell_of hQ rfl
  have fq1:w4.frozen? ⟨q,1,none⟩=false:=frozen_of hQ
  have cq2:w4.cell? ⟨q,2,none⟩=some (.int .i64 0):=cell_of hQ rfl
  have fq2:w4.frozen? ⟨q,2,none⟩=false:=frozen_of hQ
  have cq3:w4.cell? ⟨q,3,none⟩=some (.string ⟨#[]⟩):=cell_of hQ rfl
  have fq3:w4.frozen? ⟨q,3,none⟩=false:=frozen_of hQ
  have HC4:Hid (CU b p c m (B+2+2+2+2) w4):=hC4
  have HQH:Hid (w4.heap[q]? = some (.cells #[.int .i64 0,.int .i64 0,.int .i64 0,.string ⟨#[]⟩] 38 (0,0))):=hQ
  clear HP4 hQ hQ3 hC4 hk4
  go_wp2_with fail
  obtain ⟨wS,hwS⟩:∃ wS,wS=(((w4.setCell ⟨q,0,none⟩ (.int .i64 3)).setCell ⟨q,1,none⟩ (.int .i64 (11+(z:Int)))).setCell ⟨q,2,none⟩ (.int .i64 (0))).setCell ⟨q,3,none⟩ (.string s):=⟨_,rfl⟩
  have zS:Kz q w4 wS:=by rw [hwS];exact ((((Kz.refl q w4).set 0 _).set 1 _).set 2 _).set 3 _
  have hQS:wS.heap[q]? = some (.cells #[.int .i64 3,.int .i64 (11+(z:Int)),.int .i64 (0),(.string s)] 38 (0,0)):=by rw [hwS,set_known _ (set_known _ (set_known _ (set_known _ (show w4.heap[q]? = _ from HQH))))];rfl
  have g0:wS.cell? ⟨q,0,none⟩=some _:=cell_of hQS rfl
  have g1:wS.cell? ⟨q,1,none⟩=some _:=cell_of hQS rfl
  have g2:wS.cell? ⟨q,2,none⟩=some _:=cell_of hQS rfl
  have g3:wS.cell? ⟨q,3,none⟩=some _:=cell_of hQS rfl
  rw [← hwS]
  clear hwS hQS
  refine bodyPost_ret (v:=.agg #[.int .i64 3,.int .i64 (11+(z:Int)),.int .i64 (0),(.string s)]) (by simp [results,Try.results53,go_sem,g0,g1,g2,g3]) rfl ?_
  obtain ⟨r1,r2⟩:=(show ∀ (B':Nat) (w wS:World),_ from HF) (B+2+2+2+2) w4 wS HG HC4 zS
  exact ⟨3,11+z,0,s,rfl,by omega,by omega,by omega,by first | decide | omega,r1.mono (by omega),r2⟩
 ·have HP4:=(show ∀ (B1:Nat) (W1:World),_ from HV) (B+2+2+2) w3 hC3 (by omega)
  have HC3:Hid (CU b p c m (B+2+2+2) w3):=hC3
  clear hC3
  go_wp2_with fail
  refine HP4.mono ?_
  rintro e w4 ⟨s,rfl,hs,hC4,hk4⟩
  have hQ:w4.heap[q]? = some (.cells #[.int .i64 0,.int .i64 0,.int .i64 0,.string ⟨#[]⟩] 38 (0,0)):=(hk4.block q hqz3 hqb).trans hQ3
  have HG:Hid (Kg b W w4):=(show Kg b W w3 from HG3).trans hk4
  have cq0:w4.cell? ⟨q,0,none⟩=some (.int .i64 0):=cell_of hQ rfl
  have fq0:w4.frozen? ⟨q,0,none⟩=false:=frozen_of hQ
  have cq1:w4.cell? ⟨q,1,none⟩=some (.int .i64 0):=cell_of hQ rfl
  have fq1:w4.frozen? ⟨q,1,none⟩=false:=frozen_of hQ
  have cq2:w4.cell? ⟨q,2,none⟩=some (.int .i64 0):=cell_of hQ rfl
  have fq2:w4.frozen? ⟨q,2,none⟩=false:=frozen_of hQ
  have cq3:w4.cell? ⟨q,3,none⟩=some (.string ⟨#[]⟩):=cell_of hQ rfl
  have fq3:w4.frozen? ⟨q,3,none⟩=false:=frozen_of hQ
  have HC4:Hid (CU b p c m (B+2+2+2+2) w4):=hC4
  have HQH:Hid (w4.heap[q]? = some (.cells #[.int .i64 0,.int .i64 0,.int .i64 0,.string ⟨#[]⟩] 38 (0,0))):=hQ
  clear HP4 hQ hQ3 hC4 hk4
  go_wp2_with fail
  obtain ⟨wS,hwS⟩:∃ wS,wS=(((w4.setCell ⟨q,0,none⟩ (.int .i64 3)).setCell ⟨q,1,none⟩ (.int .i64 (11+(z:Int)))).setCell ⟨q,2,none⟩ (.int .i64 (0))).setCell ⟨q,3,none⟩ (.string s):=⟨_,rfl⟩
  have zS:Kz q w4 wS:=by rw [hwS];exact ((((Kz.refl q w4).set 0 _).set 1 _).set 2 _).set 3 _
  have hQS:wS.heap[q]? = some (.cells #[.int .i64 3,.int .i64 (11+(z:Int)),.int .i64 (0),(.string s)] 38 (0,0)):=by rw [hwS,set_known _ (set_known _ (set_known _ (set_known _ (show w4.heap[q]? = _ from HQH))))];rfl
  have g0:wS.cell? ⟨q,0,none⟩=some _:=cell_of hQS rfl
  have g1:wS.cell? ⟨q,1,none⟩=some _:=cell_of hQS rfl
  have g2:wS.cell? ⟨q,2,none⟩=some _:=cell_of hQS rfl
  have g3:wS.cell? ⟨q,3,none⟩=some _:=cell_of hQS rfl
  rw [← hwS]
  clear hwS hQS
  refine bodyPost_ret (v:=.agg #[.int .i64 3,.int .i64 (11+(z:Int)),.int .i64 (0),(.string s)]) (by simp [results,Try.results53,go_sem,g0,g1,g2,g3]) rfl ?_
  obtain ⟨r1,r2⟩:=(show ∀ (B':Nat) (w wS:World),_ from HF) (B+2+2+2+2) w4 wS HG HC4 zS
  exact ⟨3,11+z,0,s,rfl,by omega,by omega,by omega,by first | decide | omega,r1.mono (by omega),r2⟩
 ·have HG:Hid (Kg b W w3):=HG3
  have hQ:=hQ3
  have cq0:w3.cell? ⟨q,0,none⟩=some (.int .i64 0):=cell_of hQ rfl
  have fq0:w3.frozen? ⟨q,0,none⟩=false:=frozen_of hQ
  have cq1:w3.cell? ⟨q,1,none⟩=some (.int .i64 0):=cell_of hQ rfl
  have fq1:w3.frozen? ⟨q,1,none⟩=false:=frozen_of hQ
  have cq2:w3.cell? ⟨q,2,none⟩=some (.int .i64 0):=cell_of hQ rfl
  have fq2:w3.frozen? ⟨q,2,none⟩=false:=frozen_of hQ
  have cq3:w3.cell? ⟨q,3,none⟩=some (.string ⟨#[]⟩):=cell_of hQ rfl
  have fq3:w3.frozen? ⟨q,3,none⟩=false:=frozen_of hQ
  have HC3:Hid (CU b p c m (B+2+2+2) w3):=hC3
  have HQH:Hid (w3.heap[q]? = some (.cells #[.int .i64 0,.int .i64 0,.int .i64 0,.string ⟨#[]⟩] 38 (0,0))):=hQ
  clear hQ hQ3 hC3
  go_wp2_with fail
  obtain ⟨wS,hwS⟩:∃ wS,wS=(((w3.setCell ⟨q,0,none⟩ (.int .i64 4)).setCell ⟨q,1,none⟩ (.int .i64 (0))).setCell ⟨q,2,none⟩ (.int .i64 (0))).setCell ⟨q,3,none⟩ (.string ⟨#[]⟩):=⟨_,rfl⟩
  have zS:Kz q w3 wS:=by rw [hwS];exact ((((Kz.refl q w3).set 0 _).set 1 _).set 2 _).set 3 _
  have hQS:wS.heap[q]? = some (.cells #[.int .i64 4,.int .i64 (0),.int .i64 (0),(.string ⟨#[]⟩)] 38 (0,0)):=by rw [hwS,set_known _ (set_known _ (set_known _ (set_known _ (show w3.heap[q]? = _ from HQH))))];rfl
  have g0:wS.cell? ⟨q,0,none⟩=some _:=cell_of hQS rfl
  have g1:wS.cell? ⟨q,1,none⟩=some _:=cell_of hQS rfl
  have g2:wS.cell? ⟨q,2,none⟩=some _:=cell_of hQS rfl
  have g3:wS.cell? ⟨q,3,none⟩=some _:=cell_of hQS rfl
  rw [← hwS]
  clear hwS hQS
  refine bodyPost_ret (v:=.agg #[.int .i64 4,.int .i64 (0),.int .i64 (0),(.string ⟨#[]⟩)]) (by simp [results,Try.results53,go_sem,g0,g1,g2,g3]) rfl ?_
  obtain ⟨r1,r2⟩:=(show ∀ (B':Nat) (w wS:World),_ from HF) (B+2+2+2) w3 wS HG HC3 zS
  exact ⟨4,0,0,⟨#[]⟩,rfl,by omega,by omega,by omega,by first | decide | omega,r1.mono (by omega),r2⟩
end Go.Proofs.Ytamcnmnaadpfoaa.Fo
