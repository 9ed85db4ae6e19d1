import Derived.Test.YtamcnmnaadpfoaaFXdp
set_option maxHeartbeats 8000000
namespace Go.Proofs.Ytamcnmnaadpfoaa.Fo
open Go.ChangeShapes Go.WideShapes Go.ChangeAt Go.RowKit
set_option linter.unusedVariables false
set_option maxRecDepth 100000
theorem cu_stim {b : Nat} {p : Option Addr} {c m B : Nat} {W : World} (h : CU b p c m B W) (hB : B + 8 ≤ 1000000) :
  Calls Try.prog 85 #[.pointer (some ⟨b,0,none⟩)] W (DrE b p c m (B+8) W):=by
 have HA:Hid (∀ (n B1:Nat) (W1:World),CU b p c m B1 W1→0 < n→n≤1048576→B1+2≤1000000→Calls Try.prog 27 #[.pointer (some ⟨b,0,none⟩),.int .i64 (n:Int)] W1 fun e w'=>(∃ x:Nat,x < n∧e = .returned (.int .i64 (x:Int)))∧CU b p c m (B1+2) w'∧Kg b W1 w'):=(fun n B1 W1 h1 h2 h3 h4=>cu_pick h1 n h2 h3 h4:∀ (n B1:Nat) (W1:World),_)
 have HN:Hid (∀ (B1:Nat) (W1:World),CU b p c m B1 W1→B1+2≤1000000→Calls Try.prog 105 #[.pointer (some ⟨b,0,none⟩)] W1 (DrT b p c m (B1+2) 2 W1)):=(fun B1 W1 h1 h2=>cu_num h1 h2:∀ (B1:Nat) (W1:World),_)
 have HH:Hid (CU b p c m B W):=h
 clear h
 go_enter Try.func85,Try.ntmps85
 go_upto_region 1 with fail
 obtain ⟨q,hq⟩:∃ q,q=W.heap.size:=⟨_,rfl⟩
 obtain ⟨w0,hw0⟩:∃ w0,w0=W.alloc (.cells #[.int .i64 0,.int .i64 0,.int .i64 0,.string ⟨#[]⟩,.string ⟨#[]⟩,.int .i64 0,.int .i64 0,.int .i64 0,.string ⟨#[]⟩,.slice none 0 0] 121):=⟨_,rfl⟩
 have hK:Kb 0 W w0:=by rw [hw0];exact kb_alloc _ _ _
 have hC0:CU b p c m B w0:=(show CU b p c m B W from HH).kb hK
 have hQ0:w0.heap[q]? = some (.cells #[.int .i64 0,.int .i64 0,.int .i64 0,.string ⟨#[]⟩,.string ⟨#[]⟩,.int .i64 0,.int .i64 0,.int .i64 0,.string ⟨#[]⟩,.slice none 0 0] 121 (0,0)):=by rw [hw0,hq];exact alloc_new _ _ _
 have hqb:q ≠ b:=by rw [hq];exact Nat.ne_of_gt (show CU b p c m B W from HH).lt
 have hqz0:q < w0.heap.size:=(Array.getElem?_eq_some_iff.1 hQ0).1
 have HG0:Hid (Kg b W w0):=Kg.of_kb hK
 have HF:Hid (∀ (B':Nat) (w wS:World),Kg b W w→CU b p c m B' w→Kz q w wS→CU b p c m B' wS∧Kg b W wS):=(fun B' w wS h1 h2 h3=>(show CU b p c m B W from HH).fin h1 h2 h3 hq:∀ (B':Nat) (w wS:World),_)
 rw [← hw0,← hq]
 clear hw0 hq hK HH
 have HP1:=(show ∀ (n B1:Nat) (W1:World),CU b p c m B1 W1→0 < n→n≤1048576→B1+2≤1000000→Calls Try.prog 27 #[.pointer (some ⟨b,0,none⟩),.int .i64 (n:Int)] W1 fun e w'=>(∃ x:Nat,x < n∧e = .returned (.int .i64 (x:Int)))∧CU b p c m (B1+2) w'∧Kg b W1 w' from HA) 8 B w0 hC0 (by omega) (by omega) (by omega)
 go_wp2_with fail
 refine HP1.mono ?_
 rintro e w1 ⟨⟨v,hv,rfl⟩,hC1,hk1⟩
 have hQ1:w1.heap[q]? = some (.cells #[.int .i64 0,.int .i64 0,.int .i64 0,.string ⟨#[]⟩,.string ⟨#[]⟩,.int .i64 0,.int .i64 0,.int .i64 0,.string ⟨#[]⟩,.slice none 0 0] 121 (0,0)):=(hk1.block q hqz0 hqb).trans hQ0
 have hqz1:q < w1.heap.size:=(Array.getElem?_eq_some_iff.1 hQ1).1
 have HG1:Hid (Kg b W w1):=(show Kg b W w0 from HG0).trans hk1
 clear HP1 hk1 hC0 hQ0 HG0 hqz0
 rcases (by omega:v=0∨v=1∨v=2∨v=3∨v=4∨v=5∨6≤v) with rfl | rfl | rfl | rfl | rfl | rfl | hv6
 ·have HG:Hid (Kg b W w1):=HG1
  have hQ:=hQ1
  have cq0:w1.cell? ⟨q,0,none⟩=some (.int .i64 0):=cell_of hQ rfl
  have fq0:w1.frozen? ⟨q,0,none⟩=false:=frozen_of hQ
  have cq1:w1.cell? ⟨q,1,none⟩=some (.int .i64 0):=cell_of hQ rfl
  have fq1:w1.frozen? ⟨q,1,none⟩=false:=frozen_of hQ
  have cq2:w1.cell? ⟨q,2,none⟩=some (.int .i64 0):=cell_of hQ rfl
  have fq2:w1.frozen? ⟨q,2,none⟩=false:=frozen_of hQ
  have cq3:w1.cell? ⟨q,3,none⟩=some (.string ⟨#[]⟩):=cell_of hQ rfl
  have fq3:w1.frozen? ⟨q,3,none⟩=false:=frozen_of hQ
  have cq4:w1.cell? ⟨q,4,none⟩=some (.string ⟨#[]⟩):=cell_of hQ rfl
  have fq4:w1.frozen? ⟨q,4,none⟩=false:=frozen_of hQ
  have cq5:w1.cell? ⟨q,5,none⟩=some (.int .i64 0):=cell_of hQ rfl
  have fq5:w1.frozen? ⟨q,5,none⟩=false:=frozen_of hQ
  have cq6:w1.cell? ⟨q,6,none⟩=some (.int .i64 0):=cell_of hQ rfl
  have fq6:w1.frozen? ⟨q,6,none⟩=false:=frozen_of hQ
  have cq7:w1.cell? ⟨q,7,none⟩=some (.int .i64 0):=cell_of hQ rfl
  have fq7:w1.frozen? ⟨q,7,none⟩=false:=frozen_of hQ
  have cq8:w1.cell? ⟨q,8,none⟩=some (.string ⟨#[]⟩):=cell_of hQ rfl
  have fq8:w1.frozen? ⟨q,8,none⟩=false:=frozen_of hQ
  have cq9:w1.cell? ⟨q,9,none⟩=some (.slice none 0 0):=cell_of hQ rfl
  have fq9:w1.frozen? ⟨q,9,none⟩=false:=frozen_of hQ
  have HCF:Hid (CU b p c m (B+2) w1):=hC1
  have HQH:Hid (w1.heap[q]? = some (.cells #[.int .i64 0,.int .i64 0,.int .i64 0,.string ⟨#[]⟩,.string ⟨#[]⟩,.int .i64 0,.int .i64 0,.int .i64 0,.string ⟨#[]⟩,.slice none 0 0] 121 (0,0))):=hQ
  clear hQ hQ1 hC1
  go_wp2_with fail
  obtain ⟨wS,hwS⟩:∃ wS,wS=((((((((((w1.setCell ⟨q,0,none⟩ (.int .i64 1)).setCell ⟨q,1,none⟩ (.int .i64 0)).setCell ⟨q,2,none⟩ (.int .i64 0)).setCell ⟨q,3,none⟩ (.string ⟨#[]⟩)).setCell ⟨q,4,none⟩ (.string ⟨#[]⟩)).setCell ⟨q,5,none⟩ (.int .i64 0)).setCell ⟨q,6,none⟩ (.int .i64 0)).setCell ⟨q,7,none⟩ (.int .i64 0)).setCell ⟨q,8,none⟩ (.string ⟨#[]⟩)).setCell ⟨q,9,none⟩ (.slice none 0 0)):=⟨_,rfl⟩
  have zS:Kz q w1 wS:=by rw [hwS];exact kz10 _ _ _ _ _ _ _ _ _ _
  have hQS:wS.heap[q]? = some (.cells #[.int .i64 1,.int .i64 0,.int .i64 0,.string ⟨#[]⟩,.string ⟨#[]⟩,.int .i64 0,.int .i64 0,.int .i64 0,.string ⟨#[]⟩,.slice none 0 0] 121 (0,0)):=by rw [hwS];exact set10 _ _ _ _ _ _ _ _ _ _ HQH
  have g0:wS.cell? ⟨q,0,none⟩=some _:=cell_of hQS rfl
  have g1:wS.cell? ⟨q,1,none⟩=some _:=cell_of hQS rfl
  have g2:wS.cell? ⟨q,2,none⟩=some _:=cell_of hQS rfl
  have g3:wS.cell? ⟨q,3,none⟩=some _:=cell_of hQS rfl
  have g4:wS.cell? ⟨q,4,none⟩=some _:=cell_of hQS rfl
  have g5:wS.cell? ⟨q,5,none⟩=some _:=cell_of hQS rfl
  have g6:wS.cell? ⟨q,6,none⟩=some _:=cell_of hQS rfl
  have g7:wS.cell? ⟨q,7,none⟩=some _:=cell_of hQS rfl
  have g8:wS.cell? ⟨q,8,none⟩=some _:=cell_of hQS rfl
  have g9:wS.cell? ⟨q,9,none⟩=some _:=cell_of hQS rfl
  rw [← hwS]
  clear hwS hQS
  refine bodyPost_ret (v:=.agg #[.int .i64 1,.int .i64 0,.int .i64 0,.string ⟨#[]⟩,.string ⟨#[]⟩,.int .i64 0,.int .i64 0,.int .i64 0,.string ⟨#[]⟩,.slice none 0 0]) (by simp [results,Try.results85,go_sem,g0,g1,g2,g3,g4,g5,g6,g7,g8,g9]) rfl ?_
  obtain ⟨r1,r2⟩:=(show ∀ (B':Nat) (w wS:World),_ from HF) (B+2) w1 wS HG HCF zS
  exact ⟨1,0,⟨#[]⟩,⟨#[]⟩,rfl,.inl ⟨rfl,rfl,rfl,rfl⟩,r1.mono (by omega),r2⟩
 ·have HG:Hid (Kg b W w1):=HG1
  have hQ:=hQ1
  have cq0:w1.cell? ⟨q,0,none⟩=some (.int .i64 0):=cell_of hQ rfl
  have fq0:w1.frozen? ⟨q,0,none⟩=false:=frozen_of hQ
  have cq1:w1.cell? ⟨q,1,none⟩=some (.int .i64 0):=cell_of hQ rfl
  have fq1:w1.frozen? ⟨q,1,none⟩=false:=frozen_of hQ
  have cq2:w1.cell? ⟨q,2,none⟩=some (.int .i64 0):=cell_of hQ rfl
  have fq2:w1.frozen? ⟨q,2,none⟩=false:=frozen_of hQ
  have cq3:w1.cell? ⟨q,3,none⟩=some (.string ⟨#[]⟩):=cell_of hQ rfl
  have fq3:w1.frozen? ⟨q,3,none⟩=false:=frozen_of hQ
  have cq4:w1.cell? ⟨q,4,none⟩=some (.string ⟨#[]⟩):=cell_of hQ rfl
  have fq4:w1.frozen? ⟨q,4,none⟩=false:=frozen_of hQ
  have cq5:w1.cell? ⟨q,5,none⟩=some (.int .i64 0):=cell_of hQ rfl
  have fq5:w1.frozen? ⟨q,5,none⟩=false:=frozen_of hQ
  have cq6:w1.cell? ⟨q,6,none⟩=some (.int .i64 0):=cell_of hQ rfl
  have fq6:w1.frozen? ⟨q,6,none⟩=false:=frozen_of hQ
  have cq7:w1.cell? ⟨q,7,none⟩=some (.int .i64 0):=cell_of hQ rfl
  have fq7:w1.frozen? ⟨q,7,none⟩=false:=frozen_of hQ
  have cq8:w1.cell? ⟨q,8,none⟩=some (.string ⟨#[]⟩):=cell_of hQ rfl
  have fq8:w1.frozen? ⟨q,8,none⟩=false:=frozen_of hQ
  have cq9:w1.cell? ⟨q,9,none⟩=some (.slice none 0 0):=cell_of hQ rfl
  have fq9:w1.frozen? ⟨q,9,none⟩=false:=frozen_of hQ
  have HCF:Hid (CU b p c m (B+2) w1):=hC1
  have HQH:Hid (w1.heap[q]? = some (.cells #[.int .i64 0,.int .i64 0,.int .i64 0,.string ⟨#[]⟩,.string ⟨#[]⟩,.int .i64 0,.int .i64 0,.int .i64 0,.string ⟨#[]⟩,.slice none 0 0] 121 (0,0))):=hQ
  clear hQ hQ1 hC1
  go_wp2_with fail
  obtain ⟨wS,hwS⟩:∃ wS,wS=((((((((((w1.setCell ⟨q,0,none⟩ (.int .i64 1)).setCell ⟨q,1,none⟩ (.int .i64 0)).setCell ⟨q,2,none⟩ (.int .i64 0)).setCell ⟨q,3,none⟩ (.string ⟨#[]⟩)).setCell ⟨q,4,none⟩ (.string ⟨#[]⟩)).setCell ⟨q,5,none⟩ (.int .i64 0)).setCell ⟨q,6,none⟩ (.int .i64 0)).setCell ⟨q,7,none⟩ (.int .i64 0)).setCell ⟨q,8,none⟩ (.string ⟨#[]⟩)).setCell ⟨q,9,none⟩ (.slice none 0 0)):=⟨_,rfl⟩
  have zS:Kz q w1 wS:=by rw [hwS];exact kz10 _ _ _ _ _ _ _ _ _ _
  have hQS:wS.heap[q]? = some (.cells #[.int .i64 1,.int .i64 0,.int .i64 0,.string ⟨#[]⟩,.string ⟨#[]⟩,.int .i64 0,.int .i64 0,.int .i64 0,.string ⟨#[]⟩,.slice none 0 0] 121 (0,0)):=by rw [hwS];exact set10 _ _ _ _ _ _ _ _ _ _ HQH
  have g0:wS.cell? ⟨q,0,none⟩=some _:=cell_of hQS rfl
  have g1:wS.cell? ⟨q,1,none⟩=some _:=cell_of hQS rfl
  have g2:wS.cell? ⟨q,2,none⟩=some _:=cell_of hQS rfl
  have g3:wS.cell? ⟨q,3,none⟩=some _:=cell_of hQS rfl
  have g4:wS.cell? ⟨q,4,none⟩=some _:=cell_of hQS rfl
  have g5:wS.cell? ⟨q,5,none⟩=some _:=cell_of hQS rfl
  have g6:wS.cell? ⟨q,6,none⟩=some _:=cell_of hQS rfl
  have g7:wS.cell? ⟨q,7,none⟩=some _:=cell_of hQS rfl
  have g8:wS.cell? ⟨q,8,none⟩=some _:=cell_of hQS rfl
  have g9:wS.cell? ⟨q,9,none⟩=some _:=cell_of hQS rfl
  rw [← hwS]
  clear hwS hQS
  refine bodyPost_ret (v:=.agg #[.int .i64 1,.int .i64 0,.int .i64 0,.string ⟨#[]⟩,.string ⟨#[]⟩,.int .i64 0,.int .i64 0,.int .i64 0,.string ⟨#[]⟩,.slice none 0 0]) (by simp [results,Try.results85,go_sem,g0,g1,g2,g3,g4,g5,g6,g7,g8,g9]) rfl ?_
  obtain ⟨r1,r2⟩:=(show ∀ (B':Nat) (w wS:World),_ from HF) (B+2) w1 wS HG HCF zS
  exact ⟨1,0,⟨#[]⟩,⟨#[]⟩,rfl,.inl ⟨rfl,rfl,rfl,rfl⟩,r1.mono (by omega),r2⟩
 ·have HG:Hid (Kg b W w1):=HG1
  have hQ:=hQ1
  have cq0:w1.cell? ⟨q,0,none⟩=some (.int .i64 0):=cell_of hQ rfl
  have fq0:w1.frozen? ⟨q,0,none⟩=false:=frozen_of hQ
  have cq1:w1.cell? ⟨q,1,none⟩=some (.int .i64 0):=cell_of hQ rfl
  have fq1:w1.frozen? ⟨q,1,none⟩=false:=frozen_of hQ
  have cq2:w1.cell? ⟨q,2,none⟩=some (.int .i64 0):=cell_of hQ rfl
  have fq2:w1.frozen? ⟨q,2,none⟩=false:=frozen_of hQ
  have cq3:w1.cell? ⟨q,3,none⟩=some (.string ⟨#[]⟩):=cell_of hQ rfl
  have fq3:w1.frozen? ⟨q,3,none⟩=false:=frozen_of hQ
  have cq4:w1.cell? ⟨q,4,none⟩=some (.string ⟨#[]⟩):=cell_of hQ rfl
  have fq4:w1.frozen? ⟨q,4,none⟩=false:=frozen_of hQ
  have cq5:w1.cell? ⟨q,5,none⟩=some (.int .i64 0):=cell_of hQ rfl
  have fq5:w1.frozen? ⟨q,5,none⟩=false:=frozen_of hQ
  have cq6:w1.cell? ⟨q,6,none⟩=some (.int .i64 0):=cell_of hQ rfl
  have fq6:w1.frozen? ⟨q,6,none⟩=false:=frozen_of hQ
  have cq7:w1.cell? ⟨q,7,none⟩=some (.int .i64 0):=cell_of hQ rfl
  have fq7:w1.frozen? ⟨q,7,none⟩=false:=frozen_of hQ
  have cq8:w1.cell? ⟨q,8,none⟩=some (.string ⟨#[]⟩):=cell_of hQ rfl
  have fq8:w1.frozen? ⟨q,8,none⟩=false:=frozen_of hQ
  have cq9:w1.cell? ⟨q,9,none⟩=some (.slice none 0 0):=cell_of hQ rfl
  have fq9:w1.frozen? ⟨q,9,none⟩=false:=frozen_of hQ
  have HCF:Hid (CU b p c m (B+2) w1):=hC1
  have HQH:Hid (w1.heap[q]? = some (.cells #[.int .i64 0,.int .i64 0,.int .i64 0,.string ⟨#[]⟩,.string ⟨#[]⟩,.int .i64 0,.int .i64 0,.int .i64 0,.string ⟨#[]⟩,.slice none 0 0] 121 (0,0))):=hQ
  clear hQ hQ1 hC1
  go_wp2_with fail
  obtain ⟨wS,hwS⟩:∃ wS,wS=((((((((((w1.setCell ⟨q,0,none⟩ (.int .i64 1)).setCell ⟨q,1,none⟩ (.int .i64 0)).setCell ⟨q,2,none⟩ (.int .i64 0)).setCell ⟨q,3,none⟩ (.string ⟨#[]⟩)).setCell ⟨q,4,none⟩ (.string ⟨#[]⟩)).setCell ⟨q,5,none⟩ (.int .i64 0)).setCell ⟨q,6,none⟩ (.int .i64 0)).setCell ⟨q,7,none⟩ (.int .i64 0)).setCell ⟨q,8,none⟩ (.string ⟨#[]⟩)).setCell ⟨q,9,none⟩ (.slice none 0 0)):=⟨_,rfl⟩
  have zS:Kz q w1 wS:=by rw [hwS];exact kz10 _ _ _ _ _ _ _ _ _ _
  have hQS:wS.heap[q]? = some (.cells #[.int .i64 1,.int .i64 0,.int .i64 0,.string ⟨#[]⟩,.string ⟨#[]⟩,.int .i64 0,.int .i64 0,.int .i64 0,.string ⟨#[]⟩,.slice none 0 0] 121 (0,0)):=by rw [hwS];exact set10 _ _ _ _ _ _ _ _ _ _ HQH
  have g0:wS.cell? ⟨q,0,none⟩=some _:=cell_of hQS rfl
  have g1:wS.cell? ⟨q,1,none⟩=some _:=cell_of hQS rfl
  have g2:wS.cell? ⟨q,2,none⟩=some _:=cell_of hQS rfl
  have g3:wS.cell? ⟨q,3,none⟩=some _:=cell_of hQS rfl
  have g4:wS.cell? ⟨q,4,none⟩=some _:=cell_of hQS rfl
  have g5:wS.cell? ⟨q,5,none⟩=some _:=cell_of hQS rfl
  have g6:wS.cell? ⟨q,6,none⟩=some _:=cell_of hQS rfl
  have g7:wS.cell? ⟨q,7,none⟩=some _:=cell_of hQS rfl
  have g8:wS.cell? ⟨q,8,none⟩=some _:=cell_of hQS rfl
  have g9:wS.cell? ⟨q,9,none⟩=some _:=cell_of hQS rfl
  rw [← hwS]
  clear hwS hQS
  refine bodyPost_ret (v:=.agg #[.int .i64 1,.int .i64 0,.int .i64 0,.string ⟨#[]⟩,.string ⟨#[]⟩,.int .i64 0,.int .i64 0,.int .i64 0,.string ⟨#[]⟩,.slice none 0 0]) (by simp [results,Try.results85,go_sem,g0,g1,g2,g3,g4,g5,g6,g7,g8,g9]) rfl ?_
  obtain ⟨r1,r2⟩:=(show ∀ (B':Nat) (w wS:World),_ from HF) (B+2) w1 wS HG HCF zS
  exact ⟨1,0,⟨#[]⟩,⟨#[]⟩,rfl,.inl ⟨rfl,rfl,rfl,rfl⟩,r1.mono (by omega),r2⟩
 ·have HP:=(show ∀ (n B1:Nat) (W1:World),CU b p c m B1 W1→0 < n→n≤1048576→B1+2≤1000000→Calls Try.prog 27 #[.pointer (some ⟨b,0,none⟩),.int .i64 (n:Int)] W1 fun e w'=>(∃ x:Nat,x < n∧e = .returned (.int .i64 (x:Int)))∧CU b p c m (B1+2) w'∧Kg b W1 w' from HA) 5 (B+2) w1 hC1 (by omega) (by omega) (by omega)
  clear hC1
  go_wp2_with fail
  refine HP.mono ?_
  rintro e w2 ⟨⟨n,hn,rfl⟩,hC2,hk2⟩
  have hQ:w2.heap[q]? = some (.cells #[.int .i64 0,.int .i64 0,.int .i64 0,.string ⟨#[]⟩,.string ⟨#[]⟩,.int .i64 0,.int .i64 0,.int .i64 0,.string ⟨#[]⟩,.slice none 0 0] 121 (0,0)):=(hk2.block q hqz1 hqb).trans hQ1
  have HG:Hid (Kg b W w2):=(show Kg b W w1 from HG1).trans hk2
  have cq0:w2.cell? ⟨q,0,none⟩=some (.int .i64 0):=cell_of hQ rfl
  have fq0:w2.frozen? ⟨q,0,none⟩=false:=frozen_of hQ
  have cq1:w2.cell? ⟨q,1,none⟩=some (.int .i64 0):=cell_of hQ rfl
  have fq1:w2.frozen? ⟨q,1,none⟩=false:=frozen_of hQ
  have cq2:w2.cell? ⟨q,2,none⟩=some (.int .i64 0):=cell_of hQ rfl
  have fq2:w2.frozen? ⟨q,2,none⟩=false:=frozen_of hQ
  have cq3:w2.cell? ⟨q,3,none⟩=some (.string ⟨#[]⟩):=cell_of hQ rfl
  have fq3:w2.frozen? ⟨q,3,none⟩=false:=frozen_of hQ
  have cq4:w2.cell? ⟨q,4,none⟩=some (.string ⟨#[]⟩):=cell_of hQ rfl
  have fq4:w2.frozen? ⟨q,4,none⟩=false:=frozen_of hQ
  have cq5:w2.cell? ⟨q,5,none⟩=some (.int .i64 0):=cell_of hQ rfl
  have fq5:w2.frozen? ⟨q,5,none⟩=false:=frozen_of hQ
  have cq6:w2.cell? ⟨q,6,none⟩=some (.int .i64 0):=cell_of hQ rfl
  have fq6:w2.frozen? ⟨q,6,none⟩=false:=frozen_of hQ
  have cq7:w2.cell? ⟨q,7,none⟩=some (.int .i64 0):=cell_of hQ rfl
  have fq7:w2.frozen? ⟨q,7,none⟩=false:=frozen_of hQ
  have cq8:w2.cell? ⟨q,8,none⟩=some (.string ⟨#[]⟩):=cell_of hQ rfl
  have fq8:w2.frozen? ⟨q,8,none⟩=false:=frozen_of hQ
  have cq9:w2.cell? ⟨q,9,none⟩=some (.slice none 0 0):=cell_of hQ rfl
  have fq9:w2.frozen? ⟨q,9,none⟩=false:=frozen_of hQ
  have HCF:Hid (CU b p c m (B+2+2) w2):=hC2
  have HQH:Hid (w2.heap[q]? = some (.cells #[.int .i64 0,.int .i64 0,.int .i64 0,.string ⟨#[]⟩,.string ⟨#[]⟩,.int .i64 0,.int .i64 0,.int .i64 0,.string ⟨#[]⟩,.slice none 0 0] 121 (0,0))):=hQ
  clear HP hQ hQ1 hC2 hk2
  go_wp2_with fail
  obtain ⟨wS,hwS⟩:∃ wS,wS=((((((((((w2.setCell ⟨q,0,none⟩ (.int .i64 3)).setCell ⟨q,1,none⟩ (.int .i64 (n:Int))).setCell ⟨q,2,none⟩ (.int .i64 0)).setCell ⟨q,3,none⟩ (.string ⟨#[]⟩)).setCell ⟨q,4,none⟩ (.string ⟨#[]⟩)).setCell ⟨q,5,none⟩ (.int .i64 0)).setCell ⟨q,6,none⟩ (.int .i64 0)).setCell ⟨q,7,none⟩ (.int .i64 0)).setCell ⟨q,8,none⟩ (.string ⟨#[]⟩)).setCell ⟨q,9,none⟩ (.slice none 0 0)):=⟨_,rfl⟩
  have zS:Kz q w2 wS:=by rw [hwS];exact kz10 _ _ _ _ _ _ _ _ _ _
  have hQS:wS.heap[q]? = some (.cells #[.int .i64 3,.int .i64 (n:Int),.int .i64 0,.string ⟨#[]⟩,.string ⟨#[]⟩,.int .i64 0,.int .i64 0,.int .i64 0,.string ⟨#[]⟩,.slice none 0 0] 121 (0,0)):=by rw [hwS];exact set10 _ _ _ _ _ _ _ _ _ _ HQH
  have g0:wS.cell? ⟨q,0,none⟩=some _:=cell_of hQS rfl
  have g1:wS.cell? ⟨q,1,none⟩=some _:=cell_of hQS rfl
  have g2:wS.cell? ⟨q,2,none⟩=some _:=cell_of hQS rfl
  have g3:wS.cell? ⟨q,3,none⟩=some _:=cell_of hQS rfl
  have g4:wS.cell? ⟨q,4,none⟩=some _:=cell_of hQS rfl
  have g5:wS.cell? ⟨q,5,none⟩=some _:=cell_of hQS rfl
  have g6:wS.cell? ⟨q,6,none⟩=some _:=cell_of hQS rfl
  have g7:wS.cell? ⟨q,7,none⟩=some _:=cell_of hQS rfl
  have g8:wS.cell? ⟨q,8,none⟩=some _:=cell_of hQS rfl
  have g9:wS.cell? ⟨q,9,none⟩=some _:=cell_of hQS rfl
  rw [← hwS]
  clear hwS hQS
  refine bodyPost_ret (v:=.agg #[.int .i64 3,.int .i64 (n:Int),.int .i64 0,.string ⟨#[]⟩,.string ⟨#[]⟩,.int .i64 0,.int .i64 0,.int .i64 0,.string ⟨#[]⟩,.slice none 0 0]) (by simp [results,Try.results85,go_sem,g0,g1,g2,g3,g4,g5,g6,g7,g8,g9]) rfl ?_
  obtain ⟨r1,r2⟩:=(show ∀ (B':Nat) (w wS:World),_ from HF) (B+2+2) w2 wS HG HCF zS
  exact ⟨3,n,⟨#[]⟩,⟨#[]⟩,rfl,.inr (.inr (.inl ⟨rfl,by omega,rfl,rfl⟩)),r1.mono (by omega),r2⟩
 ·have HP:=(show ∀ (n B1:Nat) (W1:World),CU b p c m B1 W1→0 < n→n≤1048576→B1+2≤1000000→Calls Try.prog 27 #[.pointer (some ⟨b,0,none⟩),.int .i64 (n:Int)] W1 fun e w'=>(∃ x:Nat,x < n∧e = .returned (.int .i64 (x:Int)))∧CU b p c m (B1+2) w'∧Kg b W1 w' from HA) 5 (B+2) w1 hC1 (by omega) (by omega) (by omega)
  clear hC1
  go_wp2_with fail
  refine HP.mono ?_
  rintro e w2 ⟨⟨n,hn,rfl⟩,hC2,hk2⟩
  have hQ:w2.heap[q]? = some (.cells #[.int .i64 0,.int .i64 0,.int .i64 0,.string ⟨#[]⟩,.string ⟨#[]⟩,.int .i64 0,.int .i64 0,.int .i64 0,.string ⟨#[]⟩,.slice none 0 0] 121 (0,0)):=(hk2.block q hqz1 hqb).trans hQ1
  have HG:Hid (Kg b W w2):=(show Kg b W w1 from HG1).trans hk2
  have cq0:w2.cell? ⟨q,0,none⟩=some (.int .i64 0):=cell_of hQ rfl
  have fq0:w2.frozen? ⟨q,0,none⟩=false:=frozen_of hQ
  have cq1:w2.cell? ⟨q,1,none⟩=some (.int .i64 0):=cell_of hQ rfl
  have fq1:w2.frozen? ⟨q,1,none⟩=false:=frozen_of hQ
  have cq2:w2.cell? ⟨q,2,none⟩=some (.int .i64 0):=cell_of hQ rfl
  have fq2:w2.frozen? ⟨q,2,none⟩=false:=frozen_of hQ
  have cq3:w2.cell? ⟨q,3,none⟩=some (.string ⟨#[]⟩):=cell_of hQ rfl
  have fq3:w2.frozen? ⟨q,3,none⟩=false:=frozen_of hQ
  have cq4:w2.cell? ⟨q,4,none⟩=some (.string ⟨#[]⟩):=cell_of hQ rfl
  have fq4:w2.frozen? ⟨q,4,none⟩=false:=frozen_of hQ
  have cq5:w2.cell? ⟨q,5,none⟩=some (.int .i64 0):=cell_of hQ rfl
  have fq5:w2.frozen? ⟨q,5,none⟩=false:=frozen_of hQ
  have cq6:w2.cell? ⟨q,6,none⟩=some (.int .i64 0):=cell_of hQ rfl
  have fq6:w2.frozen? ⟨q,6,none⟩=false:=frozen_of hQ
  have cq7:w2.cell? ⟨q,7,none⟩=some (.int .i64 0):=cell_of hQ rfl
  have fq7:w2.frozen? ⟨q,7,none⟩=false:=frozen_of hQ
  have cq8:w2.cell? ⟨q,8,none⟩=some (.string ⟨#[]⟩):=cell_of hQ rfl
  have fq8:w2.frozen? ⟨q,8,none⟩=false:=frozen_of hQ
  have cq9:w2.cell? ⟨q,9,none⟩=some (.slice none 0 0):=cell_of hQ rfl
  have fq9:w2.frozen? ⟨q,9,none⟩=false:=frozen_of hQ
  have HCF:Hid (CU b p c m (B+2+2) w2):=hC2
  have HQH:Hid (w2.heap[q]? = some (.cells #[.int .i64 0,.int .i64 0,.int .i64 0,.string ⟨#[]⟩,.string ⟨#[]⟩,.int .i64 0,.int .i64 0,.int .i64 0,.string ⟨#[]⟩,.slice none 0 0] 121 (0,0))):=hQ
  clear HP hQ hQ1 hC2 hk2
  go_wp2_with fail
  obtain ⟨wS,hwS⟩:∃ wS,wS=((((((((((w2.setCell ⟨q,0,none⟩ (.int .i64 3)).setCell ⟨q,1,none⟩ (.int .i64 (n:Int))).setCell ⟨q,2,none⟩ (.int .i64 0)).setCell ⟨q,3,none⟩ (.string ⟨#[]⟩)).setCell ⟨q,4,none⟩ (.string ⟨#[]⟩)).setCell ⟨q,5,none⟩ (.int .i64 0)).setCell ⟨q,6,none⟩ (.int .i64 0)).setCell ⟨q,7,none⟩ (.int .i64 0)).setCell ⟨q,8,none⟩ (.string ⟨#[]⟩)).setCell ⟨q,9,none⟩ (.slice none 0 0)):=⟨_,rfl⟩
  have zS:Kz q w2 wS:=by rw [hwS];exact kz10 _ _ _ _ _ _ _ _ _ _
  have hQS:wS.heap[q]? = some (.cells #[.int .i64 3,.int .i64 (n:Int),.int .i64 0,.string ⟨#[]⟩,.string ⟨#[]⟩,.int .i64 0,.int .i64 0,.int .i64 0,.string ⟨#[]⟩,.slice none 0 0] 121 (0,0)):=by rw [hwS];exact set10 _ _ _ _ _ _ _ _ _ _ HQH
  have g0:wS.cell? ⟨q,0,none⟩=some _:=cell_of hQS rfl
  have g1:wS.cell? ⟨q,1,none⟩=some _:=cell_of hQS rfl
  have g2:wS.cell? ⟨q,2,none⟩=some _:=cell_of hQS rfl
  have g3:wS.cell? ⟨q,3,none⟩=some _:=cell_of hQS rfl
  have g4:wS.cell? ⟨q,4,none⟩=some _:=cell_of hQS rfl
  have g5:wS.cell? ⟨q,5,none⟩=some _:=cell_of hQS rfl
  have g6:wS.cell? ⟨q,6,none⟩=some _:=cell_of hQS rfl
  have g7:wS.cell? ⟨q,7,none⟩=some _:=cell_of hQS rfl
  have g8:wS.cell? ⟨q,8,none⟩=some _:=cell_of hQS rfl
  have g9:wS.cell? ⟨q,9,none⟩=some _:=cell_of hQS rfl
  rw [← hwS]
  clear hwS hQS
  refine bodyPost_ret (v:=.agg #[.int .i64 3,.int .i64 (n:Int),.int .i64 0,.string ⟨#[]⟩,.string ⟨#[]⟩,.int .i64 0,.int .i64 0,.int .i64 0,.string ⟨#[]⟩,.slice none 0 0]) (by simp [results,Try.results85,go_sem,g0,g1,g2,g3,g4,g5,g6,g7,g8,g9]) rfl ?_
  obtain ⟨r1,r2⟩:=(show ∀ (B':Nat) (w wS:World),_ from HF) (B+2+2) w2 wS HG HCF zS
  exact ⟨3,n,⟨#[]⟩,⟨#[]⟩,rfl,.inr (.inr (.inl ⟨rfl,by omega,rfl,rfl⟩)),r1.mono (by omega),r2⟩
 ·have HP:=(show ∀ (B1:Nat) (W1:World),CU b p c m B1 W1→B1+2≤1000000→Calls Try.prog 105 #[.pointer (some ⟨b,0,none⟩)] W1 (DrT b p c m (B1+2) 2 W1) from HN) (B+2) w1 hC1 (by omega)
  clear hC1
  go_wp2_with fail
  refine HP.mono ?_
  rintro e w2 ⟨s,rfl,hs,hC2,hk2⟩
  have hQ:w2.heap[q]? = some (.cells #[.int .i64 0,.int .i64 0,.int .i64 0,.string ⟨#[]⟩,.string ⟨#[]⟩,.int .i64 0,.int .i64 0,.int .i64 0,.string ⟨#[]⟩,.slice none 0 0] 121 (0,0)):=(hk2.block q hqz1 hqb).trans hQ1
  have HG:Hid (Kg b W w2):=(show Kg b W w1 from HG1).trans hk2
  have hso:(⟨#[105,110]⟩ ++ s:ByteArray).size≤4:=by rw [ByteArray.size_append];show 2+s.size≤4;omega
  obtain ⟨so,hsoe⟩:∃ so,so=(⟨#[105,110]⟩ ++ s:ByteArray):=⟨_,rfl⟩
  have cq0:w2.cell? ⟨q,0,none⟩=some (.int .i64 0):=cell_of hQ rfl
  have fq0:w2.frozen? ⟨q,0,none⟩=false:=frozen_of hQ
  have cq1:w2.cell? ⟨q,1,none⟩=some (.int .i64 0):=cell_of hQ rfl
  have fq1:w2.frozen? ⟨q,1,none⟩=false:=frozen_of hQ
  have cq2:w2.cell? ⟨q,2,none⟩=some (.int .i64 0):=cell_of hQ rfl
  have fq2:w2.frozen? ⟨q,2,none⟩=false:=frozen_of hQ
  have cq3:w2.cell? ⟨q,3,none⟩=some (.string ⟨#[]⟩):=cell_of hQ rfl
  have fq3:w2.frozen? ⟨q,3,none⟩=false:=frozen_of hQ
  have cq4:w2.cell? ⟨q,4,none⟩=some (.string ⟨#[]⟩):=cell_of hQ rfl
  have fq4:w2.frozen? ⟨q,4,none⟩=false:=frozen_of hQ
  have cq5:w2.cell? ⟨q,5,none⟩=some (.int .i64 0):=cell_of hQ rfl
  have fq5:w2.frozen? ⟨q,5,none⟩=false:=frozen_of hQ
  have cq6:w2.cell? ⟨q,6,none⟩=some (.int .i64 0):=cell_of hQ rfl
  have fq6:w2.frozen? ⟨q,6,none⟩=false:=frozen_of hQ
  have cq7:w2.cell? ⟨q,7,none⟩=some (.int .i64 0):=cell_of hQ rfl
  have fq7:w2.frozen? ⟨q,7,none⟩=false:=frozen_of hQ
  have cq8:w2.cell? ⟨q,8,none⟩=some (.string ⟨#[]⟩):=cell_of hQ rfl
  have fq8:w2.frozen? ⟨q,8,none⟩=false:=frozen_of hQ
  have cq9:w2.cell? ⟨q,9,none⟩=some (.slice none 0 0):=cell_of hQ rfl
  have fq9:w2.frozen? ⟨q,9,none⟩=false:=frozen_of hQ
  have HCF:Hid (CU b p c m (B+2+2) w2):=hC2
  have HQH:Hid (w2.heap[q]? = some (.cells #[.int .i64 0,.int .i64 0,.int .i64 0,.string ⟨#[]⟩,.string ⟨#[]⟩,.int .i64 0,.int .i64 0,.int .i64 0,.string ⟨#[]⟩,.slice none 0 0] 121 (0,0))):=hQ
  clear HP hQ hQ1 hC2 hk2
  go_wp2_with fail
  rw [← hsoe] at hso ⊢
  clear hsoe
  obtain ⟨wS,hwS⟩:∃ wS,wS=((((((((((w2.setCell ⟨q,0,none⟩ (.int .i64 2)).setCell ⟨q,1,none⟩ (.int .i64 0)).setCell ⟨q,2,none⟩ (.int .i64 0)).setCell ⟨q,3,none⟩ (.string ⟨#[]⟩)).setCell ⟨q,4,none⟩ (.string so)).setCell ⟨q,5,none⟩ (.int .i64 0)).setCell ⟨q,6,none⟩ (.int .i64 0)).setCell ⟨q,7,none⟩ (.int .i64 0)).setCell ⟨q,8,none⟩ (.string ⟨#[]⟩)).setCell ⟨q,9,none⟩ (.slice none 0 0)):=⟨_,rfl⟩
  have zS:Kz q w2 wS:=by rw [hwS];exact kz10 _ _ _ _ _ _ _ _ _ _
  have hQS:wS.heap[q]? = some (.cells #[.int .i64 2,.int .i64 0,.int .i64 0,.string ⟨#[]⟩,.string so,.int .i64 0,.int .i64 0,.int .i64 0,.string ⟨#[]⟩,.slice none 0 0] 121 (0,0)):=by rw [hwS];exact set10 _ _ _ _ _ _ _ _ _ _ HQH
  have g0:wS.cell? ⟨q,0,none⟩=some _:=cell_of hQS rfl
  have g1:wS.cell? ⟨q,1,none⟩=some _:=cell_of hQS rfl
  have g2:wS.cell? ⟨q,2,none⟩=some _:=cell_of hQS rfl
  have g3:wS.cell? ⟨q,3,none⟩=some _:=cell_of hQS rfl
  have g4:wS.cell? ⟨q,4,none⟩=some _:=cell_of hQS rfl
  have g5:wS.cell? ⟨q,5,none⟩=some _:=cell_of hQS rfl
  have g6:wS.cell? ⟨q,6,none⟩=some _:=cell_of hQS rfl
  have g7:wS.cell? ⟨q,7,none⟩=some _:=cell_of hQS rfl
  have g8:wS.cell? ⟨q,8,none⟩=some _:=cell_of hQS rfl
  have g9:wS.cell? ⟨q,9,none⟩=some _:=cell_of hQS rfl
  rw [← hwS]
  clear hwS hQS
  refine bodyPost_ret (v:=.agg #[.int .i64 2,.int .i64 0,.int .i64 0,.string ⟨#[]⟩,.string so,.int .i64 0,.int .i64 0,.int .i64 0,.string ⟨#[]⟩,.slice none 0 0]) (by simp [results,Try.results85,go_sem,g0,g1,g2,g3,g4,g5,g6,g7,g8,g9]) rfl ?_
  obtain ⟨r1,r2⟩:=(show ∀ (B':Nat) (w wS:World),_ from HF) (B+2+2) w2 wS HG HCF zS
  exact ⟨2,0,⟨#[]⟩,so,rfl,.inr (.inl ⟨rfl,rfl,rfl,hso⟩),r1.mono (by omega),r2⟩
 ·have e0:¬ (v:Int)=0:=by omega
  have e1:¬ (v:Int)=1:=by omega
  have e2:¬ (v:Int)=2:=by omega
  have e3:¬ (v:Int)=3:=by omega
  have e4:¬ (v:Int)=4:=by omega
  have e5:¬ (v:Int)=5:=by omega
  have HC1:Hid (CU b p c m (B+2) w1):=hC1
  have HQ1:Hid (w1.heap[q]? = some (.cells #[.int .i64 0,.int .i64 0,.int .i64 0,.string ⟨#[]⟩,.string ⟨#[]⟩,.int .i64 0,.int .i64 0,.int .i64 0,.string ⟨#[]⟩,.slice none 0 0] 121 (0,0))):=hQ1
  clear hC1 hQ1 hv6
  go_upto_region 11 with fail
  clear e0 e1 e2 e3 e4 e5
  refine AnyL.region (S:=fun _=>True) (z:=9) (by kernel_rfl) ?_
  obtain ⟨wd,hwd⟩:∃ wd,wd=w1.drew:=⟨_,rfl⟩
  rw [← hwd]
  have kgd:Kg b w1 wd:=by rw [hwd];exact Kg.of_kb (Kb.drew (Kb.refl _ _))
  have HCd:Hid (CU b p c m (B+2) wd):=by rw [hwd];exact (show CU b p c m (B+2) w1 from HC1).kb (Kb.drew (Kb.refl _ _))
  clear hwd
  have HG1:Hid (Kg b W wd):=(show Kg b W w1 from HG1).trans kgd
  have hQ2:Hid (wd.heap[q]? = some (.cells #[.int .i64 0,.int .i64 0,.int .i64 0,.string ⟨#[]⟩,.string ⟨#[]⟩,.int .i64 0,.int .i64 0,.int .i64 0,.string ⟨#[]⟩,.slice none 0 0] 121 (0,0))):=(kgd.block q (Array.getElem?_eq_some_iff.1 (show w1.heap[q]? = _ from HQ1)).1 hqb).trans (show w1.heap[q]? = _ from HQ1)
  clear kgd
  refine AnyL.takeAt 0 (.pointer (some ⟨b,0,none⟩)) rfl (by kernel_rfl) (by kernel_rfl) (by kernel_rfl) (by kernel_rfl) (fun _ _ _ h=>h) rfl trivial (by intro W' hW;go_simp) ?_
  try simp only [Act.put,List.setIfInBounds_toArray,List.set_cons_zero,List.set_cons_succ]
  refine AnyL.takeAt 6 (.pointer (some ⟨b,0,none⟩)) rfl (by kernel_rfl) (by kernel_rfl) (by kernel_rfl) (by kernel_rfl) (fun _ _ _ h=>h) rfl trivial (by intro W' hW;go_simp) ?_
  try simp only [Act.put,List.setIfInBounds_toArray,List.set_cons_zero,List.set_cons_succ]
  refine AnyL.oneAt 1 rfl (by kernel_rfl) rfl ?_
  intro K hK
  go_simp
  refine ((show ∀ (n B1:Nat) (W1:World),CU b p c m B1 W1→0 < n→n≤1048576→B1+2≤1000000→Calls Try.prog 27 #[.pointer (some ⟨b,0,none⟩),.int .i64 (n:Int)] W1 fun e w'=>(∃ x:Nat,x < n∧e = .returned (.int .i64 (x:Int)))∧CU b p c m (B1+2) w'∧Kg b W1 w' from HA) 3 (B+2) wd HCd (by omega) (by omega) (by omega)).mono ?_
  rintro e w2 ⟨⟨x,hx,rfl⟩,hCn,kg2⟩
  have HC2:Hid (CU b p c m (B+2+2) w2):=hCn
  clear hCn
  have HG3:Hid (Kg b W w2):=(show Kg b W wd from HG1).trans kg2
  have hQ4:Hid (w2.heap[q]? = some (.cells #[.int .i64 0,.int .i64 0,.int .i64 0,.string ⟨#[]⟩,.string ⟨#[]⟩,.int .i64 0,.int .i64 0,.int .i64 0,.string ⟨#[]⟩,.slice none 0 0] 121 (0,0))):=(kg2.block q (Array.getElem?_eq_some_iff.1 (show wd.heap[q]? = _ from hQ2)).1 hqb).trans (show wd.heap[q]? = _ from hQ2)
  clear kg2
  refine hK.out _ _ (fun _=>trivial) ?_
  clear hK K
  try simp only [Act.put,List.setIfInBounds_toArray,List.set_cons_zero,List.set_cons_succ]
  have hw:IntKind.i64.wrap (112+(x:Int))=112+(x:Int):=by rw [IntKind.wrap_i64];omega
  have hw8:IntKind.u8.wrap (112+(x:Int))=112+(x:Int):=by rw [IntKind.wrap_u8];omega
  refine AnyL.takeAt 2 (.int .i64 (112+(x:Int))) rfl (by kernel_rfl) (by kernel_rfl) (by kernel_rfl) (by kernel_rfl) (fun _ _ _ h=>h) rfl trivial (by intro W' hW;go_simp) ?_
  try simp only [Act.put,List.setIfInBounds_toArray,List.set_cons_zero,List.set_cons_succ]
  refine AnyL.takeAt 3 (.int .u8 (112+(x:Int))) rfl (by kernel_rfl) (by kernel_rfl) (by kernel_rfl) (by kernel_rfl) (fun _ _ _ h=>h) rfl trivial (by intro W' hW;go_simp) ?_
  try simp only [Act.put,List.setIfInBounds_toArray,List.set_cons_zero,List.set_cons_succ]
  clear hw hw8
  refine AnyL.two 4 7 rfl rfl (by kernel_rfl) rfl rfl ?_ ?_
  ·intro K hK
   go_simp
   obtain ⟨Z6,hZe⟩:∃ Z,Z=w2.heap.size:=⟨_,rfl⟩
   obtain ⟨wa5,hWe⟩:∃ Wn,Wn=w2.alloc (.cells #[.int .u8 (112+(x:Int))] 5):=⟨_,rfl⟩
   have kg7k:Kb 0 w2 wa5:=by rw [hWe];exact kb_alloc _ _ _
   have kg7:Kg b w2 wa5:=Kg.of_kb kg7k
   have HC8:Hid (CU b p c m (B+2+2) wa5):=(show CU b p c m (B+2+2) w2 from HC2).kb kg7k
   have hZ9:Hid (wa5.heap[Z6]? = some (.cells #[.int .u8 (112+(x:Int))] 5 (0,0))∧Z6 ≠ b):=(⟨by rw [hWe,hZe];exact alloc_new _ _ _,by rw [hZe];exact Nat.ne_of_gt (show CU b p c m (B+2+2) w2 from HC2).lt⟩:_∧_)
   have HG10:Hid (Kg b W wa5):=(show Kg b W w2 from HG3).trans kg7
   have hQ11:Hid (wa5.heap[q]? = some (.cells #[.int .i64 0,.int .i64 0,.int .i64 0,.string ⟨#[]⟩,.string ⟨#[]⟩,.int .i64 0,.int .i64 0,.int .i64 0,.string ⟨#[]⟩,.slice none 0 0] 121 (0,0))):=(kg7.block q (Array.getElem?_eq_some_iff.1 (show w2.heap[q]? = _ from hQ4)).1 hqb).trans (show w2.heap[q]? = _ from hQ4)
   have hWd:w2.alloc (.cells #[.int .u8 (112+(x:Int))] 5)=wa5:=hWe.symm
   have hZd:w2.heap.size=Z6:=hZe.symm
   try simp only [hWd]
   try rw [hWd]
   try rw [hZd]
   clear hWe hZe hWd hZd kg7 kg7k
   refine hK.out _ _ (fun _=>trivial) ?_
   clear hK K
   try simp only [Act.put,List.setIfInBounds_toArray,List.set_cons_zero,List.set_cons_succ]
   refine AnyL.two 5 7 rfl rfl (by kernel_rfl) rfl rfl ?_ ?_
   ·intro K hK
    have hcv:=dr_conv (w:=wa5) (Z:=Z6) (x:=112+x) (by omega) (by have:=(show _∧_ from hZ9).1;rw [show ((112+x:Nat):Int)=112+(x:Int) by omega];exact this)
    go_simp
    clear hcv
    refine hK.out _ _ (fun _=>trivial) ?_
    clear hK K
    try simp only [Act.put,List.setIfInBounds_toArray,List.set_cons_zero,List.set_cons_succ]
    refine AnyL.oneAt 7 rfl (by kernel_rfl) rfl ?_
    intro K hK
    go_simp
    refine ((show ∀ (B1:Nat) (W1:World),CU b p c m B1 W1→B1+2≤1000000→Calls Try.prog 105 #[.pointer (some ⟨b,0,none⟩)] W1 (DrT b p c m (B1+2) 2 W1) from HN) (B+2+2) wa5 HC8 (by omega)).mono ?_
    rintro e wn12 ⟨s,rfl,hs,hCn,kg13⟩
    have HC14:Hid (CU b p c m (B+2+2+2) wn12):=hCn
    clear hCn
    have HG15:Hid (Kg b W wn12):=(show Kg b W wa5 from HG10).trans kg13
    have hQ16:Hid (wn12.heap[q]? = some (.cells #[.int .i64 0,.int .i64 0,.int .i64 0,.string ⟨#[]⟩,.string ⟨#[]⟩,.int .i64 0,.int .i64 0,.int .i64 0,.string ⟨#[]⟩,.slice none 0 0] 121 (0,0))):=(kg13.block q (Array.getElem?_eq_some_iff.1 (show wa5.heap[q]? = _ from hQ11)).1 hqb).trans (show wa5.heap[q]? = _ from hQ11)
    have hZ17:Hid (wn12.heap[Z6]? = some (.cells #[.int .u8 (112+(x:Int))] 5 (0,0))∧Z6 ≠ b):=(⟨(kg13.block Z6 (Array.getElem?_eq_some_iff.1 (show _∧_ from hZ9).1).1 (show _∧_ from hZ9).2).trans (show _∧_ from hZ9).1,(show _∧_ from hZ9).2⟩:_∧_)
    clear kg13
    refine hK.out _ _ (fun _=>trivial) ?_
    clear hK K
    try simp only [Act.put,List.setIfInBounds_toArray,List.set_cons_zero,List.set_cons_succ]
    refine AnyL.takeAt 8 (.agg #[.int .i64 4,.int .i64 0,.int .i64 0,.string (o1 (112+x)),.string s,.int .i64 0,.int .i64 0,.int .i64 0,.string ⟨#[]⟩,.slice none 0 0]) rfl (by kernel_rfl) (by kernel_rfl) (by kernel_rfl) (by kernel_rfl) (fun _ _ _ h=>h) rfl trivial (by intro W' hW;go_simp) ?_
    try simp only [Act.put,List.setIfInBounds_toArray,List.set_cons_zero,List.set_cons_succ]
    refine AnyL.oneAt 9 rfl (by kernel_rfl) rfl ?_
    intro K hK
    have hQ:=(show wn12.heap[q]? = _ from hQ16)
    have cq0:wn12.cell? ⟨q,0,none⟩=some (.int .i64 0):=cell_of hQ rfl
    have fq0:wn12.frozen? ⟨q,0,none⟩=false:=frozen_of hQ
    have cq1:wn12.cell? ⟨q,1,none⟩=some (.int .i64 0):=cell_of hQ rfl
    have fq1:wn12.frozen? ⟨q,1,none⟩=false:=frozen_of hQ
    have cq2:wn12.cell? ⟨q,2,none⟩=some (.int .i64 0):=cell_of hQ rfl
    have fq2:wn12.frozen? ⟨q,2,none⟩=false:=frozen_of hQ
    have cq3:wn12.cell? ⟨q,3,none⟩=some (.string ⟨#[]⟩):=cell_of hQ rfl
    have fq3:wn12.frozen? ⟨q,3,none⟩=false:=frozen_of hQ
    have cq4:wn12.cell? ⟨q,4,none⟩=some (.string ⟨#[]⟩):=cell_of hQ rfl
    have fq4:wn12.frozen? ⟨q,4,none⟩=false:=frozen_of hQ
    have cq5:wn12.cell? ⟨q,5,none⟩=some (.int .i64 0):=cell_of hQ rfl
    have fq5:wn12.frozen? ⟨q,5,none⟩=false:=frozen_of hQ
    have cq6:wn12.cell? ⟨q,6,none⟩=some (.int .i64 0):=cell_of hQ rfl
    have fq6:wn12.frozen? ⟨q,6,none⟩=false:=frozen_of hQ
    have cq7:wn12.cell? ⟨q,7,none⟩=some (.int .i64 0):=cell_of hQ rfl
    have fq7:wn12.frozen? ⟨q,7,none⟩=false:=frozen_of hQ
    have cq8:wn12.cell? ⟨q,8,none⟩=some (.string ⟨#[]⟩):=cell_of hQ rfl
    have fq8:wn12.frozen? ⟨q,8,none⟩=false:=frozen_of hQ
    have cq9:wn12.cell? ⟨q,9,none⟩=some (.slice none 0 0):=cell_of hQ rfl
    have fq9:wn12.frozen? ⟨q,9,none⟩=false:=frozen_of hQ
    have HG:Hid (Kg b W wn12):=HG15
    have HQH:Hid (wn12.heap[q]? = some (.cells #[.int .i64 0,.int .i64 0,.int .i64 0,.string ⟨#[]⟩,.string ⟨#[]⟩,.int .i64 0,.int .i64 0,.int .i64 0,.string ⟨#[]⟩,.slice none 0 0] 121 (0,0))):=hQ16
    have HCF:Hid (CU b p c m (B+2+2+2) wn12):=HC14
    clear hQ
    go_simp
    refine hK.out _ _ (fun h=>absurd rfl h) ?_
    clear hK K
    try simp only [Act.put,List.setIfInBounds_toArray,List.set_cons_zero,List.set_cons_succ]
    refine AnyL.done (by kernel_rfl) ?_
    have ho1:=o1_size (112+x)
    obtain ⟨so,hso⟩:∃ so,so=o1 (112+x):=⟨_,rfl⟩
    rw [← hso] at ho1 ⊢
    clear hso
    go_wp2_with fail
    obtain ⟨wS,hwS⟩:∃ wS,wS=((((((((((wn12.setCell ⟨q,0,none⟩ (.int .i64 4)).setCell ⟨q,1,none⟩ (.int .i64 0)).setCell ⟨q,2,none⟩ (.int .i64 0)).setCell ⟨q,3,none⟩ (.string so)).setCell ⟨q,4,none⟩ (.string s)).setCell ⟨q,5,none⟩ (.int .i64 0)).setCell ⟨q,6,none⟩ (.int .i64 0)).setCell ⟨q,7,none⟩ (.int .i64 0)).setCell ⟨q,8,none⟩ (.string ⟨#[]⟩)).setCell ⟨q,9,none⟩ (.slice none 0 0)):=⟨_,rfl⟩
    have zS:Kz q wn12 wS:=by rw [hwS];exact kz10 _ _ _ _ _ _ _ _ _ _
    have hQS:wS.heap[q]? = some (.cells #[.int .i64 4,.int .i64 0,.int .i64 0,.string so,.string s,.int .i64 0,.int .i64 0,.int .i64 0,.string ⟨#[]⟩,.slice none 0 0] 121 (0,0)):=by rw [hwS];exact set10 _ _ _ _ _ _ _ _ _ _ HQH
    have g0:wS.cell? ⟨q,0,none⟩=some _:=cell_of hQS rfl
    have g1:wS.cell? ⟨q,1,none⟩=some _:=cell_of hQS rfl
    have g2:wS.cell? ⟨q,2,none⟩=some _:=cell_of hQS rfl
    have g3:wS.cell? ⟨q,3,none⟩=some _:=cell_of hQS rfl
    have g4:wS.cell? ⟨q,4,none⟩=some _:=cell_of hQS rfl
    have g5:wS.cell? ⟨q,5,none⟩=some _:=cell_of hQS rfl
    have g6:wS.cell? ⟨q,6,none⟩=some _:=cell_of hQS rfl
    have g7:wS.cell? ⟨q,7,none⟩=some _:=cell_of hQS rfl
    have g8:wS.cell? ⟨q,8,none⟩=some _:=cell_of hQS rfl
    have g9:wS.cell? ⟨q,9,none⟩=some _:=cell_of hQS rfl
    rw [← hwS]
    clear hwS hQS
    refine bodyPost_ret (v:=.agg #[.int .i64 4,.int .i64 0,.int .i64 0,.string so,.string s,.int .i64 0,.int .i64 0,.int .i64 0,.string ⟨#[]⟩,.slice none 0 0]) (by simp [results,Try.results85,go_sem,g0,g1,g2,g3,g4,g5,g6,g7,g8,g9]) rfl ?_
    obtain ⟨r1,r2⟩:=(show ∀ (B':Nat) (w wS:World),_ from HF) (B+2+2+2) wn12 wS HG HCF zS
    exact ⟨4,0,so,s,rfl,.inr (.inr (.inr ⟨rfl,rfl,ho1,by omega⟩)),r1.mono (by omega),r2⟩
   ·intro K hK
    go_simp
    refine ((show ∀ (B1:Nat) (W1:World),CU b p c m B1 W1→B1+2≤1000000→Calls Try.prog 105 #[.pointer (some ⟨b,0,none⟩)] W1 (DrT b p c m (B1+2) 2 W1) from HN) (B+2+2) wa5 HC8 (by omega)).mono ?_
    rintro e wn18 ⟨s,rfl,hs,hCn,kg19⟩
    have HC20:Hid (CU b p c m (B+2+2+2) wn18):=hCn
    clear hCn
    have HG21:Hid (Kg b W wn18):=(show Kg b W wa5 from HG10).trans kg19
    have hQ22:Hid (wn18.heap[q]? = some (.cells #[.int .i64 0,.int .i64 0,.int .i64 0,.string ⟨#[]⟩,.string ⟨#[]⟩,.int .i64 0,.int .i64 0,.int .i64 0,.string ⟨#[]⟩,.slice none 0 0] 121 (0,0))):=(kg19.block q (Array.getElem?_eq_some_iff.1 (show wa5.heap[q]? = _ from hQ11)).1 hqb).trans (show wa5.heap[q]? = _ from hQ11)
    have hZ23:Hid (wn18.heap[Z6]? = some (.cells #[.int .u8 (112+(x:Int))] 5 (0,0))∧Z6 ≠ b):=(⟨(kg19.block Z6 (Array.getElem?_eq_some_iff.1 (show _∧_ from hZ9).1).1 (show _∧_ from hZ9).2).trans (show _∧_ from hZ9).1,(show _∧_ from hZ9).2⟩:_∧_)
    clear kg19
    refine hK.out _ _ (fun _=>trivial) ?_
    clear hK K
    try simp only [Act.put,List.setIfInBounds_toArray,List.set_cons_zero,List.set_cons_succ]
    refine AnyL.oneAt 5 rfl (by kernel_rfl) rfl ?_
    intro K hK
    have hcv:=dr_conv (w:=wn18) (Z:=Z6) (x:=112+x) (by omega) (by have:=(show _∧_ from hZ23).1;rw [show ((112+x:Nat):Int)=112+(x:Int) by omega];exact this)
    go_simp
    clear hcv
    refine hK.out _ _ (fun _=>trivial) ?_
    clear hK K
    try simp only [Act.put,List.setIfInBounds_toArray,List.set_cons_zero,List.set_cons_succ]
    refine AnyL.takeAt 8 (.agg #[.int .i64 4,.int .i64 0,.int .i64 0,.string (o1 (112+x)),.string s,.int .i64 0,.int .i64 0,.int .i64 0,.string ⟨#[]⟩,.slice none 0 0]) rfl (by kernel_rfl) (by kernel_rfl) (by kernel_rfl) (by kernel_rfl) (fun _ _ _ h=>h) rfl trivial (by intro W' hW;go_simp) ?_
    try simp only [Act.put,List.setIfInBounds_toArray,List.set_cons_zero,List.set_cons_succ]
    refine AnyL.oneAt 9 rfl (by kernel_rfl) rfl ?_
    intro K hK
    have hQ:=(show wn18.heap[q]? = _ from hQ22)
    have cq0:wn18.cell? ⟨q,0,none⟩=some (.int .i64 0):=cell_of hQ rfl
    have fq0:wn18.frozen? ⟨q,0,none⟩=false:=frozen_of hQ
    have cq1:wn18.cell? ⟨q,1,none⟩=some (.int .i64 0):=cell_of hQ rfl
    have fq1:wn18.frozen? ⟨q,1,none⟩=false:=frozen_of hQ
    have cq2:wn18.cell? ⟨q,2,none⟩=some (.int .i64 0):=cell_of hQ rfl
    have fq2:wn18.frozen? ⟨q,2,none⟩=false:=frozen_of hQ
    have cq3:wn18.cell? ⟨q,3,none⟩=some (.string ⟨#[]⟩):=cell_of hQ rfl
    have fq3:wn18.frozen? ⟨q,3,none⟩=false:=frozen_of hQ
    have cq4:wn18.cell? ⟨q,4,none⟩=some (.string ⟨#[]⟩):=cell_of hQ rfl
    have fq4:wn18.frozen? ⟨q,4,none⟩=false:=frozen_of hQ
    have cq5:wn18.cell? ⟨q,5,none⟩=some (.int .i64 0):=cell_of hQ rfl
    have fq5:wn18.frozen? ⟨q,5,none⟩=false:=frozen_of hQ
    have cq6:wn18.cell? ⟨q,6,none⟩=some (.int .i64 0):=cell_of hQ rfl
    have fq6:wn18.frozen? ⟨q,6,none⟩=false:=frozen_of hQ
    have cq7:wn18.cell? ⟨q,7,none⟩=some (.int .i64 0):=cell_of hQ rfl
    have fq7:wn18.frozen? ⟨q,7,none⟩=false:=frozen_of hQ
    have cq8:wn18.cell? ⟨q,8,none⟩=some (.string ⟨#[]⟩):=cell_of hQ rfl
    have fq8:wn18.frozen? ⟨q,8,none⟩=false:=frozen_of hQ
    have cq9:wn18.cell? ⟨q,9,none⟩=some (.slice none 0 0):=cell_of hQ rfl
    have fq9:wn18.frozen? ⟨q,9,none⟩=false:=frozen_of hQ
    have HG:Hid (Kg b W wn18):=HG21
    have HQH:Hid (wn18.heap[q]? = some (.cells #[.int .i64 0,.int .i64 0,.int .i64 0,.string ⟨#[]⟩,.string ⟨#[]⟩,.int .i64 0,.int .i64 0,.int .i64 0,.string ⟨#[]⟩,.slice none 0 0] 121 (0,0))):=hQ22
    have HCF:Hid (CU b p c m (B+2+2+2) wn18):=HC20
    clear hQ
    go_simp
    refine hK.out _ _ (fun h=>absurd rfl h) ?_
    clear hK K
    try simp only [Act.put,List.setIfInBounds_toArray,List.set_cons_zero,List.set_cons_succ]
    refine AnyL.done (by kernel_rfl) ?_
    have ho1:=o1_size (112+x)
    obtain ⟨so,hso⟩:∃ so,so=o1 (112+x):=⟨_,rfl⟩
    rw [← hso] at ho1 ⊢
    clear hso
    go_wp2_with fail
    obtain ⟨wS,hwS⟩:∃ wS,wS=((((((((((wn18.setCell ⟨q,0,none⟩ (.int .i64 4)).setCell ⟨q,1,none⟩ (.int .i64 0)).setCell ⟨q,2,none⟩ (.int .i64 0)).setCell ⟨q,3,none⟩ (.string so)).setCell ⟨q,4,none⟩ (.string s)).setCell ⟨q,5,none⟩ (.int .i64 0)).setCell ⟨q,6,none⟩ (.int .i64 0)).setCell ⟨q,7,none⟩ (.int .i64 0)).setCell ⟨q,8,none⟩ (.string ⟨#[]⟩)).setCell ⟨q,9,none⟩ (.slice none 0 0)):=⟨_,rfl⟩
    have zS:Kz q wn18 wS:=by rw [hwS];exact kz10 _ _ _ _ _ _ _ _ _ _
    have hQS:wS.heap[q]? = some (.cells #[.int .i64 4,.int .i64 0,.int .i64 0,.string so,.string s,.int .i64 0,.int .i64 0,.int .i64 0,.string ⟨#[]⟩,.slice none 0 0] 121 (0,0)):=by rw [hwS];exact set10 _ _ _ _ _ _ _ _ _ _ HQH
    have g0:wS.cell? ⟨q,0,none⟩=some _:=cell_of hQS rfl
    have g1:wS.cell? ⟨q,1,none⟩=some _:=cell_of hQS rfl
    have g2:wS.cell? ⟨q,2,none⟩=some _:=cell_of hQS rfl
    have g3:wS.cell? ⟨q,3,none⟩=some _:=cell_of hQS rfl
    have g4:wS.cell? ⟨q,4,none⟩=some _:=cell_of hQS rfl
    have g5:wS.cell? ⟨q,5,none⟩=some _:=cell_of hQS rfl
    have g6:wS.cell? ⟨q,6,none⟩=some _:=cell_of hQS rfl
    have g7:wS.cell? ⟨q,7,none⟩=some _:=cell_of hQS rfl
    have g8:wS.cell? ⟨q,8,none⟩=some _:=cell_of hQS rfl
    have g9:wS.cell? ⟨q,9,none⟩=some _:=cell_of hQS rfl
    rw [← hwS]
    clear hwS hQS
    refine bodyPost_ret (v:=.agg #[.int .i64 4,.int .i64 0,.int .i64 0,.string so,.string s,.int .i64 0,.int .i64 0,.int .i64 0,.string ⟨#[]⟩,.slice none 0 0]) (by simp [results,Try.results85,go_sem,g0,g1,g2,g3,g4,g5,g6,g7,g8,g9]) rfl ?_
    obtain ⟨r1,r2⟩:=(show ∀ (B':Nat) (w wS:World),_ from HF) (B+2+2+2) wn18 wS HG HCF zS
    exact ⟨4,0,so,s,rfl,.inr (.inr (.inr ⟨rfl,rfl,ho1,by omega⟩)),r1.mono (by omega),r2⟩
  ·intro K hK
   go_simp
   refine ((show ∀ (B1:Nat) (W1:World),CU b p c m B1 W1→B1+2≤1000000→Calls Try.prog 105 #[.pointer (some ⟨b,0,none⟩)] W1 (DrT b p c m (B1+2) 2 W1) from HN) (B+2+2) w2 HC2 (by omega)).mono ?_
   rintro e wn24 ⟨s,rfl,hs,hCn,kg25⟩
   have HC26:Hid (CU b p c m (B+2+2+2) wn24):=hCn
   clear hCn
   have HG27:Hid (Kg b W wn24):=(show Kg b W w2 from HG3).trans kg25
   have hQ28:Hid (wn24.heap[q]? = some (.cells #[.int .i64 0,.int .i64 0,.int .i64 0,.string ⟨#[]⟩,.string ⟨#[]⟩,.int .i64 0,.int .i64 0,.int .i64 0,.string ⟨#[]⟩,.slice none 0 0] 121 (0,0))):=(kg25.block q (Array.getElem?_eq_some_iff.1 (show w2.heap[q]? = _ from hQ4)).1 hqb).trans (show w2.heap[q]? = _ from hQ4)
   clear kg25
   refine hK.out _ _ (fun _=>trivial) ?_
   clear hK K
   try simp only [Act.put,List.setIfInBounds_toArray,List.set_cons_zero,List.set_cons_succ]
   refine AnyL.oneAt 4 rfl (by kernel_rfl) rfl ?_
   intro K hK
   go_simp
   obtain ⟨Z30,hZe⟩:∃ Z,Z=wn24.heap.size:=⟨_,rfl⟩
   obtain ⟨wa29,hWe⟩:∃ Wn,Wn=wn24.alloc (.cells #[.int .u8 (112+(x:Int))] 5):=⟨_,rfl⟩
   have kg31k:Kb 0 wn24 wa29:=by rw [hWe];exact kb_alloc _ _ _
   have kg31:Kg b wn24 wa29:=Kg.of_kb kg31k
   have HC32:Hid (CU b p c m (B+2+2+2) wa29):=(show CU b p c m (B+2+2+2) wn24 from HC26).kb kg31k
   have hZ33:Hid (wa29.heap[Z30]? = some (.cells #[.int .u8 (112+(x:Int))] 5 (0,0))∧Z30 ≠ b):=(⟨by rw [hWe,hZe];exact alloc_new _ _ _,by rw [hZe];exact Nat.ne_of_gt (show CU b p c m (B+2+2+2) wn24 from HC26).lt⟩:_∧_)
   have HG34:Hid (Kg b W wa29):=(show Kg b W wn24 from HG27).trans kg31
   have hQ35:Hid (wa29.heap[q]? = some (.cells #[.int .i64 0,.int .i64 0,.int .i64 0,.string ⟨#[]⟩,.string ⟨#[]⟩,.int .i64 0,.int .i64 0,.int .i64 0,.string ⟨#[]⟩,.slice none 0 0] 121 (0,0))):=(kg31.block q (Array.getElem?_eq_some_iff.1 (show wn24.heap[q]? = _ from hQ28)).1 hqb).trans (show wn24.heap[q]? = _ from hQ28)
   have hWd:wn24.alloc (.cells #[.int .u8 (112+(x:Int))] 5)=wa29:=hWe.symm
   have hZd:wn24.heap.size=Z30:=hZe.symm
   try simp only [hWd]
   try rw [hWd]
   try rw [hZd]
   clear hWe hZe hWd hZd kg31 kg31k
   refine hK.out _ _ (fun _=>trivial) ?_
   clear hK K
   try simp only [Act.put,List.setIfInBounds_toArray,List.set_cons_zero,List.set_cons_succ]
   refine AnyL.oneAt 5 rfl (by kernel_rfl) rfl ?_
   intro K hK
   have hcv:=dr_conv (w:=wa29) (Z:=Z30) (x:=112+x) (by omega) (by have:=(show _∧_ from hZ33).1;rw [show ((112+x:Nat):Int)=112+(x:Int) by omega];exact this)
   go_simp
   clear hcv
   refine hK.out _ _ (fun _=>trivial) ?_
   clear hK K
   try simp only [Act.put,List.setIfInBounds_toArray,List.set_cons_zero,List.set_cons_succ]
   refine AnyL.takeAt 8 (.agg #[.int .i64 4,.int .i64 0,.int .i64 0,.string (o1 (112+x)),.string s,.int .i64 0,.int .i64 0,.int .i64 0,.string ⟨#[]⟩,.slice none 0 0]) rfl (by kernel_rfl) (by kernel_rfl) (by kernel_rfl) (by kernel_rfl) (fun _ _ _ h=>h) rfl trivial (by intro W' hW;go_simp) ?_
   try simp only [Act.put,List.setIfInBounds_toArray,List.set_cons_zero,List.set_cons_succ]
   refine AnyL.oneAt 9 rfl (by kernel_rfl) rfl ?_
   intro K hK
   have hQ:=(show wa29.heap[q]? = _ from hQ35)
   have cq0:wa29.cell? ⟨q,0,none⟩=some (.int .i64 0):=cell_of hQ rfl
   have fq0:wa29.frozen? ⟨q,0,none⟩=false:=frozen_of hQ
   have cq1:wa29.cell? ⟨q,1,none⟩=some (.int .i64 0):=cell_of hQ rfl
   have fq1:wa29.frozen? ⟨q,1,none⟩=false:=frozen_of hQ
   have cq2:wa29.cell? ⟨q,2,none⟩=some (.int .i64 0):=cell_of hQ rfl
   have fq2:wa29.frozen? ⟨q,2,none⟩=false:=frozen_of hQ
   have cq3:wa29.cell? ⟨q,3,none⟩=some (.string ⟨#[]⟩):=cell_of hQ rfl
   have fq3:wa29.frozen? ⟨q,3,none⟩=false:=frozen_of hQ
   have cq4:wa29.cell? ⟨q,4,none⟩=some (.string ⟨#[]⟩):=cell_of hQ rfl
   have fq4:wa29.frozen? ⟨q,4,none⟩=false:=frozen_of hQ
   have cq5:wa29.cell? ⟨q,5,none⟩=some (.int .i64 0):=cell_of hQ rfl
   have fq5:wa29.frozen? ⟨q,5,none⟩=false:=frozen_of hQ
   have cq6:wa29.cell? ⟨q,6,none⟩=some (.int .i64 0):=cell_of hQ rfl
   have fq6:wa29.frozen? ⟨q,6,none⟩=false:=frozen_of hQ
   have cq7:wa29.cell? ⟨q,7,none⟩=some (.int .i64 0):=cell_of hQ rfl
   have fq7:wa29.frozen? ⟨q,7,none⟩=false:=frozen_of hQ
   have cq8:wa29.cell? ⟨q,8,none⟩=some (.string ⟨#[]⟩):=cell_of hQ rfl
   have fq8:wa29.frozen? ⟨q,8,none⟩=false:=frozen_of hQ
   have cq9:wa29.cell? ⟨q,9,none⟩=some (.slice none 0 0):=cell_of hQ rfl
   have fq9:wa29.frozen? ⟨q,9,none⟩=false:=frozen_of hQ
   have HG:Hid (Kg b W wa29):=HG34
   have HQH:Hid (wa29.heap[q]? = some (.cells #[.int .i64 0,.int .i64 0,.int .i64 0,.string ⟨#[]⟩,.string ⟨#[]⟩,.int .i64 0,.int .i64 0,.int .i64 0,.string ⟨#[]⟩,.slice none 0 0] 121 (0,0))):=hQ35
   have HCF:Hid (CU b p c m (B+2+2+2) wa29):=HC32
   clear hQ
   go_simp
   refine hK.out _ _ (fun h=>absurd rfl h) ?_
   clear hK K
   try simp only [Act.put,List.setIfInBounds_toArray,List.set_cons_zero,List.set_cons_succ]
   refine AnyL.done (by kernel_rfl) ?_
   have ho1:=o1_size (112+x)
   obtain ⟨so,hso⟩:∃ so,so=o1 (112+x):=⟨_,rfl⟩
   rw [← hso] at ho1 ⊢
   clear hso
   go_wp2_with fail
   obtain ⟨wS,hwS⟩:∃ wS,wS=((((((((((wa29.setCell ⟨q,0,none⟩ (.int .i64 4)).setCell ⟨q,1,none⟩ (.int .i64 0)).setCell ⟨q,2,none⟩ (.int .i64 0)).setCell ⟨q,3,none⟩ (.string so)).setCell ⟨q,4,none⟩ (.string s)).setCell ⟨q,5,none⟩ (.int .i64 0)).setCell ⟨q,6,none⟩ (.int .i64 0)).setCell ⟨q,7,none⟩ (.int .i64 0)).setCell ⟨q,8,none⟩ (.string ⟨#[]⟩)).setCell ⟨q,9,none⟩ (.slice none 0 0)):=⟨_,rfl⟩
   have zS:Kz q wa29 wS:=by rw [hwS];exact kz10 _ _ _ _ _ _ _ _ _ _
   have hQS:wS.heap[q]? = some (.cells #[.int .i64 4,.int .i64 0,.int .i64 0,.string so,.string s,.int .i64 0,.int .i64 0,.int .i64 0,.string ⟨#[]⟩,.slice none 0 0] 121 (0,0)):=by rw [hwS];exact set10 _ _ _ _ _ _ _ _ _ _ HQH
   have g0:wS.cell? ⟨q,0,none⟩=some _:=cell_of hQS rfl
   have g1:wS.cell? ⟨q,1,none⟩=some _:=cell_of hQS rfl
   have g2:wS.cell? ⟨q,2,none⟩=some _:=cell_of hQS rfl
   have g3:wS.cell? ⟨q,3,none⟩=some _:=cell_of hQS rfl
   have g4:wS.cell? ⟨q,4,none⟩=some _:=cell_of hQS rfl
   have g5:wS.cell? ⟨q,5,none⟩=some _:=cell_of hQS rfl
   have g6:wS.cell? ⟨q,6,none⟩=some _:=cell_of hQS rfl
   have g7:wS.cell? ⟨q,7,none⟩=some _:=cell_of hQS rfl
   have g8:wS.cell? ⟨q,8,none⟩=some _:=cell_of hQS rfl
   have g9:wS.cell? ⟨q,9,none⟩=some _:=cell_of hQS rfl
   rw [← hwS]
   clear hwS hQS
   refine bodyPost_ret (v:=.agg #[.int .i64 4,.int .i64 0,.int .i64 0,.string so,.string s,.int .i64 0,.int .i64 0,.int .i64 0,.string ⟨#[]⟩,.slice none 0 0]) (by simp [results,Try.results85,go_sem,g0,g1,g2,g3,g4,g5,g6,g7,g8,g9]) rfl ?_
   obtain ⟨r1,r2⟩:=(show ∀ (B':Nat) (w wS:World),_ from HF) (B+2+2+2) wa29 wS HG HCF zS
   exact ⟨4,0,so,s,rfl,.inr (.inr (.inr ⟨rfl,rfl,ho1,by omega⟩)),r1.mono (by omega),r2⟩
end Go.Proofs.Ytamcnmnaadpfoaa.Fo
