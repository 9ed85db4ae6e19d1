import Derived.Test.YtamcnmnaadpfoaaFUbc
set_option maxHeartbeats 16000000
namespace Go.Proofs.Ytamcnmnaadpfoaa.Fo
open Go.ChangeShapes Go.WideShapes Go.ChangeAt Go.RowKit
set_option linter.unusedVariables false
set_option maxRecDepth 100000
theorem dr_draw {pa : Option Addr} {ca m : Nat} {A : Nat → Int} (w : World) (ha : RowV w (.slice pa m ca) m (fun i => .int .u8 (A i))) (hA : ∀ i, i < m → 0 ≤ A i ∧ A i ≤ 255) :
  Calls Try.prog 13 #[.slice pa m ca] w (DrB w):=by
 obtain ⟨b,hb⟩:∃ b,b=w.heap.size:=⟨_,rfl⟩
 obtain ⟨w1,hw1⟩:∃ w1,w1=w.alloc (.cells #[.slice pa m ca,.int .i64 0,.int .u64 0] 59):=⟨_,rfl⟩
 have k1:Kb 0 w w1:=by rw [hw1];exact kb_alloc _ _ _
 have b1:w1.heap[b]? = some (.cells #[.slice pa m ca,.int .i64 0,.int .u64 0] 59 (0,0)):=by rw [hw1,hb];exact alloc_new _ _ _
 have hC1:CU b pa ca m 0 w1:=by
  refine ⟨⟨0,0,b1,Nat.le_refl _,by omega⟩,?_,fun i hi=>?_⟩
  ·obtain ⟨p',c',e,h2⟩:=ha
   injection e with _ _ e3
   by_cases h0 : 0 < m
   ·obtain ⟨_,_,q,_⟩:=h2 h0
    omega
   ·omega
  ·obtain ⟨p',c',e,h2⟩:=ha
   injection e with e1 _ e3
   obtain ⟨a,q1,q2,q3⟩:=h2 (by omega)
   have hc:=q3 i hi
   have hlt:=lt_of_cell' hc
   rw [add_block] at hlt
   have hz:=k1.size
   refine ⟨a,by rw [e1,q1],by omega,by omega,(A i).toNat,?_,?_⟩
   ·have:=hA i hi;omega
   ·rw [k1.cell hc]
    have:=hA i hi
    rw [show (((A i).toNat:Nat):Int)=A i by omega]
 have HP1:=cu_journal hC1 (by omega)
 have HK1:Hid (Kb 0 w w1∧w.heap.size≤b∧b < w1.heap.size):=(⟨k1,by omega,hC1.lt⟩:_∧_)
 have HA:Hid (∀ (n B1:Nat) (W1:World),CU b pa ca m B1 W1→0 < n→n≤1048576→B1+2≤1000000→Calls Try.prog 27 #[.pointer (some ⟨b,0,none⟩),.int .i64 (n:Int)] W1 fun e w'=>(∃ x:Nat,x < n∧e = .returned (.int .i64 (x:Int)))∧CU b pa ca m (B1+2) w'∧Kg b W1 w'):=(fun n B1 W1 h1 h2 h3 h4=>cu_pick h1 n h2 h3 h4:∀ (n B1:Nat) (W1:World),_)
 have HW1:Hid (w1=w.alloc (.cells #[.slice pa m ca,.int .i64 0,.int .u64 0] 59)∧b=w.heap.size):=(⟨hw1,hb⟩:_∧_)
 clear ha hA k1 b1 hC1 hw1 hb
 go_enter Try.func13,Try.ntmps13
 go_upto_region 2 with fail
 rw [← (show _∧_ from HW1).1,← (show _∧_ from HW1).2]
 clear HW1
 go_wp2_with fail
 refine HP1.mono ?_
 rintro e w2 ⟨lv,sv,L,pl,pc,T,mm,rfl,j1,j2,j3,j4,j5,j6,j7,j8,hC2,hk2⟩
 have HI:=dr_image (pl:=(pl:Int) - 1) (pc:=(pc:Int)) w2 j3 j5 j6 j7 j8
 obtain ⟨lp,lc,rfl⟩:=own_shape j5
 obtain ⟨sp,sc,rfl⟩:=own_shape j6
 have HC2:Hid (CU b pa ca m (0+90) w2∧Kg b w1 w2):=(⟨hC2,hk2⟩:_∧_)
 clear HP1 j1 j2 j3 j4 j5 j6 j7 j8 hC2 hk2
 go_wp2_with fail
 refine HI.mono ?_
 rintro e w3 ⟨v3,rfl,hB3,hk3⟩
 have hC3:=(show CU b pa ca m (0+90) w2∧Kg b w1 w2 from HC2).1.kb hk3
 have HP2:=(show ∀ (n B1:Nat) (W1:World),CU b pa ca m B1 W1→0 < n→n≤1048576→B1+2≤1000000→Calls Try.prog 27 #[.pointer (some ⟨b,0,none⟩),.int .i64 (n:Int)] W1 fun e w'=>(∃ x:Nat,x < n∧e = .returned (.int .i64 (x:Int)))∧CU b pa ca m (B1+2) w'∧Kg b W1 w' from HA) 4 (0+90) w3 hC3 (by omega) (by omega) (by omega)
 have hb2:=(show CU b pa ca m (0+90) w2∧Kg b w1 w2 from HC2).1.lt
 have HZW:Hid (w.heap.size≤w2.heap.size):=Nat.le_trans (show _∧_∧_ from HK1).1.size (show _∧_ from HC2).2.size
 have hkb3:=(kb_of_kg (show _∧_ from HK1).1 (show _∧_ from HC2).2 (show _∧_∧_ from HK1).2.1).trans hk3
 obtain ⟨bl,hbl⟩:∃ l:List Int,Bok l∧l.length≤8192∧w3.ownsRow w2.heap.size 5 1 v3 l.length (bvs l):=hB3
 obtain ⟨bp,bc,rfl⟩:=own_shape hbl.2.2
 have HK3:Hid (Kb 0 w w3∧b < w2.heap.size∧Bok bl∧bl.length≤8192∧w3.ownsRow w2.heap.size 5 1 (.slice bp bl.length bc) bl.length (bvs bl)):=(⟨hkb3,hb2,hbl⟩:_∧_)
 have hblI:(bl.length:Int)≤8192:=by have:=hbl.2.1;omega
 clear HI hk3 hC3 hb2 hbl hkb3
 go_wp2_with fail
 refine HP2.mono ?_
 rintro e w4 ⟨⟨x,hx,rfl⟩,hC4,hk4⟩
 by_cases hx0:x=0
 ·subst hx0
  have hbw:w.heap.size≤b:=(show _∧_∧_ from HK1).2.1
  have HPJ:=cu_journal hC4 (by omega)
  have HKW4:Hid (Kb 0 w w4):=kb_of_kg (show _∧_ from HK3).1 hk4 hbw
  clear HP2 hC4 hk4 HK3 HC2 HZW
  go_wp2_with fail
  refine HPJ.mono ?_
  rintro e w5 ⟨lv,sv,L,pl,pc,T,mm,rfl,j1,j2,j3,j4,j5,j6,j7,j8,hC5,hk5⟩
  have hKW5:=kb_of_kg (show Kb 0 w w4 from HKW4) hk5 hbw
  obtain ⟨_,_,hs,_⟩:=own_sls j6 0
  have hl:=own_strv j5
  obtain ⟨lp,lc,rfl⟩:=own_shape j5
  obtain ⟨sp,sc,rfl⟩:=own_shape j6
  have HG:=sp_graphO (J:=⟨L.length,fun i=>L.getD i ⟨#[]⟩,(pl:Int) - 1,(pc:Int),mm,T⟩) w5 hl hs (by show L.length≤_;omega) (by show mm≤_;omega)
  have HSM:Hid (SmF (3+mm) (jF ⟨L.length,fun i=>L.getD i ⟨#[]⟩,(pl:Int) - 1,(pc:Int),mm,T⟩)):=smF_j j3 j4 j1 j2 j8 j7
  dsimp only at HG
  have hlt5:=hC5.lt
  clear HPJ hl hs j1 j2 j3 j4 j5 j6 j7
  go_wp2_with fail
  refine HG.mono ?_
  rintro e w6 ⟨v,V,rfl,hT6,hk6⟩
  have hC6:=hC5.kb hk6
  have hKW6:Kb 0 w w6:=hKW5.trans hk6
  clear HG hC5 hk5 hKW5 HKW4
  generalize jF ⟨L.length,fun i=>L.getD i ⟨#[]⟩,(pl:Int) - 1,(pc:Int),mm,T⟩=F at *
  obtain ⟨n,hn⟩:∃ n,n=3+mm:=⟨_,rfl⟩
  have hn3 : 3≤n:=by omega
  have hn5:n≤5:=by omega
  rw [← hn] at hT6 HSM
  clear hn j8
  obtain ⟨gn,cn,cur6,rfl,hgB,hgz,hgc,hgb,hgcell⟩:=hT6.at (by omega)
  obtain ⟨B,hB⟩:∃ B,B=w5.heap.size:=⟨_,rfl⟩
  rw [← hB] at hT6 hgB
  have hbB:b < B:=by omega
  have hwB:w.heap.size≤B:=by omega
  clear hB hk6 hlt5 hgz hgb hgcell hgB
  rw [show grv (ndV 0) (.slice (some ⟨gn,0,none⟩) n cn) = .agg #[.int .i64 4,.int .i64 0,.string ⟨#[]⟩,.int .i64 0,.slice (some ⟨gn,0,none⟩) n cn] from rfl]
  go_upto_region 5 with fail
  obtain ⟨G,hG⟩:∃ G,G=w6.heap.size:=⟨_,rfl⟩
  obtain ⟨w7,hw7⟩:∃ w7,w7=w6.alloc (.cells #[.int .i64 4,.int .i64 0,.string ⟨#[]⟩,.int .i64 0,.slice (some ⟨gn,0,none⟩) n cn] 44):=⟨_,rfl⟩
  have k67:Kb 0 w6 w7:=by rw [hw7];exact kb_alloc _ _ _
  have b7:w7.heap[G]? = some (.cells #[.int .i64 4,.int .i64 0,.string ⟨#[]⟩,.int .i64 0,.slice (some ⟨gn,0,none⟩) n cn] 44 (0,0)):=by rw [hw7,hG];exact alloc_new _ _ _
  have hC7:=hC6.kb k67
  have hbG:b ≠ G:=by have:=hC6.lt;omega
  rw [← hw7,← hG]
  have HR:Hid (∀ W,Kg b w7 W→Kb 0 w W∧W.heap[G]? = some (.cells #[.int .i64 4,.int .i64 0,.string ⟨#[]⟩,.int .i64 0,.slice (some ⟨gn,0,none⟩) n cn] 44 (0,0))∧TH B W (.slice (some ⟨gn,0,none⟩) n cn) n F V∧W.cell? ⟨G,4,none⟩=some (.slice (some ⟨gn,0,none⟩) n cn)):=(fun W hk=>by
   have e:=(hk.block G (Array.getElem?_eq_some_iff.1 b7).1 (Ne.symm hbG)).trans b7
   exact ⟨kb_of_kg (hKW6.trans k67) hk hbw,e,(hT6.kb k67).kg hbB hk,cell_of e rfl⟩:∀ W,_)
  have cG:w7.cell? ⟨G,4,none⟩=some (.slice (some ⟨gn,0,none⟩) n cn):=cell_of b7 rfl
  have HPA:=(show ∀ (n B1:Nat) (W1:World),CU b pa ca m B1 W1→0 < n→n≤1048576→B1+2≤1000000→Calls Try.prog 27 #[.pointer (some ⟨b,0,none⟩),.int .i64 (n:Int)] W1 fun e w'=>(∃ x:Nat,x < n∧e = .returned (.int .i64 (x:Int)))∧CU b pa ca m (B1+2) w'∧Kg b W1 w' from HA) n _ w7 hC7 (by omega) (by omega) (by omega)
  clear hw7 hG k67 b7 hC6 hKW6 hT6 hC7 cur6
  go_wp2_with fail
  refine HPA.mono ?_
  rintro e w8 ⟨⟨k,hk,rfl⟩,hC8,hk8⟩
  clear HPA cG
  have HPB:=(show ∀ (n B1:Nat) (W1:World),CU b pa ca m B1 W1→0 < n→n≤1048576→B1+2≤1000000→Calls Try.prog 27 #[.pointer (some ⟨b,0,none⟩),.int .i64 (n:Int)] W1 fun e w'=>(∃ x:Nat,x < n∧e = .returned (.int .i64 (x:Int)))∧CU b pa ca m (B1+2) w'∧Kg b W1 w' from HA) 2 _ w8 hC8 (by omega) (by omega) (by omega)
  obtain ⟨c,hc⟩:∃ c,c=(F k).c:=⟨_,rfl⟩
  have hc25:c≤25:=by rw [hc];exact ((show SmF n F from HSM).2 k hk).1
  have HFC:Hid (c=(F k).c):=hc
  obtain ⟨pk,ck,hVk⟩:=own_shape (((show ∀ W,Kg b w7 W→_ from HR) w8 hk8).2.2.1.vs k hk)
  rw [← hc] at hVk
  have HRK:Hid (∀ W,Kg b w7 W→W.cell? ⟨gn,k*2+1,none⟩=some (.slice pk c ck)):=(fun W hW=>by
   obtain ⟨g',cap',cur',e,-,-,-,-,hcell⟩:=((show ∀ W,Kg b w7 W→_ from HR) W hW).2.2.1.at (by omega)
   injection e with e1 e2 e3
   injection e1 with e1
   injection e1 with e1 _ _
   subst e1
   rw [← hVk]
   exact (hcell k hk).2:∀ W,_)
  have HVK:Hid (V k = .slice pk c ck):=hVk
  clear hC8 hc hVk
  have hkI:(k:Int) < (n:Int):=by omega
  go_wp2_with fail
  refine HPB.mono ?_
  rintro e w9 ⟨⟨y,hy,rfl⟩,hC9,hk9⟩
  clear HPB
  have hk79:=hk8.trans hk9
  have HK79:Hid (Kg b w7 w9):=hk79
  have cG9:=((show ∀ W,Kg b w7 W→_ from HR) w9 hk79).2.2.2
  have cK9:=(show ∀ W,Kg b w7 W→_ from HRK) w9 hk79
  clear hk8 hk9 hk79
  have HSS:Hid (∀ W,Kg b w7 W→(fun W':World=>W'.cell? ⟨G,4,none⟩=some (.slice (some ⟨gn,0,none⟩) n cn)∧W'.cell? ⟨gn,k*2+1,none⟩=some (.slice pk c ck)) W):=(fun W hk=>⟨((show ∀ W,Kg b w7 W→_ from HR) W hk).2.2.2,(show ∀ W,Kg b w7 W→_ from HRK) W hk⟩:∀ W,_)
  by_cases hyc:y=0∧0 < c
  ·obtain ⟨rfl,hc0⟩:=hyc
   have hcI:(0:Int) < (c:Int):=by omega
   go_wp2_with fail
   clear cK9 cG9
   refine AnyL.region (S:=fun W':World=>W'.cell? ⟨G,4,none⟩=some (.slice (some ⟨gn,0,none⟩) n cn)∧W'.cell? ⟨gn,k*2+1,none⟩=some (.slice pk c ck)) (z:=27) (by kernel_rfl) ?_
   obtain ⟨VD,hVD⟩:∃ VD,VD=w9.drew:=⟨_,rfl⟩
   rw [← hVD]
   have KD:Kb 0 w9 VD:=by rw [hVD];exact Kb.drew (Kb.refl _ _)
   have hCD:=hC9.kb KD
   have hKD:=(show Kg b w7 w9 from HK79).trans (Kg.of_kb KD)
   have hS0:=(show ∀ W,Kg b w7 W→(fun W':World=>W'.cell? ⟨G,4,none⟩=some (.slice (some ⟨gn,0,none⟩) n cn)∧W'.cell? ⟨gn,k*2+1,none⟩=some (.slice pk c ck)) W from HSS) VD hKD
   have HKD:Hid (Kg b w7 VD):=hKD
   have HCD:Hid (CU b pa ca m (0+90+2+90+2+2) VD):=hCD
   clear hVD KD hCD hKD hC9 HK79
   refine AnyL.takeAt 0 (.pointer (some ⟨G,4,none⟩)) rfl (by kernel_rfl) (by kernel_rfl) (by kernel_rfl) (by kernel_rfl) (fun _ _ _ h=>h) rfl hS0 (by intro W hW;first | go_simp | (have hW1:=hW.1;have hW2:=hW.2;clear hW;go_simp)) ?_
   try simp only [Act.put,List.setIfInBounds_toArray,List.set_cons_zero,List.set_cons_succ]
   refine AnyL.takeAt 1 (.slice (some ⟨gn,0,none⟩) n cn) rfl (by kernel_rfl) (by kernel_rfl) (by kernel_rfl) (by kernel_rfl) (fun _ _ _ h=>h) rfl hS0 (by intro W hW;first | go_simp | (have hW1:=hW.1;have hW2:=hW.2;clear hW;go_simp)) ?_
   try simp only [Act.put,List.setIfInBounds_toArray,List.set_cons_zero,List.set_cons_succ]
   refine AnyL.takeAt 2 (.int .i64 (k:Int)) rfl (by kernel_rfl) (by kernel_rfl) (by kernel_rfl) (by kernel_rfl) (fun _ _ _ h=>h) rfl hS0 (by intro W hW;first | go_simp | (have hW1:=hW.1;have hW2:=hW.2;clear hW;go_simp)) ?_
   try simp only [Act.put,List.setIfInBounds_toArray,List.set_cons_zero,List.set_cons_succ]
   refine AnyL.takeAt 3 (.pointer (some ⟨gn,k*2,none⟩)) rfl (by kernel_rfl) (by kernel_rfl) (by kernel_rfl) (by kernel_rfl) (fun _ _ _ h=>h) rfl hS0 (by intro W hW;first | go_simp | (have hW1:=hW.1;have hW2:=hW.2;clear hW;go_simp)) ?_
   try simp only [Act.put,List.setIfInBounds_toArray,List.set_cons_zero,List.set_cons_succ]
   refine AnyL.takeAt 4 (.pointer (some ⟨gn,k*2+1,none⟩)) rfl (by kernel_rfl) (by kernel_rfl) (by kernel_rfl) (by kernel_rfl) (fun _ _ _ h=>h) rfl hS0 (by intro W hW;first | go_simp | (have hW1:=hW.1;have hW2:=hW.2;clear hW;go_simp)) ?_
   try simp only [Act.put,List.setIfInBounds_toArray,List.set_cons_zero,List.set_cons_succ]
   refine AnyL.takeAt 5 (.slice pk c ck) rfl (by kernel_rfl) (by kernel_rfl) (by kernel_rfl) (by kernel_rfl) (fun _ _ _ h=>h) rfl hS0 (by intro W hW;first | go_simp | (have hW1:=hW.1;have hW2:=hW.2;clear hW;go_simp)) ?_
   try simp only [Act.put,List.setIfInBounds_toArray,List.set_cons_zero,List.set_cons_succ]
   refine AnyL.takeAt 6 (.pointer (some ⟨b,0,none⟩)) rfl (by kernel_rfl) (by kernel_rfl) (by kernel_rfl) (by kernel_rfl) (fun _ _ _ h=>h) rfl hS0 (by intro W hW;first | go_simp | (have hW1:=hW.1;have hW2:=hW.2;clear hW;go_simp)) ?_
   try simp only [Act.put,List.setIfInBounds_toArray,List.set_cons_zero,List.set_cons_succ]
   refine AnyL.takeAt 7 (.pointer (some ⟨G,4,none⟩)) rfl (by kernel_rfl) (by kernel_rfl) (by kernel_rfl) (by kernel_rfl) (fun _ _ _ h=>h) rfl hS0 (by intro W hW;first | go_simp | (have hW1:=hW.1;have hW2:=hW.2;clear hW;go_simp)) ?_
   try simp only [Act.put,List.setIfInBounds_toArray,List.set_cons_zero,List.set_cons_succ]
   refine AnyL.takeAt 8 (.slice (some ⟨gn,0,none⟩) n cn) rfl (by kernel_rfl) (by kernel_rfl) (by kernel_rfl) (by kernel_rfl) (fun _ _ _ h=>h) rfl hS0 (by intro W hW;first | go_simp | (have hW1:=hW.1;have hW2:=hW.2;clear hW;go_simp)) ?_
   try simp only [Act.put,List.setIfInBounds_toArray,List.set_cons_zero,List.set_cons_succ]
   refine AnyL.takeAt 9 (.int .i64 (k:Int)) rfl (by kernel_rfl) (by kernel_rfl) (by kernel_rfl) (by kernel_rfl) (fun _ _ _ h=>h) rfl hS0 (by intro W hW;first | go_simp | (have hW1:=hW.1;have hW2:=hW.2;clear hW;go_simp)) ?_
   try simp only [Act.put,List.setIfInBounds_toArray,List.set_cons_zero,List.set_cons_succ]
   refine AnyL.takeAt 10 (.pointer (some ⟨gn,k*2,none⟩)) rfl (by kernel_rfl) (by kernel_rfl) (by kernel_rfl) (by kernel_rfl) (fun _ _ _ h=>h) rfl hS0 (by intro W hW;first | go_simp | (have hW1:=hW.1;have hW2:=hW.2;clear hW;go_simp)) ?_
   try simp only [Act.put,List.setIfInBounds_toArray,List.set_cons_zero,List.set_cons_succ]
   refine AnyL.takeAt 11 (.pointer (some ⟨gn,k*2+1,none⟩)) rfl (by kernel_rfl) (by kernel_rfl) (by kernel_rfl) (by kernel_rfl) (fun _ _ _ h=>h) rfl hS0 (by intro W hW;first | go_simp | (have hW1:=hW.1;have hW2:=hW.2;clear hW;go_simp)) ?_
   try simp only [Act.put,List.setIfInBounds_toArray,List.set_cons_zero,List.set_cons_succ]
   refine AnyL.takeAt 12 (.slice pk c ck) rfl (by kernel_rfl) (by kernel_rfl) (by kernel_rfl) (by kernel_rfl) (fun _ _ _ h=>h) rfl hS0 (by intro W hW;first | go_simp | (have hW1:=hW.1;have hW2:=hW.2;clear hW;go_simp)) ?_
   try simp only [Act.put,List.setIfInBounds_toArray,List.set_cons_zero,List.set_cons_succ]
   refine AnyL.takeAt 13 (.int .i64 (c:Int)) rfl (by kernel_rfl) (by kernel_rfl) (by kernel_rfl) (by kernel_rfl) (fun _ _ _ h=>h) rfl hS0 (by intro W hW;first | go_simp | (have hW1:=hW.1;have hW2:=hW.2;clear hW;go_simp)) ?_
   try simp only [Act.put,List.setIfInBounds_toArray,List.set_cons_zero,List.set_cons_succ]
   refine AnyL.takeAt 15 (.agg #[.int .i64 0,.int .i64 0,.string ⟨#[]⟩,.int .i64 0]) rfl (by kernel_rfl) (by kernel_rfl) (by kernel_rfl) (by kernel_rfl) (fun _ _ _ h=>h) rfl hS0 (by intro W hW;first | go_simp | (have hW1:=hW.1;have hW2:=hW.2;clear hW;go_simp)) ?_
   try simp only [Act.put,List.setIfInBounds_toArray,List.set_cons_zero,List.set_cons_succ]
   refine AnyL.takeAt 20 (.agg #[.int .i64 4,.int .i64 0,.string ⟨#[]⟩,.int .i64 0]) rfl (by kernel_rfl) (by kernel_rfl) (by kernel_rfl) (by kernel_rfl) (fun _ _ _ h=>h) rfl hS0 (by intro W hW;first | go_simp | (have hW1:=hW.1;have hW2:=hW.2;clear hW;go_simp)) ?_
   try simp only [Act.put,List.setIfInBounds_toArray,List.set_cons_zero,List.set_cons_succ]
   refine AnyL.takeAt 22 (.pointer (some ⟨b,0,none⟩)) rfl (by kernel_rfl) (by kernel_rfl) (by kernel_rfl) (by kernel_rfl) (fun _ _ _ h=>h) rfl hS0 (by intro W hW;first | go_simp | (have hW1:=hW.1;have hW2:=hW.2;clear hW;go_simp)) ?_
   try simp only [Act.put,List.setIfInBounds_toArray,List.set_cons_zero,List.set_cons_succ]
   refine AnyL.oneAt 14 rfl (by kernel_rfl) rfl ?_
   intro K hK
   have HPC:=(show ∀ (n B1:Nat) (W1:World),CU b pa ca m B1 W1→0 < n→n≤1048576→B1+2≤1000000→Calls Try.prog 27 #[.pointer (some ⟨b,0,none⟩),.int .i64 (n:Int)] W1 fun e w'=>(∃ x:Nat,x < n∧e = .returned (.int .i64 (x:Int)))∧CU b pa ca m (B1+2) w'∧Kg b W1 w' from HA) c (0+90+2+90+2+2) VD HCD (by omega) (by omega) (by omega)
   go_simp
   refine HPC.mono ?_
   rintro e wa ⟨⟨i,hi,rfl⟩,hCc,hkc⟩
   have HK1:Hid (Kg b w7 wa):=(show Kg b w7 VD from HKD).trans hkc
   have HC1:Hid (CU b pa ca m (0+90+2+90+2+2+2) wa):=hCc
   have hS1:=(show ∀ W,Kg b w7 W→(fun W':World=>W'.cell? ⟨G,4,none⟩=some (.slice (some ⟨gn,0,none⟩) n cn)∧W'.cell? ⟨gn,k*2+1,none⟩=some (.slice pk c ck)) W from HSS) wa HK1
   clear HPC hCc hkc
   refine hK.out _ _ (fun _=>hS1) ?_
   clear hK K
   try simp only [Act.put,List.setIfInBounds_toArray,List.set_cons_zero,List.set_cons_succ]
   refine AnyL.oneAt 16 rfl (by kernel_rfl) rfl ?_
   intro K hK
   go_simp
   refine (sp_num59 (-1) wa).mono ?_
   rintro e wb ⟨rfl,gk⟩
   have HK2:Hid (Kg b w7 wb):=(show Kg b w7 wa from HK1).trans (Kg.of_kb gk)
   have HC2:Hid (CU b pa ca m (0+90+2+90+2+2+2) wb):=(show CU b pa ca m (0+90+2+90+2+2+2) wa from HC1).kb gk
   have hS2:=(show ∀ W,Kg b w7 W→(fun W':World=>W'.cell? ⟨G,4,none⟩=some (.slice (some ⟨gn,0,none⟩) n cn)∧W'.cell? ⟨gn,k*2+1,none⟩=some (.slice pk c ck)) W from HSS) wb HK2
   clear gk
   refine hK.out _ _ (fun _=>hS2) ?_
   clear hK K
   try simp only [Act.put,List.setIfInBounds_toArray,List.set_cons_zero,List.set_cons_succ]
   refine AnyL.oneAt 17 rfl (by kernel_rfl) rfl ?_
   intro K hK
   go_simp
   refine (sp_num59 7 wb).mono ?_
   rintro e wc ⟨rfl,gk⟩
   have HK3:Hid (Kg b w7 wc):=(show Kg b w7 wb from HK2).trans (Kg.of_kb gk)
   have HC3:Hid (CU b pa ca m (0+90+2+90+2+2+2) wc):=(show CU b pa ca m (0+90+2+90+2+2+2) wb from HC2).kb gk
   have hS3:=(show ∀ W,Kg b w7 W→(fun W':World=>W'.cell? ⟨G,4,none⟩=some (.slice (some ⟨gn,0,none⟩) n cn)∧W'.cell? ⟨gn,k*2+1,none⟩=some (.slice pk c ck)) W from HSS) wc HK3
   clear gk
   refine hK.out _ _ (fun _=>hS3) ?_
   clear hK K
   try simp only [Act.put,List.setIfInBounds_toArray,List.set_cons_zero,List.set_cons_succ]
   refine AnyL.oneAt 18 rfl (by kernel_rfl) rfl ?_
   intro K hK
   go_simp
   refine (sp_num59 2000000 wc).mono ?_
   rintro e wd ⟨rfl,gk⟩
   have HK4:Hid (Kg b w7 wd):=(show Kg b w7 wc from HK3).trans (Kg.of_kb gk)
   have HC4:Hid (CU b pa ca m (0+90+2+90+2+2+2) wd):=(show CU b pa ca m (0+90+2+90+2+2+2) wc from HC3).kb gk
   have hS4:=(show ∀ W,Kg b w7 W→(fun W':World=>W'.cell? ⟨G,4,none⟩=some (.slice (some ⟨gn,0,none⟩) n cn)∧W'.cell? ⟨gn,k*2+1,none⟩=some (.slice pk c ck)) W from HSS) wd HK4
   clear gk
   refine hK.out _ _ (fun _=>hS4) ?_
   clear hK K
   try simp only [Act.put,List.setIfInBounds_toArray,List.set_cons_zero,List.set_cons_succ]
   refine AnyL.oneAt 19 rfl (by kernel_rfl) rfl ?_
   intro K hK
   go_simp
   refine (sp_txt59 ⟨#[120]⟩ wd).mono ?_
   rintro e we ⟨rfl,gk⟩
   have HK5:Hid (Kg b w7 we):=(show Kg b w7 wd from HK4).trans (Kg.of_kb gk)
   have HC5:Hid (CU b pa ca m (0+90+2+90+2+2+2) we):=(show CU b pa ca m (0+90+2+90+2+2+2) wd from HC4).kb gk
   have hS5:=(show ∀ W,Kg b w7 W→(fun W':World=>W'.cell? ⟨G,4,none⟩=some (.slice (some ⟨gn,0,none⟩) n cn)∧W'.cell? ⟨gn,k*2+1,none⟩=some (.slice pk c ck)) W from HSS) we HK5
   clear gk
   refine hK.out _ _ (fun _=>hS5) ?_
   clear hK K
   try simp only [Act.put,List.setIfInBounds_toArray,List.set_cons_zero,List.set_cons_succ]
   refine AnyL.two 21 23 rfl rfl (by kernel_rfl) rfl rfl ?_ ?_
   ·intro K hK
    go_simp
    obtain ⟨Z,hZ⟩:∃ Z,Z=we.heap.size:=⟨_,rfl⟩
    obtain ⟨wf,hWn⟩:∃ Wn,Wn=we.alloc (.cells #[.int .i64 0,.int .i64 0,.string ⟨#[]⟩,.int .i64 0,.int .i64 1,.int .i64 (-1),.string ⟨#[]⟩,.int .i64 0,.int .i64 1,.int .i64 7,.string ⟨#[]⟩,.int .i64 0,.int .i64 1,.int .i64 2000000,.string ⟨#[]⟩,.int .i64 0,.int .i64 3,.int .i64 0,.string ⟨#[120]⟩,.int .i64 0,.int .i64 4,.int .i64 0,.string ⟨#[]⟩,.int .i64 0] 41):=⟨_,rfl⟩
    have gk:Kb 0 we wf:=by rw [hWn];exact kb_alloc _ _ _
    have HZ:Hid (wf.heap[Z]? = some (.cells #[.int .i64 0,.int .i64 0,.string ⟨#[]⟩,.int .i64 0,.int .i64 1,.int .i64 (-1),.string ⟨#[]⟩,.int .i64 0,.int .i64 1,.int .i64 7,.string ⟨#[]⟩,.int .i64 0,.int .i64 1,.int .i64 2000000,.string ⟨#[]⟩,.int .i64 0,.int .i64 3,.int .i64 0,.string ⟨#[120]⟩,.int .i64 0,.int .i64 4,.int .i64 0,.string ⟨#[]⟩,.int .i64 0] 41 (0,0))∧Z ≠ b):=(⟨by rw [hWn,hZ];exact alloc_new _ _ _,by rw [hZ];exact Nat.ne_of_gt (show CU b pa ca m (0+90+2+90+2+2+2) we from HC5).lt⟩:_∧_)
    have HK6:Hid (Kg b w7 wf):=(show Kg b w7 we from HK5).trans (Kg.of_kb gk)
    have HC6:Hid (CU b pa ca m (0+90+2+90+2+2+2) wf):=(show CU b pa ca m (0+90+2+90+2+2+2) we from HC5).kb gk
    have hS6:=(show ∀ W,Kg b w7 W→(fun W':World=>W'.cell? ⟨G,4,none⟩=some (.slice (some ⟨gn,0,none⟩) n cn)∧W'.cell? ⟨gn,k*2+1,none⟩=some (.slice pk c ck)) W from HSS) wf HK6
    have hWd:we.alloc (.cells #[.int .i64 0,.int .i64 0,.string ⟨#[]⟩,.int .i64 0,.int .i64 1,.int .i64 (-1),.string ⟨#[]⟩,.int .i64 0,.int .i64 1,.int .i64 7,.string ⟨#[]⟩,.int .i64 0,.int .i64 1,.int .i64 2000000,.string ⟨#[]⟩,.int .i64 0,.int .i64 3,.int .i64 0,.string ⟨#[120]⟩,.int .i64 0,.int .i64 4,.int .i64 0,.string ⟨#[]⟩,.int .i64 0] 41)=wf:=hWn.symm
    have hZd:we.heap.size=Z:=hZ.symm
    try simp only [hWd]
    try rw [hWd]
    try rw [hZd]
    clear hWn hZ hWd hZd gk
    refine hK.out _ _ (fun _=>hS6) ?_
    clear hK K
    try simp only [Act.put,List.setIfInBounds_toArray,List.set_cons_zero,List.set_cons_succ]
    refine AnyL.oneAt 23 rfl (by kernel_rfl) rfl ?_
    intro K hK
    have HPC:=(show ∀ (n B1:Nat) (W1:World),CU b pa ca m B1 W1→0 < n→n≤1048576→B1+2≤1000000→Calls Try.prog 27 #[.pointer (some ⟨b,0,none⟩),.int .i64 (n:Int)] W1 fun e w'=>(∃ x:Nat,x < n∧e = .returned (.int .i64 (x:Int)))∧CU b pa ca m (B1+2) w'∧Kg b W1 w' from HA) 6 (0+90+2+90+2+2+2) wf HC6 (by omega) (by omega) (by omega)
    go_simp
    refine HPC.mono ?_
    rintro e wg ⟨⟨y6,hy6,rfl⟩,hCc,hkc⟩
    have HKFG:Hid (Kg b wf wg):=hkc
    have HK7:Hid (Kg b w7 wg):=(show Kg b w7 wf from HK6).trans hkc
    have HC7:Hid (CU b pa ca m (0+90+2+90+2+2+2+2) wg):=hCc
    have hS7:=(show ∀ W,Kg b w7 W→(fun W':World=>W'.cell? ⟨G,4,none⟩=some (.slice (some ⟨gn,0,none⟩) n cn)∧W'.cell? ⟨gn,k*2+1,none⟩=some (.slice pk c ck)) W from HSS) wg HK7
    clear HPC hCc hkc
    refine hK.out _ _ (fun _=>hS7) ?_
    clear hK K
    try simp only [Act.put,List.setIfInBounds_toArray,List.set_cons_zero,List.set_cons_succ]
    have HZ0:=HZ
    have HZ:Hid (wg.heap[Z]? = some (.cells #[.int .i64 0,.int .i64 0,.string ⟨#[]⟩,.int .i64 0,.int .i64 1,.int .i64 (-1),.string ⟨#[]⟩,.int .i64 0,.int .i64 1,.int .i64 7,.string ⟨#[]⟩,.int .i64 0,.int .i64 1,.int .i64 2000000,.string ⟨#[]⟩,.int .i64 0,.int .i64 3,.int .i64 0,.string ⟨#[120]⟩,.int .i64 0,.int .i64 4,.int .i64 0,.string ⟨#[]⟩,.int .i64 0] 41 (0,0))∧Z ≠ b):=(⟨((show Kg b wf wg from HKFG).block Z (Array.getElem?_eq_some_iff.1 (show _∧_ from HZ0).1).1 (show _∧_ from HZ0).2).trans (show _∧_ from HZ0).1,(show _∧_ from HZ0).2⟩:_∧_)
    clear HZ0
    obtain ⟨e0,e1,e2,e3⟩:=six_cells (show _∧_ from HZ).1 hy6
    obtain ⟨xx,hxx⟩:∃ xx,xx=six y6:=⟨_,rfl⟩
    have HXS:Hid (SmV xx):=(by rw [hxx];exact six_sm y6:SmV xx)
    rw [← hxx] at e0 e1 e2 e3
    obtain ⟨yo,hyo⟩:∃ yo,yo=y6*4:=⟨_,rfl⟩
    rw [← hyo] at e0 e1 e2 e3
    clear hxx HZ
    have hy6I:(y6:Int) < 6:=by omega
    refine AnyL.takeAt 24 (.pointer (some ⟨Z,yo,none⟩)) rfl (by kernel_rfl) (by kernel_rfl) (by kernel_rfl) (by kernel_rfl) (fun _ _ _ h=>h) rfl hS7 (by intro W hW;first | go_simp | (rw [hyo];go_simp) | (have hW1:=hW.1;have hW2:=hW.2;clear hW;go_simp)) ?_
    try simp only [Act.put,List.setIfInBounds_toArray,List.set_cons_zero,List.set_cons_succ]
    clear hyo
    refine AnyL.oneAt 25 rfl (by kernel_rfl) rfl ?_
    intro K hK
    go_simp
    clear e0 e1 e2 e3
    refine hK.out _ _ (fun _=>hS7) ?_
    clear hK K
    try simp only [Act.put,List.setIfInBounds_toArray,List.set_cons_zero,List.set_cons_succ]
    obtain ⟨kw,hGb,hTc,hSc⟩:=(show ∀ W,Kg b w7 W→_ from HR) wg HK7
    obtain ⟨gk,rfl,hgk,hck,⟨cur,hcur⟩,⟨a0,a1,a2,a3,d0,d1,d2,d3⟩,ho,hRF⟩:=val_set xx hTc hk HFC HVK hi
    have fr:∀ j,wg.frozen? ⟨gk,j,none⟩=false:=fun j=>frozen_of hcur
    have hiI:(i:Int) < (c:Int):=by omega
    obtain ⟨WF,hWF⟩:∃ WF,WF=w4s wg gk (i*4) xx:=⟨_,rfl⟩
    rw [← hWF] at ho hRF
    have kF:Kb 0 w WF:=by
     rw [hWF]
     unfold w4s
     have hq:w.heap.size≤gk:=Nat.le_trans hwB hgk
     exact Kb.setCell (Kb.setCell (Kb.setCell (Kb.setCell kw _ (.inr hq) _) _ (.inr hq) _) _ (.inr hq) _) _ (.inr hq) _
    have hgG:G ≠ gk:=fun e=>by
     rw [e,hcur] at hGb
     injection hGb with q
     injection q with _ q _
     revert q;decide
    have eG:=(ho G hgG).trans hGb
    have HPK:Hid (Calls Try.prog 31 #[.agg #[.int .i64 4,.int .i64 0,.string ⟨#[]⟩,.int .i64 0,.slice (some ⟨gn,0,none⟩) n cn]] WF (DrB w)):=sm_packed ((show SmF n F from HSM).updV V gk i HXS) kF hRF
    have g0:WF.cell? ⟨G,0,none⟩=some (.int .i64 4):=cell_of eG rfl
    have g1:WF.cell? ⟨G,1,none⟩=some (.int .i64 0):=cell_of eG rfl
    have g2:WF.cell? ⟨G,2,none⟩=some (.string ⟨#[]⟩):=cell_of eG rfl
    have g3:WF.cell? ⟨G,3,none⟩=some (.int .i64 0):=cell_of eG rfl
    have g4:WF.cell? ⟨G,4,none⟩=some (.slice (some ⟨gn,0,none⟩) n cn):=cell_of eG rfl
    have hWd:((((wg.setCell ⟨gk,i*4,none⟩ (.int .i64 xx.k)).setCell ⟨gk,i*4+1,none⟩ (.int .i64 xx.m)).setCell ⟨gk,i*4+2,none⟩ (.string xx.x)).setCell ⟨gk,i*4+3,none⟩ (.int .i64 xx.r))=WF:=hWF.symm
    clear hTc hGb hgk kF kw hgG eG hWF ho hRF hSc hcur
    refine AnyL.takeAt 26 (.pointer (some ⟨gk,i*4,none⟩)) rfl (by kernel_rfl) (by kernel_rfl) (by kernel_rfl) (by kernel_rfl) (fun _ _ _ h=>h) rfl hS7 (by intro W hW;first | go_simp | (have hW1:=hW.1;have hW2:=hW.2;clear hW;go_simp)) ?_
    try simp only [Act.put,List.setIfInBounds_toArray,List.set_cons_zero,List.set_cons_succ]
    refine AnyL.oneAt 27 rfl (by kernel_rfl) rfl ?_
    intro K hK
    go_simp
    try rw [hWd]
    refine hK.out _ _ (fun h=>absurd rfl h) ?_
    clear hK K d0 d1 d2 d3 fr hWd hS7
    try simp only [Act.put,List.setIfInBounds_toArray,List.set_cons_zero,List.set_cons_succ]
    refine AnyL.done (by kernel_rfl) ?_
    go_wp2_with fail
    refine (show Calls _ _ _ _ _ from HPK).mono ?_
    rintro e w' ⟨v',rfl,h1,h2⟩
    have HD:Hid (DrB w (.returned v') w'):=⟨v',rfl,h1,h2⟩
    clear h1 h2 HPK g0 g1 g2 g3 g4
    go_wp2_with fail
    go_ret
    exact HD
   ·intro K hK
    have HPC:=(show ∀ (n B1:Nat) (W1:World),CU b pa ca m B1 W1→0 < n→n≤1048576→B1+2≤1000000→Calls Try.prog 27 #[.pointer (some ⟨b,0,none⟩),.int .i64 (n:Int)] W1 fun e w'=>(∃ x:Nat,x < n∧e = .returned (.int .i64 (x:Int)))∧CU b pa ca m (B1+2) w'∧Kg b W1 w' from HA) 6 (0+90+2+90+2+2+2) we HC5 (by omega) (by omega) (by omega)
    go_simp
    refine HPC.mono ?_
    rintro e wf ⟨⟨y6,hy6,rfl⟩,hCc,hkc⟩
    have HK8:Hid (Kg b w7 wf):=(show Kg b w7 we from HK5).trans hkc
    have HC8:Hid (CU b pa ca m (0+90+2+90+2+2+2+2) wf):=hCc
    have hS8:=(show ∀ W,Kg b w7 W→(fun W':World=>W'.cell? ⟨G,4,none⟩=some (.slice (some ⟨gn,0,none⟩) n cn)∧W'.cell? ⟨gn,k*2+1,none⟩=some (.slice pk c ck)) W from HSS) wf HK8
    clear HPC hCc hkc
    refine hK.out _ _ (fun _=>hS8) ?_
    clear hK K
    try simp only [Act.put,List.setIfInBounds_toArray,List.set_cons_zero,List.set_cons_succ]
    refine AnyL.oneAt 21 rfl (by kernel_rfl) rfl ?_
    intro K hK
    go_simp
    obtain ⟨Z,hZ⟩:∃ Z,Z=wf.heap.size:=⟨_,rfl⟩
    obtain ⟨wg,hWn⟩:∃ Wn,Wn=wf.alloc (.cells #[.int .i64 0,.int .i64 0,.string ⟨#[]⟩,.int .i64 0,.int .i64 1,.int .i64 (-1),.string ⟨#[]⟩,.int .i64 0,.int .i64 1,.int .i64 7,.string ⟨#[]⟩,.int .i64 0,.int .i64 1,.int .i64 2000000,.string ⟨#[]⟩,.int .i64 0,.int .i64 3,.int .i64 0,.string ⟨#[120]⟩,.int .i64 0,.int .i64 4,.int .i64 0,.string ⟨#[]⟩,.int .i64 0] 41):=⟨_,rfl⟩
    have gk:Kb 0 wf wg:=by rw [hWn];exact kb_alloc _ _ _
    have HZ:Hid (wg.heap[Z]? = some (.cells #[.int .i64 0,.int .i64 0,.string ⟨#[]⟩,.int .i64 0,.int .i64 1,.int .i64 (-1),.string ⟨#[]⟩,.int .i64 0,.int .i64 1,.int .i64 7,.string ⟨#[]⟩,.int .i64 0,.int .i64 1,.int .i64 2000000,.string ⟨#[]⟩,.int .i64 0,.int .i64 3,.int .i64 0,.string ⟨#[120]⟩,.int .i64 0,.int .i64 4,.int .i64 0,.string ⟨#[]⟩,.int .i64 0] 41 (0,0))∧Z ≠ b):=(⟨by rw [hWn,hZ];exact alloc_new _ _ _,by rw [hZ];exact Nat.ne_of_gt (show CU b pa ca m (0+90+2+90+2+2+2+2) wf from HC8).lt⟩:_∧_)
    have HK9:Hid (Kg b w7 wg):=(show Kg b w7 wf from HK8).trans (Kg.of_kb gk)
    have HC9:Hid (CU b pa ca m (0+90+2+90+2+2+2+2) wg):=(show CU b pa ca m (0+90+2+90+2+2+2+2) wf from HC8).kb gk
    have hS9:=(show ∀ W,Kg b w7 W→(fun W':World=>W'.cell? ⟨G,4,none⟩=some (.slice (some ⟨gn,0,none⟩) n cn)∧W'.cell? ⟨gn,k*2+1,none⟩=some (.slice pk c ck)) W from HSS) wg HK9
    have hWd:wf.alloc (.cells #[.int .i64 0,.int .i64 0,.string ⟨#[]⟩,.int .i64 0,.int .i64 1,.int .i64 (-1),.string ⟨#[]⟩,.int .i64 0,.int .i64 1,.int .i64 7,.string ⟨#[]⟩,.int .i64 0,.int .i64 1,.int .i64 2000000,.string ⟨#[]⟩,.int .i64 0,.int .i64 3,.int .i64 0,.string ⟨#[120]⟩,.int .i64 0,.int .i64 4,.int .i64 0,.string ⟨#[]⟩,.int .i64 0] 41)=wg:=hWn.symm
    have hZd:wf.heap.size=Z:=hZ.symm
    try simp only [hWd]
    try rw [hWd]
    try rw [hZd]
    clear hWn hZ hWd hZd gk
    refine hK.out _ _ (fun _=>hS9) ?_
    clear hK K
    try simp only [Act.put,List.setIfInBounds_toArray,List.set_cons_zero,List.set_cons_succ]
    obtain ⟨e0,e1,e2,e3⟩:=six_cells (show _∧_ from HZ).1 hy6
    obtain ⟨xx,hxx⟩:∃ xx,xx=six y6:=⟨_,rfl⟩
    have HXS:Hid (SmV xx):=(by rw [hxx];exact six_sm y6:SmV xx)
    rw [← hxx] at e0 e1 e2 e3
    obtain ⟨yo,hyo⟩:∃ yo,yo=y6*4:=⟨_,rfl⟩
    rw [← hyo] at e0 e1 e2 e3
    clear hxx HZ
    have hy6I:(y6:Int) < 6:=by omega
    refine AnyL.takeAt 24 (.pointer (some ⟨Z,yo,none⟩)) rfl (by kernel_rfl) (by kernel_rfl) (by kernel_rfl) (by kernel_rfl) (fun _ _ _ h=>h) rfl hS9 (by intro W hW;first | go_simp | (rw [hyo];go_simp) | (have hW1:=hW.1;have hW2:=hW.2;clear hW;go_simp)) ?_
    try simp only [Act.put,List.setIfInBounds_toArray,List.set_cons_zero,List.set_cons_succ]
    clear hyo
    refine AnyL.oneAt 25 rfl (by kernel_rfl) rfl ?_
    intro K hK
    go_simp
    clear e0 e1 e2 e3
    refine hK.out _ _ (fun _=>hS9) ?_
    clear hK K
    try simp only [Act.put,List.setIfInBounds_toArray,List.set_cons_zero,List.set_cons_succ]
    obtain ⟨kw,hGb,hTc,hSc⟩:=(show ∀ W,Kg b w7 W→_ from HR) wg HK9
    obtain ⟨gk,rfl,hgk,hck,⟨cur,hcur⟩,⟨a0,a1,a2,a3,d0,d1,d2,d3⟩,ho,hRF⟩:=val_set xx hTc hk HFC HVK hi
    have fr:∀ j,wg.frozen? ⟨gk,j,none⟩=false:=fun j=>frozen_of hcur
    have hiI:(i:Int) < (c:Int):=by omega
    obtain ⟨WF,hWF⟩:∃ WF,WF=w4s wg gk (i*4) xx:=⟨_,rfl⟩
    rw [← hWF] at ho hRF
    have kF:Kb 0 w WF:=by
     rw [hWF]
     unfold w4s
     have hq:w.heap.size≤gk:=Nat.le_trans hwB hgk
     exact Kb.setCell (Kb.setCell (Kb.setCell (Kb.setCell kw _ (.inr hq) _) _ (.inr hq) _) _ (.inr hq) _) _ (.inr hq) _
    have hgG:G ≠ gk:=fun e=>by
     rw [e,hcur] at hGb
     injection hGb with q
     injection q with _ q _
     revert q;decide
    have eG:=(ho G hgG).trans hGb
    have HPK:Hid (Calls Try.prog 31 #[.agg #[.int .i64 4,.int .i64 0,.string ⟨#[]⟩,.int .i64 0,.slice (some ⟨gn,0,none⟩) n cn]] WF (DrB w)):=sm_packed ((show SmF n F from HSM).updV V gk i HXS) kF hRF
    have g0:WF.cell? ⟨G,0,none⟩=some (.int .i64 4):=cell_of eG rfl
    have g1:WF.cell? ⟨G,1,none⟩=some (.int .i64 0):=cell_of eG rfl
    have g2:WF.cell? ⟨G,2,none⟩=some (.string ⟨#[]⟩):=cell_of eG rfl
    have g3:WF.cell? ⟨G,3,none⟩=some (.int .i64 0):=cell_of eG rfl
    have g4:WF.cell? ⟨G,4,none⟩=some (.slice (some ⟨gn,0,none⟩) n cn):=cell_of eG rfl
    have hWd:((((wg.setCell ⟨gk,i*4,none⟩ (.int .i64 xx.k)).setCell ⟨gk,i*4+1,none⟩ (.int .i64 xx.m)).setCell ⟨gk,i*4+2,none⟩ (.string xx.x)).setCell ⟨gk,i*4+3,none⟩ (.int .i64 xx.r))=WF:=hWF.symm
    clear hTc hGb hgk kF kw hgG eG hWF ho hRF hSc hcur
    refine AnyL.takeAt 26 (.pointer (some ⟨gk,i*4,none⟩)) rfl (by kernel_rfl) (by kernel_rfl) (by kernel_rfl) (by kernel_rfl) (fun _ _ _ h=>h) rfl hS9 (by intro W hW;first | go_simp | (have hW1:=hW.1;have hW2:=hW.2;clear hW;go_simp)) ?_
    try simp only [Act.put,List.setIfInBounds_toArray,List.set_cons_zero,List.set_cons_succ]
    refine AnyL.oneAt 27 rfl (by kernel_rfl) rfl ?_
    intro K hK
    go_simp
    try rw [hWd]
    refine hK.out _ _ (fun h=>absurd rfl h) ?_
    clear hK K d0 d1 d2 d3 fr hWd hS9
    try simp only [Act.put,List.setIfInBounds_toArray,List.set_cons_zero,List.set_cons_succ]
    refine AnyL.done (by kernel_rfl) ?_
    go_wp2_with fail
    refine (show Calls _ _ _ _ _ from HPK).mono ?_
    rintro e w' ⟨v',rfl,h1,h2⟩
    have HD:Hid (DrB w (.returned v') w'):=⟨v',rfl,h1,h2⟩
    clear h1 h2 HPK g0 g1 g2 g3 g4
    go_wp2_with fail
    go_ret
    exact HD
  ·by_cases hy0:y=0
   ·have hc0:c=0:=by omega
    have HC0:Hid (c=0):=hc0
    have hcI:¬ (0:Int) < (c:Int):=by omega
    subst hy0
    clear hc0 hyc
    go_wp2_with fail
    clear cK9 cG9 HSS
    refine AnyL.region (S:=fun W':World=>W'.cell? ⟨G,4,none⟩=some (.slice (some ⟨gn,0,none⟩) n cn)) (z:=7) (by kernel_rfl) ?_
    obtain ⟨VD,hVD⟩:∃ VD,VD=w9.drew:=⟨_,rfl⟩
    rw [← hVD]
    have KD:Kb 0 w9 VD:=by rw [hVD];exact Kb.drew (Kb.refl _ _)
    have hCD:=hC9.kb KD
    have hKD:=(show Kg b w7 w9 from HK79).trans (Kg.of_kb KD)
    have hS0:(fun W':World=>W'.cell? ⟨G,4,none⟩=some (.slice (some ⟨gn,0,none⟩) n cn)) VD:=((show ∀ W,Kg b w7 W→_ from HR) VD hKD).2.2.2
    have HKD:Hid (Kg b w7 VD):=hKD
    have HCD:Hid (CU b pa ca m (0+90+2+90+2+2) VD):=hCD
    clear hVD KD hCD hKD hC9 HK79
    refine AnyL.takeAt 0 (.pointer (some ⟨G,4,none⟩)) rfl (by kernel_rfl) (by kernel_rfl) (by kernel_rfl) (by kernel_rfl) (fun _ _ _ h=>h) rfl hS0 (by intro W hW;go_simp) ?_
    try simp only [Act.put,List.setIfInBounds_toArray,List.set_cons_zero,List.set_cons_succ]
    refine AnyL.takeAt 1 (.slice (some ⟨gn,0,none⟩) n cn) rfl (by kernel_rfl) (by kernel_rfl) (by kernel_rfl) (by kernel_rfl) (fun _ _ _ h=>h) rfl hS0 (by intro W hW;go_simp) ?_
    try simp only [Act.put,List.setIfInBounds_toArray,List.set_cons_zero,List.set_cons_succ]
    refine AnyL.takeAt 2 (.int .i64 (k:Int)) rfl (by kernel_rfl) (by kernel_rfl) (by kernel_rfl) (by kernel_rfl) (fun _ _ _ h=>h) rfl hS0 (by intro W hW;go_simp) ?_
    try simp only [Act.put,List.setIfInBounds_toArray,List.set_cons_zero,List.set_cons_succ]
    refine AnyL.takeAt 3 (.pointer (some ⟨b,0,none⟩)) rfl (by kernel_rfl) (by kernel_rfl) (by kernel_rfl) (by kernel_rfl) (fun _ _ _ h=>h) rfl hS0 (by intro W hW;go_simp) ?_
    try simp only [Act.put,List.setIfInBounds_toArray,List.set_cons_zero,List.set_cons_succ]
    refine AnyL.oneAt 4 rfl (by kernel_rfl) rfl ?_
    intro K hK
    have HPC:=(show ∀ (n B1:Nat) (W1:World),CU b pa ca m B1 W1→0 < n→n≤1048576→B1+2≤1000000→Calls Try.prog 27 #[.pointer (some ⟨b,0,none⟩),.int .i64 (n:Int)] W1 fun e w'=>(∃ x:Nat,x < n∧e = .returned (.int .i64 (x:Int)))∧CU b pa ca m (B1+2) w'∧Kg b W1 w' from HA) 6 (0+90+2+90+2+2) VD HCD (by omega) (by omega) (by omega)
    go_simp
    refine HPC.mono ?_
    rintro e wc ⟨⟨t,ht,rfl⟩,hCc,hkc⟩
    have hKc:=(show Kg b w7 VD from HKD).trans hkc
    obtain ⟨kw,hGb,hTc,hSc⟩:=(show ∀ W,Kg b w7 W→_ from HR) wc hKc
    clear HPC hCc hkc HCD HKD hS0
    refine hK.out _ _ (fun _=>hSc) ?_
    clear hK K
    try simp only [Act.put,List.setIfInBounds_toArray,List.set_cons_zero,List.set_cons_succ]
    refine AnyL.oneAt 5 rfl (by kernel_rfl) rfl ?_
    intro K hK
    go_simp
    refine hK.out _ _ (fun _=>hSc) ?_
    clear hK K
    try simp only [Act.put,List.setIfInBounds_toArray,List.set_cons_zero,List.set_cons_succ]
    refine AnyL.takeAt 6 (.pointer (some ⟨gn,k*2,none⟩)) rfl (by kernel_rfl) (by kernel_rfl) (by kernel_rfl) (by kernel_rfl) (fun _ _ _ h=>h) rfl hSc (by intro W hW;go_simp) ?_
    try simp only [Act.put,List.setIfInBounds_toArray,List.set_cons_zero,List.set_cons_succ]
    obtain ⟨t1,t2,t3,t4,t5,t6⟩:=tag_set (t:Int) hTc hk
    obtain ⟨WF,hWF⟩:∃ WF,WF=wc.setCell ⟨gn,k*2,none⟩ (.int .i64 (t:Int)):=⟨_,rfl⟩
    rw [← hWF] at t5 t6
    have kF:Kb 0 w WF:=by rw [hWF];exact Kb.setCell kw _ (.inr (Nat.le_trans hwB t3)) _
    have hgG:G ≠ gn:=fun e=>by
     obtain ⟨_,_,_,e0,_,_,_,h1,_⟩:=hTc.at (by omega)
     injection e0 with e0 _ _
     injection e0 with e0
     injection e0 with e0 _ _
     rw [← e0,← e,hGb] at h1
     injection h1 with q
     injection q with _ q _
     revert q;decide
    have eG:=(t5 G hgG).trans hGb
    have HPK:Hid (Calls Try.prog 31 #[.agg #[.int .i64 4,.int .i64 0,.string ⟨#[]⟩,.int .i64 0,.slice (some ⟨gn,0,none⟩) n cn]] WF (DrB w)):=sm_packed ((show SmF n F from HSM).updT k t) kF t6
    have g0:WF.cell? ⟨G,0,none⟩=some (.int .i64 4):=cell_of eG rfl
    have g1:WF.cell? ⟨G,1,none⟩=some (.int .i64 0):=cell_of eG rfl
    have g2:WF.cell? ⟨G,2,none⟩=some (.string ⟨#[]⟩):=cell_of eG rfl
    have g3:WF.cell? ⟨G,3,none⟩=some (.int .i64 0):=cell_of eG rfl
    have g4:WF.cell? ⟨G,4,none⟩=some (.slice (some ⟨gn,0,none⟩) n cn):=cell_of eG rfl
    have hWd:wc.setCell ⟨gn,k*2,none⟩ (.int .i64 (t:Int))=WF:=hWF.symm
    clear hTc hGb t3 t4 t5 t6 kF kw hgG eG hWF hKc
    refine AnyL.oneAt 7 rfl (by kernel_rfl) rfl ?_
    intro K hK
    go_simp
    try rw [hWd]
    refine hK.out _ _ (fun h=>absurd rfl h) ?_
    clear hK K t1 t2 hWd hSc
    try simp only [Act.put,List.setIfInBounds_toArray,List.set_cons_zero,List.set_cons_succ]
    refine AnyL.done (by kernel_rfl) ?_
    go_wp2_with fail
    refine (show Calls _ _ _ _ _ from HPK).mono ?_
    rintro e w' ⟨v',rfl,h1,h2⟩
    have HD:Hid (DrB w (.returned v') w'):=⟨v',rfl,h1,h2⟩
    clear h1 h2 HPK g0 g1 g2 g3 g4
    go_wp2_with fail
    go_ret
    exact HD
   ·have gy:¬ (y:Int)=0:=by omega
    clear hyc
    go_wp2_with fail
    clear cK9 cG9 HSS
    refine AnyL.region (S:=fun W':World=>W'.cell? ⟨G,4,none⟩=some (.slice (some ⟨gn,0,none⟩) n cn)) (z:=7) (by kernel_rfl) ?_
    obtain ⟨VD,hVD⟩:∃ VD,VD=w9.drew:=⟨_,rfl⟩
    rw [← hVD]
    have KD:Kb 0 w9 VD:=by rw [hVD];exact Kb.drew (Kb.refl _ _)
    have hCD:=hC9.kb KD
    have hKD:=(show Kg b w7 w9 from HK79).trans (Kg.of_kb KD)
    have hS0:(fun W':World=>W'.cell? ⟨G,4,none⟩=some (.slice (some ⟨gn,0,none⟩) n cn)) VD:=((show ∀ W,Kg b w7 W→_ from HR) VD hKD).2.2.2
    have HKD:Hid (Kg b w7 VD):=hKD
    have HCD:Hid (CU b pa ca m (0+90+2+90+2+2) VD):=hCD
    clear hVD KD hCD hKD hC9 HK79
    refine AnyL.takeAt 0 (.pointer (some ⟨G,4,none⟩)) rfl (by kernel_rfl) (by kernel_rfl) (by kernel_rfl) (by kernel_rfl) (fun _ _ _ h=>h) rfl hS0 (by intro W hW;go_simp) ?_
    try simp only [Act.put,List.setIfInBounds_toArray,List.set_cons_zero,List.set_cons_succ]
    refine AnyL.takeAt 1 (.slice (some ⟨gn,0,none⟩) n cn) rfl (by kernel_rfl) (by kernel_rfl) (by kernel_rfl) (by kernel_rfl) (fun _ _ _ h=>h) rfl hS0 (by intro W hW;go_simp) ?_
    try simp only [Act.put,List.setIfInBounds_toArray,List.set_cons_zero,List.set_cons_succ]
    refine AnyL.takeAt 2 (.int .i64 (k:Int)) rfl (by kernel_rfl) (by kernel_rfl) (by kernel_rfl) (by kernel_rfl) (fun _ _ _ h=>h) rfl hS0 (by intro W hW;go_simp) ?_
    try simp only [Act.put,List.setIfInBounds_toArray,List.set_cons_zero,List.set_cons_succ]
    refine AnyL.takeAt 3 (.pointer (some ⟨b,0,none⟩)) rfl (by kernel_rfl) (by kernel_rfl) (by kernel_rfl) (by kernel_rfl) (fun _ _ _ h=>h) rfl hS0 (by intro W hW;go_simp) ?_
    try simp only [Act.put,List.setIfInBounds_toArray,List.set_cons_zero,List.set_cons_succ]
    refine AnyL.oneAt 4 rfl (by kernel_rfl) rfl ?_
    intro K hK
    have HPC:=(show ∀ (n B1:Nat) (W1:World),CU b pa ca m B1 W1→0 < n→n≤1048576→B1+2≤1000000→Calls Try.prog 27 #[.pointer (some ⟨b,0,none⟩),.int .i64 (n:Int)] W1 fun e w'=>(∃ x:Nat,x < n∧e = .returned (.int .i64 (x:Int)))∧CU b pa ca m (B1+2) w'∧Kg b W1 w' from HA) 6 (0+90+2+90+2+2) VD HCD (by omega) (by omega) (by omega)
    go_simp
    refine HPC.mono ?_
    rintro e wc ⟨⟨t,ht,rfl⟩,hCc,hkc⟩
    have hKc:=(show Kg b w7 VD from HKD).trans hkc
    obtain ⟨kw,hGb,hTc,hSc⟩:=(show ∀ W,Kg b w7 W→_ from HR) wc hKc
    clear HPC hCc hkc HCD HKD hS0
    refine hK.out _ _ (fun _=>hSc) ?_
    clear hK K
    try simp only [Act.put,List.setIfInBounds_toArray,List.set_cons_zero,List.set_cons_succ]
    refine AnyL.oneAt 5 rfl (by kernel_rfl) rfl ?_
    intro K hK
    go_simp
    refine hK.out _ _ (fun _=>hSc) ?_
    clear hK K
    try simp only [Act.put,List.setIfInBounds_toArray,List.set_cons_zero,List.set_cons_succ]
    refine AnyL.takeAt 6 (.pointer (some ⟨gn,k*2,none⟩)) rfl (by kernel_rfl) (by kernel_rfl) (by kernel_rfl) (by kernel_rfl) (fun _ _ _ h=>h) rfl hSc (by intro W hW;go_simp) ?_
    try simp only [Act.put,List.setIfInBounds_toArray,List.set_cons_zero,List.set_cons_succ]
    obtain ⟨t1,t2,t3,t4,t5,t6⟩:=tag_set (t:Int) hTc hk
    obtain ⟨WF,hWF⟩:∃ WF,WF=wc.setCell ⟨gn,k*2,none⟩ (.int .i64 (t:Int)):=⟨_,rfl⟩
    rw [← hWF] at t5 t6
    have kF:Kb 0 w WF:=by rw [hWF];exact Kb.setCell kw _ (.inr (Nat.le_trans hwB t3)) _
    have hgG:G ≠ gn:=fun e=>by
     obtain ⟨_,_,_,e0,_,_,_,h1,_⟩:=hTc.at (by omega)
     injection e0 with e0 _ _
     injection e0 with e0
     injection e0 with e0 _ _
     rw [← e0,← e,hGb] at h1
     injection h1 with q
     injection q with _ q _
     revert q;decide
    have eG:=(t5 G hgG).trans hGb
    have HPK:Hid (Calls Try.prog 31 #[.agg #[.int .i64 4,.int .i64 0,.string ⟨#[]⟩,.int .i64 0,.slice (some ⟨gn,0,none⟩) n cn]] WF (DrB w)):=sm_packed ((show SmF n F from HSM).updT k t) kF t6
    have g0:WF.cell? ⟨G,0,none⟩=some (.int .i64 4):=cell_of eG rfl
    have g1:WF.cell? ⟨G,1,none⟩=some (.int .i64 0):=cell_of eG rfl
    have g2:WF.cell? ⟨G,2,none⟩=some (.string ⟨#[]⟩):=cell_of eG rfl
    have g3:WF.cell? ⟨G,3,none⟩=some (.int .i64 0):=cell_of eG rfl
    have g4:WF.cell? ⟨G,4,none⟩=some (.slice (some ⟨gn,0,none⟩) n cn):=cell_of eG rfl
    have hWd:wc.setCell ⟨gn,k*2,none⟩ (.int .i64 (t:Int))=WF:=hWF.symm
    clear hTc hGb t3 t4 t5 t6 kF kw hgG eG hWF hKc
    refine AnyL.oneAt 7 rfl (by kernel_rfl) rfl ?_
    intro K hK
    go_simp
    try rw [hWd]
    refine hK.out _ _ (fun h=>absurd rfl h) ?_
    clear hK K t1 t2 hWd hSc
    try simp only [Act.put,List.setIfInBounds_toArray,List.set_cons_zero,List.set_cons_succ]
    refine AnyL.done (by kernel_rfl) ?_
    go_wp2_with fail
    refine (show Calls _ _ _ _ _ from HPK).mono ?_
    rintro e w' ⟨v',rfl,h1,h2⟩
    have HD:Hid (DrB w (.returned v') w'):=⟨v',rfl,h1,h2⟩
    clear h1 h2 HPK g0 g1 g2 g3 g4
    go_wp2_with fail
    go_ret
    exact HD
 ·have g0:¬ (x:Int)=0:=by omega
  have hbw:w.heap.size≤b:=(show _∧_∧_ from HK1).2.1
  have HK4:Hid (∀ W,Kg b w4 W→Kb 0 w W∧W.ownsRow w2.heap.size 5 1 (.slice bp bl.length bc) bl.length (bvs bl)):=(fun W k=>⟨kb_of_kg (show _∧_ from HK3).1 (hk4.trans k) hbw,own_keep (show _∧_∧_∧_∧_ from HK3).2.2.2.2 (fun g e=>(hk4.trans k).block g ((show _∧_∧_∧_∧_ from HK3).2.2.2.2.lt g e).2 (by have:=((show _∧_∧_∧_∧_ from HK3).2.2.2.2.lt g e).1;have:=(show _∧_∧_∧_∧_ from HK3).2.1;omega))⟩:∀ W,Kg b w4 W→Kb 0 w W∧W.ownsRow w2.heap.size 5 1 (.slice bp bl.length bc) bl.length (bvs bl))
  have HBL:Hid (Bok bl∧bl.length≤8192):=(⟨(show _∧_∧_∧_∧_ from HK3).2.2.1,(show _∧_∧_∧_∧_ from HK3).2.2.2.1⟩:_∧_)
  have HP3:=(show ∀ (n B1:Nat) (W1:World),CU b pa ca m B1 W1→0 < n→n≤1048576→B1+2≤1000000→Calls Try.prog 27 #[.pointer (some ⟨b,0,none⟩),.int .i64 (n:Int)] W1 fun e w'=>(∃ x:Nat,x < n∧e = .returned (.int .i64 (x:Int)))∧CU b pa ca m (B1+2) w'∧Kg b W1 w' from HA) 3 (0+90+2) w4 hC4 (by omega) (by omega) (by omega)
  have HDO:Hid (∀ W,Kg b w4 W→DrB w (.returned (.slice bp bl.length bc)) W):=(fun W k=>⟨_,rfl,BwT.byr ⟨bl,(show _∧_ from HBL).1,(show _∧_ from HBL).2,((show ∀ W,_ from HK4) W k).2⟩,((show ∀ W,_ from HK4) W k).1⟩:∀ W,Kg b w4 W→DrB w (.returned (.slice bp bl.length bc)) W)
  clear HP2 hC4 hk4 HK3 HC2
  go_wp2_with fail
  refine HP3.mono ?_
  rintro e w5 ⟨⟨y,hy,rfl⟩,hC5,hk5⟩
  clear HP3
  by_cases hyl:y=0∧0 < bl.length
  ·obtain ⟨rfl,h0⟩:=hyl
   have h0I:(0:Int) < (bl.length:Int):=by omega
   have HP4:=(show ∀ (n B1:Nat) (W1:World),CU b pa ca m B1 W1→0 < n→n≤1048576→B1+2≤1000000→Calls Try.prog 27 #[.pointer (some ⟨b,0,none⟩),.int .i64 (n:Int)] W1 fun e w'=>(∃ x:Nat,x < n∧e = .returned (.int .i64 (x:Int)))∧CU b pa ca m (B1+2) w'∧Kg b W1 w' from HA) bl.length (0+90+2+2) w5 hC5 h0 (by omega) (by omega)
   obtain ⟨g,cap,cur,ee,eo,hBg,hgz,hcap,hcur,hcell⟩:=own_blk ((show ∀ W,_ from HK4) w5 hk5).2 h0
   obtain ⟨rfl,-,rfl⟩:=(Value.slice.injEq _ _ _ _ _ _).mp ee
   clear hcur hcell hgz eo ee hC5
   go_wp2_with fail
   refine HP4.mono ?_
   rintro e w6 ⟨⟨i,hi,rfl⟩,hC6,hk6⟩
   have HP5:=cu_next hC6 (by omega)
   clear HP4
   go_wp2_with fail
   refine HP5.mono ?_
   rintro e w7 ⟨⟨z,hz,rfl⟩,hC7,hk7⟩
   have hk47:=(hk5.trans hk6).trans hk7
   obtain ⟨kb7,ow7⟩:=(show ∀ W,_ from HK4) w7 hk47
   obtain ⟨g',cap',cur,ee,eo,hBg',hgz,hcap',hcur,hcell⟩:=own_blk ow7 h0
   obtain ⟨e1,-,rfl⟩:=(Value.slice.injEq _ _ _ _ _ _).mp ee
   obtain rfl:g'=g:=by injection e1 with e1;injection e1 with e1 _ _;exact e1.symm
   have hcells:∀ j,j < bl.length→w7.cell? ⟨g',j,none⟩=some (.int .u8 (bl.getD j 0)):=fun j hj=>by
    rw [hcell j (by omega)]
    show (bl.map _)[j]? = _
    rw [List.getElem?_map,List.getD_eq_getElem?_getD,List.getElem?_eq_getElem hj]
    rfl
   have ci:w7.cell? ⟨g',i,none⟩=some (.int .u8 (bl.getD i 0)):=hcells i hi
   have fi:w7.frozen? ⟨g',i,none⟩=false:=frozen_of hcur
   have hz8:IntKind.u8.wrap (z:Int)=(z:Int):=by rw [IntKind.wrap_u8];omega
   have hiI:(i:Int) < (bl.length:Int):=by omega
   have HD:Hid (DrB w (.returned (.slice (some ⟨g',0,none⟩) bl.length bc)) (w7.setCell ⟨g',i,none⟩ (.int .u8 (z:Int)))):=(⟨_,rfl,byr_of (A:=fun j=>if j=i then (z:Int) else bl.getD j 0) (show _∧_ from HBL).2 hcap' (by rw [World.size_setCell];exact hgz) (fun j hj=>by
    rw [addr0]
    show _=some (Value.int IntKind.u8 (if j=i then (z:Int) else bl.getD j 0))
    by_cases e:j=i
    ·subst e
     rw [if_pos rfl]
     exact World.cell?_setCell_same _ _ _ ci
    ·rw [if_neg e,World.cell?_setCell_other w7 ⟨g',i,none⟩ ⟨g',j,none⟩ _ (fun q=>by injection q with _ q _;exact e q.symm)]
     exact hcells j hj) (fun j hj=>by
    show 0≤(if j=i then (z:Int) else bl.getD j 0)∧(if j=i then (z:Int) else bl.getD j 0)≤255
    split
    ·omega
    ·exact bok_getD (show _∧_ from HBL).1 j hj),Kb.setCell kb7 _ (.inr (by have:=(show ∀ W,_ from HK4) w7 hk47;show w.heap.size≤g';exact Nat.le_trans HZW hBg')) _⟩:DrB w (.returned (.slice (some ⟨g',0,none⟩) bl.length bc)) (w7.setCell ⟨g',i,none⟩ (.int .u8 (z:Int))))
   clear hcells hcell hcur ow7 kb7 hk47 hk5 hk6 hk7 hC6 hC7 HP5 HDO HK4 ee eo hgz e1
   go_wp2_with fail
   go_ret
   exact HD
  ·have HD:Hid (DrB w (.returned (.slice bp bl.length bc)) w5):=(show ∀ W,_ from HDO) w5 hk5
   clear HDO HK4 hk5 hC5
   by_cases hy0:y=0
   ·have h0:bl.length=0:=by omega
    subst hy0
    rw [h0] at HD
    have h0I:¬ (0:Int) < (bl.length:Int):=by omega
    go_wp2_with fail
    go_ret
    exact HD
   ·have gy:¬ (y:Int)=0:=by omega
    go_wp2_with fail
    go_ret
    exact HD
end Go.Proofs.Ytamcnmnaadpfoaa.Fo
