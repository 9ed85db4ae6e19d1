import Derived.Test.YtamcnmnaadpfoaaFXdf
import Derived.Test.YtamcnmnaadpfoaaFXde
import Derived.Deep.AppendLies
set_option maxHeartbeats 8000000
namespace Go.Proofs.Ytamcnmnaadpfoaa.Fo
open Go.ChangeShapes Go.WideShapes Go.ChangeAt Go.RowKit
set_option linter.unusedVariables false
set_option maxRecDepth 100000
theorem infoEv:(Try.prog.info? 121).map (fun i=>(i.zero,i.size,i.bytes))=some (some (.agg #[.int .i64 0,.int .i64 0,.int .i64 0,.string ⟨#[]⟩,.string ⟨#[]⟩,.int .i64 0,.int .i64 0,.int .i64 0,.string ⟨#[]⟩,.slice none 0 0]),10,120):=by kernel_rfl
theorem CU.grow {b:Nat} {p:Option Addr} {c m B0 B':Nat} {W w w8:World} {t s n:Nat} {v:Value} {l:List Value} (h:CU b p c m B0 W) (hC:CU b p c m B' w) (hk:Kg b W w) (ho:w.ownsRow W.heap.size t s v n l) (hg:w.grownBy w8 v.ownBlock):CU b p c m B' w8∧Kg b W w8:=by
 have hb:=h.lt
 have hs:=hk.size
 have hz:=hg.size
 have k:Kg b W w8:=⟨hg.os.trans hk.os,hg.output.trans hk.output,by omega,fun q h1 h2=>(hg.block q (by omega) (fun e=>by have:=(ho.lt q e.symm).1;omega)).trans (hk.block q h1 h2)⟩
 obtain ⟨k1,s1,e1,e2,e3⟩:=hC.blk
 exact ⟨h.kz k k1 s1 ((hg.block b (by omega) (fun e=>by have:=(ho.lt b e.symm).1;omega)).trans e1) e2 e3,k⟩
theorem own_kg {b:Nat} {W w w':World} {t s n:Nat} {v:Value} {l:List Value} (h:w.ownsRow W.heap.size t s v n l) (hb:b < W.heap.size) (k:Kg b w w'):w'.ownsRow W.heap.size t s v n l :=
 own_keep h (fun g e=>k.block g (h.lt g e).2 (by have:=(h.lt g e).1;omega))
structure Li (b:Nat) (p:Option Addr) (c m B:Nat) (W:World) (v:Value) (k:Nat) (L:List Ew) (wr:World):Prop where
 cu:CU b p c m (B+2+8*L.length) wr
 kg:Kg b W wr
 row:wr.ownsRow W.heap.size 121 10 v L.length (L.flatMap evc)
 ev:∀ e,e ∈ L→EvI e
 le:L.length+k≤6
def DrL (b:Nat) (p:Option Addr) (c m B k:Nat) (W:World) (e:Ending) (w':World):Prop:=∃ v,e = .returned v∧RwT W.heap.size k 5 w' v∧CU b p c m B w'∧Kg b W w'
theorem cu_lines {b : Nat} {p : Option Addr} {c m B : Nat} {W : World} (h : CU b p c m B W) (hB : B + 60 ≤ 1000000) :
  Calls Try.prog 52 #[.pointer (some ⟨b,0,none⟩)] W (DrL b p c m (B+60) 25 W):=by
 have HA:Hid (∀ (n B1:Nat) (W1:World),CU b p c m B1 W1→0 < n→n≤1048576→B1+2≤1000000→Calls Try.prog 27 #[.pointer (some ⟨b,0,none⟩),.int .i64 (n:Int)] W1 fun e w'=>(∃ x:Nat,x < n∧e = .returned (.int .i64 (x:Int)))∧CU b p c m (B1+2) w'∧Kg b W1 w'):=(fun n B1 W1 h1 h2 h3 h4=>cu_pick h1 n h2 h3 h4:∀ (n B1:Nat) (W1:World),_)
 have HST:Hid (∀ (B1:Nat) (W1:World),CU b p c m B1 W1→B1+8≤1000000→Calls Try.prog 85 #[.pointer (some ⟨b,0,none⟩)] W1 (DrE b p c m (B1+8) W1)):=(fun B1 W1 h1 h2=>cu_stim h1 h2:∀ (B1:Nat) (W1:World),_)
 have HSE:Hid (∀ (va:Value) (L:List Ew) (w:World),EwR w va L→L.length≤6→(∀ e,e ∈ L→EvI e)→Calls Try.prog 86 #[va] w fun e w'=>∃ v,e = .returned v∧RwT w.heap.size (4*L.length) 5 w' v∧Kb 0 w w'):=(fun va L w h1 h2 h3=>dr_sess w h1 h2 h3:∀ (va:Value) (L:List Ew) (w:World),_)
 have HH:Hid (CU b p c m B W):=h
 obtain ⟨i0,hi0,hz0,hz1,hz2⟩:=info_parts infoEv
 have HI0:Hid (Try.prog.info? 121=some i0):=hi0
 have HP1:=cu_pick h 7 (by omega) (by omega) (by omega)
 clear h hi0
 go_enter Try.func52,Try.ntmps52
 go_wp2_with fail
 refine HP1.mono ?_
 rintro e w1 ⟨⟨x,hx,rfl⟩,hC1,hk1⟩
 have HL0:Hid (Li b p c m B W (.slice none 0 0) x [] w1):=(⟨hC1,hk1,World.ownsRow_nil _ _ _ _,fun e he=>(nomatch he),by simp;omega⟩:Li b p c m B W (.slice none 0 0) x [] w1)
 clear HP1 hC1 hk1
 go_wp2_with fail
 go_loopw [3,4] (fun s3 s4 wr=>∃ (L:List Ew) (k:Nat),s4 = .int .i64 (k:Int)∧k≤6∧Hid (Li b p c m B W s3 k L wr)) (fun _ s4 _=>(intOf s4).toNat)
 case atStart=>exact ⟨[],x,rfl,by omega,HL0⟩
 case round =>
  clear HL0
  obtain ⟨L,k,rfl,hk6,HX⟩:=hrel
  have hL:=(show Li b p c m B W u3 k L wr from HX)
  obtain ⟨pv,cv,rfl⟩:=own_shape hL.row
  clear HX
  by_cases hk0:k=0
  ·subst hk0
   have HS1:=(show ∀ (va:Value) (L:List Ew) (w:World),EwR w va L→L.length≤6→(∀ e,e ∈ L→EvI e)→Calls Try.prog 86 #[va] w fun e w'=>∃ v,e = .returned v∧RwT w.heap.size (4*L.length) 5 w' v∧Kb 0 w w' from HSE) _ L wr (ewr_of hL.row) (by have:=hL.le;omega) hL.ev
   have HLL:Hid (Li b p c m B W (.slice pv L.length cv) 0 L wr):=hL
   have hL6:(L.length:Int)≤6:=by have:=hL.le;omega
   clear hL HI0 HST HSE
   go_wp2_with fail
   refine HS1.mono ?_
   rintro e w2 ⟨v2,rfl,⟨Q,hQ1,hQ2,hQ3⟩,hk2⟩
   obtain ⟨p2,c2,rfl⟩:=own_shape hQ3
   have hLL:=(show Li b p c m B W (.slice pv L.length cv) 0 L wr from HLL)
   have hC2:CU b p c m (B+50) w2:=(hLL.cu.mono (by have:=hLL.le;omega)).kb hk2
   have hkg2:Kg b W w2:=hLL.kg.trans (Kg.of_kb hk2)
   have hQ4:w2.ownsRow W.heap.size 9 1 (.slice p2 Q.length c2) Q.length (Q.map Value.string):=ownsRow_mono9 hQ3 hLL.kg.size
   have hQ24:Q.length≤24:=by have:=hLL.le;omega
   have HP2:=(show ∀ (n B1:Nat) (W1:World),CU b p c m B1 W1→0 < n→n≤1048576→B1+2≤1000000→Calls Try.prog 27 #[.pointer (some ⟨b,0,none⟩),.int .i64 (n:Int)] W1 fun e w'=>(∃ x:Nat,x < n∧e = .returned (.int .i64 (x:Int)))∧CU b p c m (B1+2) w'∧Kg b W1 w' from HA) 12 (B+50) w2 hC2 (by omega) (by omega) (by omega)
   have HQ:Hid (Q.length≤24∧(∀ s,s ∈ Q→s.size≤5)∧w2.ownsRow W.heap.size 9 1 (.slice p2 Q.length c2) Q.length (Q.map Value.string)∧Kg b W w2):=(⟨hQ24,hQ2,hQ4,hkg2⟩:_∧_)
   clear HS1 hQ1 hQ2 hQ3 hQ4 hk2 hLL HLL hC2 hkg2 hL6
   go_wp2_with fail
   refine HP2.mono ?_
   rintro e w3 ⟨⟨y,hy,rfl⟩,hC3,hk3⟩
   clear HP2
   by_cases hy0:y=0
   ·subst hy0
    obtain ⟨hq1,hq2,hq3,hq4⟩:=(show Q.length≤24∧(∀ s,s ∈ Q→s.size≤5)∧w2.ownsRow W.heap.size 9 1 (.slice p2 Q.length c2) Q.length (Q.map Value.string)∧Kg b W w2 from HQ)
    have hb:=(show CU b p c m B W from HH).lt
    have HQ3:Hid (Q.length≤24∧(∀ s,s ∈ Q→s.size≤5)∧w3.ownsRow W.heap.size 9 1 (.slice p2 Q.length c2) Q.length (Q.map Value.string)∧Kg b W w3):=(⟨hq1,hq2,own_kg hq3 hb hk3,hq4.trans hk3⟩:_∧_)
    have HC3:Hid (CU b p c m (B+50+2) w3):=hC3
    clear hq1 hq2 hq3 hq4 hC3 hk3 HQ hb
    have hC4:CU b p c m (B+50+2) (w3.alloc (.cells #[.string ⟨#[115,97,121]⟩,.string ⟨#[105,110,112,117,116]⟩,.string ⟨#[]⟩,.string ⟨#[119,104,97,116]⟩,.string ⟨#[110,105,108]⟩] 9)):=(show CU b p c m (B+50+2) w3 from HC3).kb (kb_alloc _ _ _)
    have hk4:Kg b w3 (w3.alloc (.cells #[.string ⟨#[115,97,121]⟩,.string ⟨#[105,110,112,117,116]⟩,.string ⟨#[]⟩,.string ⟨#[119,104,97,116]⟩,.string ⟨#[110,105,108]⟩] 9)):=Kg.of_kb (kb_alloc _ _ _)
    have bZ:(w3.alloc (.cells #[.string ⟨#[115,97,121]⟩,.string ⟨#[105,110,112,117,116]⟩,.string ⟨#[]⟩,.string ⟨#[119,104,97,116]⟩,.string ⟨#[110,105,108]⟩] 9)).heap[w3.heap.size]? = some (.cells #[.string ⟨#[115,97,121]⟩,.string ⟨#[105,110,112,117,116]⟩,.string ⟨#[]⟩,.string ⟨#[119,104,97,116]⟩,.string ⟨#[110,105,108]⟩] 9 (0,0)):=alloc_new _ _ _
    have HP3:=(show ∀ (n B1:Nat) (W1:World),CU b p c m B1 W1→0 < n→n≤1048576→B1+2≤1000000→Calls Try.prog 27 #[.pointer (some ⟨b,0,none⟩),.int .i64 (n:Int)] W1 fun e w'=>(∃ x:Nat,x < n∧e = .returned (.int .i64 (x:Int)))∧CU b p c m (B1+2) w'∧Kg b W1 w' from HA) 5 (B+50+2) _ hC4 (by omega) (by omega) (by omega)
    have HK4:Hid (Kg b w3 (w3.alloc (.cells #[.string ⟨#[115,97,121]⟩,.string ⟨#[105,110,112,117,116]⟩,.string ⟨#[]⟩,.string ⟨#[119,104,97,116]⟩,.string ⟨#[110,105,108]⟩] 9))∧(w3.alloc (.cells #[.string ⟨#[115,97,121]⟩,.string ⟨#[105,110,112,117,116]⟩,.string ⟨#[]⟩,.string ⟨#[119,104,97,116]⟩,.string ⟨#[110,105,108]⟩] 9)).heap[w3.heap.size]? = some (.cells #[.string ⟨#[115,97,121]⟩,.string ⟨#[105,110,112,117,116]⟩,.string ⟨#[]⟩,.string ⟨#[119,104,97,116]⟩,.string ⟨#[110,105,108]⟩] 9 (0,0))∧w3.heap.size ≠ b):=(⟨hk4,bZ,Nat.ne_of_gt (show CU b p c m (B+50+2) w3 from HC3).lt⟩:_∧_)
    clear hC4 hk4 bZ HC3
    go_wp2_with fail
    refine HP3.mono ?_
    rintro e w5 ⟨⟨z,hz,rfl⟩,hC5,hk5⟩
    have hk35:Kg b w3 w5:=(show _∧_∧_ from HK4).1.trans hk5
    have bZ5:w5.heap[w3.heap.size]? = some (.cells #[.string ⟨#[115,97,121]⟩,.string ⟨#[105,110,112,117,116]⟩,.string ⟨#[]⟩,.string ⟨#[119,104,97,116]⟩,.string ⟨#[110,105,108]⟩] 9 (0,0)):=(hk5.block _ (Array.getElem?_eq_some_iff.1 (show _∧_∧_ from HK4).2.1).1 (show _∧_∧_ from HK4).2.2).trans (show _∧_∧_ from HK4).2.1
    obtain ⟨s,hs,hcs⟩:∃ s:ByteArray,s.size≤5∧w5.cell? ⟨w3.heap.size,z,none⟩=some (.string s):=by
     rcases (by omega:z=0∨z=1∨z=2∨z=3∨z=4) with rfl | rfl | rfl | rfl | rfl
     ·exact ⟨_,by decide,cell_of bZ5 rfl⟩
     ·exact ⟨_,by decide,cell_of bZ5 rfl⟩
     ·exact ⟨_,by decide,cell_of bZ5 rfl⟩
     ·exact ⟨_,by decide,cell_of bZ5 rfl⟩
     ·exact ⟨_,by decide,cell_of bZ5 rfl⟩
    obtain ⟨hq1,hq2,hq3,hq4⟩:=(show Q.length≤24∧(∀ s,s ∈ Q→s.size≤5)∧w3.ownsRow W.heap.size 9 1 (.slice p2 Q.length c2) Q.length (Q.map Value.string)∧Kg b W w3 from HQ3)
    have hb:=(show CU b p c m B W from HH).lt
    have hz5w:W.heap.size≤w5.heap.size:=Nat.le_trans hq4.size hk35.size
    have hown:(w5.alloc (.cells #[.string s] 9)).ownsRow W.heap.size 9 1 (.slice p2 Q.length c2) Q.length (Q.map Value.string):=(own_kg hq3 hb hk35).alloc _
    have hqc:=qr_cells w5 #[.string s] 9 [.string s] rfl
    have h1c:∀ u ∈ ([.string s]:List Value),u.oneCell'=true:=by intro u hu;simp at hu;rcases hu with rfl;rfl
    have HSTP:Hid (∀ (g' c':Nat) (w6:World),w6.ownsRow W.heap.size 9 1 (.slice (some ⟨g',0,none⟩) (Q.length+1) c') (Q.length+1) (Q.map Value.string ++ [.string s])→(w5.alloc (.cells #[.string s] 9)).grownBy w6 (Value.slice p2 Q.length c2).ownBlock→DrL b p c m (B+60) 25 W (.returned (.slice (some ⟨g',0,none⟩) (Q.length+1) c')) w6):=(fun g' c' w6 h1 h2=>by
     obtain ⟨r1,r2⟩:=(show CU b p c m B W from HH).grow (hC5.kb (kb_alloc 0 w5 _)) ((hq4.trans hk35).trans (Kg.of_kb (kb_alloc 0 w5 _))) hown h2
     refine ⟨_,rfl,⟨Q ++ [s],by rw [List.length_append,List.length_singleton];omega,?_,?_⟩,r1.mono (by omega),r2⟩
     ·intro t ht
      rcases List.mem_append.1 ht with ht | ht
      ·exact hq2 t ht
      ·rw [List.mem_singleton.1 ht];exact hs
     ·rw [List.length_append,List.length_singleton,List.map_append]
      exact h1:∀ (g' c':Nat) (w6:World),_)
    obtain ⟨i1,hi1,hy0,hy1,hy2⟩:=infoS
    have HI1:Hid (Try.prog.info? 9=some i1):=hi1
    have hzI:(z:Int) < 5:=by omega
    clear HP3 hC5 hk5 hk35 bZ5 hq1 hq2 hq3 hq4 hb HK4 HQ3 hi1
    go_wp2_with (at_builtin;refine wpList_append_lies _ rfl (.tmp 22) (.tmp 28) 23 rfl W.heap.size 9 i1 (.string ⟨#[]⟩) 1 16 Try.underlying23 HI1 hy0 hy1 hy2 rfl (by decide) _ _ _ rfl hown ⟨w5.heap.size,0,none⟩ 1 1 [.string s] rfl rfl hqc h1c (by decide) (by unfold maxLen;omega) (by omega) (by simp;omega) (w5.heap.size+1) (by simp) ?_;intro g' cap' w6 hown3 hgr3 _ _;have HN:Hid (DrL b p c m (B+60) 25 W (.returned (.slice (some ⟨g',0,none⟩) (Q.length+1) cap')) w6):=(show ∀ (g' c':Nat) (w6:World),_ from HSTP) _ _ _ hown3 hgr3;clear hown3 hgr3 hown hqc h1c HSTP)
    go_ret
    exact HN
   ·have g0:¬ (y:Int)=0:=by omega
    obtain ⟨hq1,hq2,hq3,hq4⟩:=(show Q.length≤24∧(∀ s,s ∈ Q→s.size≤5)∧w2.ownsRow W.heap.size 9 1 (.slice p2 Q.length c2) Q.length (Q.map Value.string)∧Kg b W w2 from HQ)
    have HD:Hid (DrL b p c m (B+60) 25 W (.returned (.slice p2 Q.length c2)) w3):=(⟨_,rfl,⟨Q,by omega,hq2,own_kg hq3 (show CU b p c m B W from HH).lt hk3⟩,hC3.mono (by omega),hq4.trans hk3⟩:DrL b p c m (B+60) 25 W (.returned (.slice p2 Q.length c2)) w3)
    clear hq1 hq2 hq3 hq4 hC3 hk3 HQ
    go_wp2_with fail
    go_ret
    exact HD
  ·have g0:(0:Int) < (k:Int):=by omega
   have HS1:=(show ∀ (B1:Nat) (W1:World),CU b p c m B1 W1→B1+8≤1000000→Calls Try.prog 85 #[.pointer (some ⟨b,0,none⟩)] W1 (DrE b p c m (B1+8) W1) from HST) _ wr hL.cu (by have:=hL.le;omega)
   have HLL:Hid (Li b p c m B W (.slice pv L.length cv) k L wr):=hL
   have hL6:(L.length:Int)≤6:=by have:=hL.le;omega
   clear hL HSE
   go_wp2_with fail
   refine HS1.mono ?_
   rintro e w2 ⟨op,n,nm,tx,rfl,hev,hC2,hk2⟩
   have hLL:=(show Li b p c m B W (.slice pv L.length cv) k L wr from HLL)
   have hb:=(show CU b p c m B W from HH).lt
   have hz2w:W.heap.size≤w2.heap.size:=Nat.le_trans hLL.kg.size hk2.size
   have hown:(w2.alloc (.cells #[.int .i64 (op:Int),.int .i64 (n:Int),.int .i64 0,.string nm,.string tx,.int .i64 0,.int .i64 0,.int .i64 0,.string ⟨#[]⟩,.slice none 0 0] 121)).ownsRow W.heap.size 121 10 (.slice pv L.length cv) L.length (L.flatMap evc):=(own_kg hLL.row hb hk2).alloc _
   have hqc:=qr_cells w2 #[.int .i64 (op:Int),.int .i64 (n:Int),.int .i64 0,.string nm,.string tx,.int .i64 0,.int .i64 0,.int .i64 0,.string ⟨#[]⟩,.slice none 0 0] 121 [.int .i64 (op:Int),.int .i64 (n:Int),.int .i64 0,.string nm,.string tx,.int .i64 0,.int .i64 0,.int .i64 0,.string ⟨#[]⟩,.slice none 0 0] rfl
   have h1c:∀ u ∈ ([.int .i64 (op:Int),.int .i64 (n:Int),.int .i64 0,.string nm,.string tx,.int .i64 0,.int .i64 0,.int .i64 0,.string ⟨#[]⟩,.slice none 0 0]:List Value),u.oneCell'=true:=by intro u hu;simp at hu;rcases hu with rfl | rfl | rfl | rfl | rfl | rfl | rfl | rfl <;> rfl
   have HSTP:Hid (∀ (g' c':Nat) (w3:World),w3.ownsRow W.heap.size 121 10 (.slice (some ⟨g',0,none⟩) (L.length+1) c') (L.length+1) (L.flatMap evc ++ [.int .i64 (op:Int),.int .i64 (n:Int),.int .i64 0,.string nm,.string tx,.int .i64 0,.int .i64 0,.int .i64 0,.string ⟨#[]⟩,.slice none 0 0])→(w2.alloc (.cells #[.int .i64 (op:Int),.int .i64 (n:Int),.int .i64 0,.string nm,.string tx,.int .i64 0,.int .i64 0,.int .i64 0,.string ⟨#[]⟩,.slice none 0 0] 121)).grownBy w3 (Value.slice pv L.length cv).ownBlock→Li b p c m B W (.slice (some ⟨g',0,none⟩) (L.length+1) c') (k - 1) (L ++ [(op,n,nm,tx)]) w3):=(fun g' c' w3 h1 h2=>by
    obtain ⟨r1,r2⟩:=(show CU b p c m B W from HH).grow (hC2.kb (kb_alloc 0 w2 _)) ((hLL.kg.trans hk2).trans (Kg.of_kb (kb_alloc 0 w2 _))) hown h2
    refine ⟨r1.mono (by rw [List.length_append,List.length_singleton];omega),r2,?_,?_,?_⟩
    ·rw [List.length_append,List.flatMap_append]
     exact h1
    ·intro e he
     rcases List.mem_append.1 he with he | he
     ·exact hLL.ev e he
     ·rw [List.mem_singleton.1 he];exact hev
    ·rw [List.length_append,List.length_singleton]
     have:=hLL.le
     omega:∀ (g' c':Nat) (w3:World),_)
   have hkw:IntKind.i64.wrap ((k:Int) - 1)=((k - 1:Nat):Int):=by rw [IntKind.wrap_i64];omega
   clear HS1 hev hC2 hk2 hLL HLL hb
   go_wp2_with (at_builtin;refine wpList_append_lies _ rfl (.tmp 12) (.tmp 15) 118 rfl W.heap.size 121 i0 (.agg #[.int .i64 0,.int .i64 0,.int .i64 0,.string ⟨#[]⟩,.string ⟨#[]⟩,.int .i64 0,.int .i64 0,.int .i64 0,.string ⟨#[]⟩,.slice none 0 0]) 10 120 Try.underlying118 HI0 hz0 hz1 hz2 rfl (by decide) _ _ _ rfl hown ⟨w2.heap.size,0,none⟩ 1 1 [.int .i64 (op:Int),.int .i64 (n:Int),.int .i64 0,.string nm,.string tx,.int .i64 0,.int .i64 0,.int .i64 0,.string ⟨#[]⟩,.slice none 0 0] rfl rfl hqc h1c (by decide) (by unfold maxLen;omega) (by omega) (by simp;omega) (w2.heap.size+1) (by simp) ?_;intro g' cap' w3 hown3 hgr3 _ _;have HN:Hid (Li b p c m B W (.slice (some ⟨g',0,none⟩) (L.length+1) cap') (k - 1) (L ++ [(op,n,nm,tx)]) w3):=(show ∀ (g' c':Nat) (w3:World),_ from HSTP) _ _ _ hown3 hgr3;clear hown3 hgr3 hown hqc h1c HSTP)
   go_roundw
   case rel=>exact ⟨L ++ [(op,n,nm,tx)],k - 1,rfl,by omega,HN⟩
   case measure=>simp [intOf];omega
end Go.Proofs.Ytamcnmnaadpfoaa.Fo
