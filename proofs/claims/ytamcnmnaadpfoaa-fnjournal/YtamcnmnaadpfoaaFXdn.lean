import Derived.Test.YtamcnmnaadpfoaaFJge
set_option maxHeartbeats 32000000
namespace Go.Proofs.Ytamcnmnaadpfoaa.Fo
open Go.ChangeShapes Go.WideShapes Go.ChangeAt Go.RowKit
set_option linter.unusedVariables false
set_option maxRecDepth 100000
def GrO (n:Nat) (F:Nat→Td) (w:World) (e:Ending) (w':World):Prop:=∃ v V,e = .returned (grv (ndV 0) v)∧TH w.heap.size w' v n F V∧Kb 0 w w'
theorem sp_graphO {J : Jd} {p1 p2 : Option Addr} {c1 c2 : Nat} (w : World) (hl : RowV w (.slice p1 J.n c1) J.n (fun i => .string (J.S i))) (hs : Js.RowW 0 w (.slice p2 J.m c2) J.m J.T) (hn : J.n ≤ 200) (hm : J.m ≤ 20) :
  Calls Try.prog 28 #[.agg #[.slice p1 J.n c1,.int .i64 J.p,.int .i64 J.q,.slice p2 J.m c2]] w (GrO (3+J.m) (jF J) w):=by
 obtain ⟨n,S,p,q,m,T⟩:=J
 dsimp only at hl hs hn hm ⊢
 obtain ⟨w2,hw2⟩:∃ w2,w2=(w.alloc (.cells #[.slice p1 n c1,.int .i64 p,.int .i64 q,.slice p2 m c2] 26)).alloc (.cells #[.int .i64 0,.int .i64 0,.string ⟨#[]⟩,.int .i64 0,.slice none 0 0] 44):=⟨_,rfl⟩
 have k2:Kb 0 w w2:=by rw [hw2];exact kb_alloc2 _ _ _ _
 have z2:w2.heap.size=w.heap.size+2:=by rw [hw2];simp
 have b0:w2.heap[w.heap.size]? = some (.cells #[.slice p1 n c1,.int .i64 p,.int .i64 q,.slice p2 m c2] 26 (0,0)):=by
  rw [hw2,(kb_alloc 0 _ _).block _ (Nat.zero_le _) (by rw [World.size_alloc];omega)]
  exact alloc_new _ _ _
 have b1:w2.heap[w.heap.size+1]? = some (.cells #[.int .i64 0,.int .i64 0,.string ⟨#[]⟩,.int .i64 0,.slice none 0 0] 44 (0,0)):=by
  have e:(w.alloc (.cells #[.slice p1 n c1,.int .i64 p,.int .i64 q,.slice p2 m c2] 26)).heap.size=w.heap.size+1:=World.size_alloc _ _
  rw [hw2,← e]
  exact alloc_new _ _ _
 have hnI:(n:Int)≤200:=by omega
 have hmI:(m:Int)≤20:=by omega
 obtain ⟨RL,hRL⟩:∃ RL,RL=vls (rtT p q).C 4:=⟨_,rfl⟩
 have HRL:Hid (RL=vls (rtT p q).C 4):=hRL
 obtain ⟨L,hL⟩:∃ L,L=w2.heap.size:=⟨_,rfl⟩
 obtain ⟨w3,hw3⟩:∃ w3,w3=w2.alloc (.cells #[.int .i64 0,.slice none 0 0] 50):=⟨_,rfl⟩
 have k3:Kb 0 w2 w3:=by rw [hw3];exact kb_alloc _ _ _
 have b3:w3.heap[L]? = some (.cells #[.int .i64 0,.slice none 0 0] 50 (0,0)):=by rw [hw3,hL];exact alloc_new _ _ _
 obtain ⟨w4,hw4⟩:∃ w4,w4=w3.setCell ⟨L,0,none⟩ (.int .i64 2):=⟨_,rfl⟩
 have b4:w4.heap[L]? = some (.cells #[.int .i64 2,.slice none 0 0] 50 (0,0)):=by rw [hw4];exact set_known _ b3
 have k24:Kb 0 w2 w4:=by rw [hw4];exact k3.setCell _ (.inr (by show w2.heap.size≤L;omega)) _
 have z4:w4.heap.size=L+1:=by rw [hw4,hw3,hL];simp
 have c30:w3.cell? ⟨L,0,none⟩=some (.int .i64 0):=cell_of b3 rfl
 have f30:∀ j,w3.frozen? ⟨L,j,none⟩=false:=fun j=>frozen_of b3
 have q0:w4.cell? ⟨w.heap.size,0,none⟩=some (.slice p1 n c1):=cell_of (blk_kb b0 k24) rfl
 have HLS:Hid (LS w4 L 2 (lnT n S).C 0 (.slice none 0 0) w4):=LS.new b4
 have H4:Hid (Kb 0 w w4∧w4.heap[w.heap.size]? = some (.cells #[.slice p1 n c1,.int .i64 p,.int .i64 q,.slice p2 m c2] 26 (0,0))∧w4.heap[w.heap.size+1]? = some (.cells #[.int .i64 0,.int .i64 0,.string ⟨#[]⟩,.int .i64 0,.slice none 0 0] 44 (0,0))∧L=w.heap.size+2∧w4.heap.size=L+1):=(⟨k2.trans k24,blk_kb b0 k24,blk_kb b1 k24,by omega,z4⟩:_∧_)
 have HLN:Hid (RowV w (.slice p1 n c1) n (fun i=>.string (S i))∧Kb 0 w w4∧w.heap.size≤L):=(⟨hl,k2.trans k24,by omega⟩:_∧_)
 have HSS:Hid (Js.RowW 0 w (.slice p2 m c2) m T):=hs
 have HW2:Hid (w2=(w.alloc (.cells #[.slice p1 n c1,.int .i64 p,.int .i64 q,.slice p2 m c2] 26)).alloc (.cells #[.int .i64 0,.int .i64 0,.string ⟨#[]⟩,.int .i64 0,.slice none 0 0] 44)):=hw2
 have HW3:Hid (w3=w2.alloc (.cells #[.int .i64 0,.slice none 0 0] 50)∧L=w2.heap.size):=(⟨hw3,hL⟩:_∧_)
 have HW4:Hid (w4=w3.setCell ⟨L,0,none⟩ (.int .i64 2)):=hw4
 clear hl hs hn hm k2 z2 b0 b1 hw2 hRL hL hw3 k3 b3 hw4 b4 k24 z4
 go_enter Try.func28,Try.ntmps28
 go_upto_region 1 with fail
 rw [← (show w2 = _ from HW2)]
 clear HW2
 go_upto_region 2 with fail
 rw [← (show _∧_ from HW3).1,← (show _∧_ from HW3).2]
 clear HW3
 go_upto_region 3 with fail
 rw [← (show w4 = _ from HW4)]
 clear HW4 c30 f30
 go_wp2_with fail
 clear q0
 go_loopw [16] (fun s16 wr=>∃ (i:Nat) (v:Value),s16 = .int .i64 (i:Int)∧i≤n∧Hid (LS w4 L 2 (lnT n S).C i v wr)) (fun s16 _=>n - (intOf s16).toNat)
 case atStart=>exact ⟨0,_,rfl,Nat.zero_le _,HLS⟩
 case round =>
  clear HLS
  obtain ⟨i,v,rfl,hin,HX⟩:=hrel
  have hX:=(show LS w4 L 2 (lnT n S).C i v wr from HX)
  obtain ⟨px,cx,rfl⟩:=own_shape hX.ow
  rcases Nat.lt_or_ge i n with hi | hi
  case inl =>
   have hiI:(i:Int) < (n:Int):=by omega
   obtain ⟨⟨_,_,e0,hl⟩,kw4,hwl⟩:=(show RowV w (.slice p1 n c1) n (fun i=>.string (S i))∧Kb 0 w w4∧w.heap.size≤L from HLN)
   injection e0 with e1 e2 e3
   subst e1 e3
   obtain ⟨a,rfl,hca,hra⟩:=hl (by omega)
   have kwr:Kb 0 w wr:=hX.kbo kw4 hwl
   have d0:wr.cell? (a.add i)=some (.string (S i)):=kwr.cell (hra i hi)
   have HM:Hid (∀ W,Kb 0 wr W→Calls Try.prog 30 #[.string (S i)] W fun e w'=>e = .returned (.agg #[.int .i64 3,.int .i64 0,.string (S i),.int .i64 0])∧Kb 0 W w'):=(fun W _=>sp_txt59 (S i) W:∀ W,_)
   have HST:Hid (∀ W,Kb 0 wr W→W.cell? ⟨L,1,none⟩=some (.slice px i cx)∧W.ownsRow w4.heap.size 41 4 (.slice px i cx) i (vls (lnT n S).C i)∧w4.heap.size≤W.heap.size):=(fun W k=>⟨cell_of (hX.kb k).lb rfl,(hX.kb k).ow,(hX.kb k).kg.size⟩:∀ W,_)
   have HPU:Hid (∀ W w8 v',Kb 0 wr W→w8.ownsRow w4.heap.size 41 4 v' (i+1) (vls (lnT n S).C i ++ [.int .i64 3,.int .i64 0,.string (S i),.int .i64 0])→W.grownBy w8 (Value.slice px i cx).ownBlock→w8.cell? ⟨L,1,none⟩=some (.slice px i cx)∧(∀ j,w8.frozen? ⟨L,j,none⟩=false)∧LS w4 L 2 (lnT n S).C (i+1) v' (w8.setCell ⟨L,1,none⟩ v')):=(fun W w8 v' k ho hg=>⟨cell_of ((hX.kb k).grown hg).2 rfl,fun j=>frozen_of ((hX.kb k).grown hg).2,(hX.kb k).push ho hg⟩:∀ W w8 v',_)
   obtain ⟨i0,hi0,hz0,hz1,hz2⟩:=info_parts infoVp
   have HI0:Hid (Try.prog.info? 41=some i0):=hi0
   have h1c:∀ y ∈ ([.int .i64 3,.int .i64 0,.string (S i),.int .i64 0]:List Value),y.oneCell'=true:=by
    intro y hy
    simp only [List.mem_cons,List.not_mem_nil,or_false] at hy
    rcases hy with rfl | rfl | rfl | rfl <;> rfl
   have HQC:Hid (∀ w6:World,∀ (k:Nat) (y:Value),([.int .i64 3,.int .i64 0,.string (S i),.int .i64 0]:List Value)[k]? = some y→(w6.alloc (.cells #[.int .i64 3,.int .i64 0,.string (S i),.int .i64 0] 41)).cell? ((⟨w6.heap.size,0,none⟩:Addr).add k)=some y):=(fun w6=>qr_cells w6 #[.int .i64 3,.int .i64 0,.string (S i),.int .i64 0] 41 [.int .i64 3,.int .i64 0,.string (S i),.int .i64 0] rfl:∀ w6:World,_)
   have hic:i < 1000:=by omega
   obtain ⟨LS0,hLS0⟩:∃ LS0,LS0=vls (lnT n S).C i:=⟨_,rfl⟩
   rw [← hLS0] at HST HPU
   obtain ⟨B4,hB4⟩:∃ B4,B4=w4.heap.size:=⟨_,rfl⟩
   rw [← hB4] at HST HPU
   clear hX HX hl kw4 hra hwl kwr hi0 hi HLN H4 HSS hLS0 hB4
   go_upto_region 6 with fail
   clear d0
   refine AnyL.region (S:=fun W'=>W'.cell? ⟨L,1,none⟩=some (.slice px i cx)) (z:=7) (by kernel_rfl) ?_
   obtain ⟨VD,hVD⟩:∃ VD,VD=wr.drew:=⟨_,rfl⟩
   rw [← hVD]
   have KD:Hid (Kb 0 wr VD):=by rw [hVD];exact Kb.drew (Kb.refl _ _)
   have hS0:(fun W':World=>W'.cell? ⟨L,1,none⟩=some (.slice px i cx)) VD:=((show ∀ W,Kb 0 wr W→_ from HST) VD KD).1
   clear hVD
   refine AnyL.takeAt 0 (.pointer (some ⟨L,1,none⟩)) rfl (by kernel_rfl) (by kernel_rfl) (by kernel_rfl) (by kernel_rfl) (fun _ _ _ h=>h) rfl hS0 (by intro W hW;go_simp) ?_
   try simp only [Act.put,List.setIfInBounds_toArray,List.set_cons_zero,List.set_cons_succ]
   refine AnyL.takeAt 1 (.slice px i cx) rfl (by kernel_rfl) (by kernel_rfl) (by kernel_rfl) (by kernel_rfl) (fun _ _ _ h=>h) rfl hS0 (by intro W hW;go_simp) ?_
   try simp only [Act.put,List.setIfInBounds_toArray,List.set_cons_zero,List.set_cons_succ]
   refine AnyL.takeAt 2 (.string (S i)) rfl (by kernel_rfl) (by kernel_rfl) (by kernel_rfl) (by kernel_rfl) (fun _ _ _ h=>h) rfl hS0 (by intro W hW;go_simp) ?_
   try simp only [Act.put,List.setIfInBounds_toArray,List.set_cons_zero,List.set_cons_succ]
   refine AnyL.oneAt 3 rfl (by kernel_rfl) rfl ?_
   intro K hK
   go_simp
   refine ((show ∀ W,Kb 0 wr W→_ from HM) VD KD).mono ?_
   rintro e w6 ⟨rfl,gk⟩
   have K6:Hid (Kb 0 wr w6):=Kb.trans KD gk
   obtain ⟨hS6,hown6,h6z⟩:=(show ∀ W,Kb 0 wr W→_ from HST) w6 K6
   clear hS0 gk HM
   refine hK.out _ _ (fun _=>hS6) ?_
   clear hK K
   try simp only [Act.put,List.setIfInBounds_toArray,List.set_cons_zero,List.set_cons_succ]
   refine AnyL.oneAt 4 rfl (by kernel_rfl) rfl ?_
   intro K hK
   go_simp
   have K7:∀ ob,Hid (Kb 0 wr (w6.alloc ob)):=fun ob=>Kb.alloc K6 ob
   refine hK.out _ _ (fun _=>((show ∀ W,Kb 0 wr W→_ from HST) _ (K7 _)).1) ?_
   clear hK K
   try simp only [Act.put,List.setIfInBounds_toArray,List.set_cons_zero,List.set_cons_succ]
   refine AnyL.oneAt 5 rfl (by kernel_rfl) rfl ?_
   intro K hK
   refine wp_append_own _ (.tmp 21) (.tmp 24) 48 rfl B4 41 i0 (.agg #[.int .i64 0,.int .i64 0,.string ⟨#[]⟩,.int .i64 0]) 4 40 Try.underlying48 HI0 hz0 hz1 hz2 rfl (by decide) (.slice px i cx) i LS0 rfl (hown6.alloc _) ⟨w6.heap.size,0,none⟩ 1 1 [.int .i64 3,.int .i64 0,.string (S i),.int .i64 0] rfl rfl ((show ∀ w6:World,_ from HQC) w6) h1c (by unfold maxLen;omega) (by omega) (by simp;omega) ?_
   intro v' w8 hown1 hgrow1 _
   obtain ⟨px',cx',rfl⟩:=own_shape hown1
   obtain ⟨hS8,hf8,hLS8⟩:=(show ∀ W w8 v',Kb 0 wr W→_ from HPU) _ _ _ (K7 _) hown1 hgrow1
   have HLS8:Hid (LS w4 L 2 (lnT n S).C (i+1) (.slice px' (i+1) cx') (w8.setCell ⟨L,1,none⟩ (.slice px' (i+1) cx'))):=hLS8
   clear HPU hown1 hgrow1 hLS8 hS6 hown6 K7 HST HQC
   refine hK.out _ _ (fun _=>hS8) ?_
   clear hK K
   try simp only [Act.put,List.setIfInBounds_toArray,List.set_cons_zero,List.set_cons_succ]
   first
   | (refine AnyL.takeAt 6 (.pointer (some ⟨L,1,none⟩)) rfl (by kernel_rfl) (by kernel_rfl) (by kernel_rfl) (by kernel_rfl) (fun _ _ _ h=>h) rfl hS8 (by intro W hW;go_simp) ?_)
   | skip
   try simp only [Act.put,List.setIfInBounds_toArray,List.set_cons_zero,List.set_cons_succ]
   refine AnyL.oneAt 7 rfl (by kernel_rfl) rfl ?_
   intro K hK
   go_simp
   refine hK.out _ _ (fun h=>absurd rfl h) ?_
   clear hK K hS8 hf8
   try simp only [Act.put,List.setIfInBounds_toArray,List.set_cons_zero,List.set_cons_succ]
   refine AnyL.done (by kernel_rfl) ?_
   go_wp2_with fail
   go_roundw
   case rel=>exact ⟨i+1,_,by go_num,by omega,HLS8⟩
   case measure=>simp [intOf];omega
  obtain rfl:i=n:=by omega
  have hI:¬ (i:Int) < (i:Int):=by omega
  obtain ⟨k04,bj,bg,hL2,z4⟩:=(show Kb 0 w w4∧w4.heap[w.heap.size]? = some (.cells #[.slice p1 i c1,.int .i64 p,.int .i64 q,.slice p2 m c2] 26 (0,0))∧w4.heap[w.heap.size+1]? = some (.cells #[.int .i64 0,.int .i64 0,.string ⟨#[]⟩,.int .i64 0,.slice none 0 0] 44 (0,0))∧L=w.heap.size+2∧w4.heap.size=L+1 from H4)
  have kg:=hX.kg
  have hB:∀ {g:Nat} {o:Obj},w4.heap[g]? = some o→g ≠ L→wr.heap[g]? = some o:=fun {g o} h hne=>(kg.block g (blk_lt h) hne).trans h
  have hsr:=kg.size
  obtain ⟨w5,hw5⟩:∃ w5,w5=wr.alloc (.cells #[.int .i64 0,.slice none 0 0] 50):=⟨_,rfl⟩
  obtain ⟨M,hM⟩:∃ M,M=wr.heap.size:=⟨_,rfl⟩
  have k5:Kb 0 wr w5:=by rw [hw5];exact kb_alloc _ _ _
  have b5:w5.heap[M]? = some (.cells #[.int .i64 0,.slice none 0 0] 50 (0,0)):=by rw [hw5,hM];exact alloc_new _ _ _
  obtain ⟨w6,hw6⟩:∃ w6,w6=w5.setCell ⟨M,0,none⟩ (.int .i64 3):=⟨_,rfl⟩
  have b6:w6.heap[M]? = some (.cells #[.int .i64 3,.slice none 0 0] 50 (0,0)):=by rw [hw6];exact set_known _ b5
  have k6:Kb 0 wr w6:=by rw [hw6];exact k5.setCell _ (.inr (by show wr.heap.size≤M;omega)) _
  have c50:w5.cell? ⟨M,0,none⟩=some (.int .i64 0):=cell_of b5 rfl
  have f50:∀ j,w5.frozen? ⟨M,j,none⟩=false:=fun j=>frozen_of b5
  have q3:w6.cell? ⟨w.heap.size,3,none⟩=some (.slice p2 m c2):=cell_of (blk_kb (hB bj (by omega)) k6) rfl
  have HLS2:Hid (LS w6 M 3 (skT m).C 0 (.slice none 0 0) w6):=LS.new b6
  have H6:Hid (Kb 0 w w6∧w6.heap[w.heap.size]? = some (.cells #[.slice p1 i c1,.int .i64 p,.int .i64 q,.slice p2 m c2] 26 (0,0))∧w6.heap[w.heap.size+1]? = some (.cells #[.int .i64 0,.int .i64 0,.string ⟨#[]⟩,.int .i64 0,.slice none 0 0] 44 (0,0))∧w6.heap[L]? = some (.cells #[.int .i64 2,.slice px i cx] 50 (0,0))∧w6.ownsRow w.heap.size 41 4 (.slice px i cx) i (vls (lnT i S).C i)∧L=w.heap.size+2∧L < M∧w6.heap[M]? = some (.cells #[.int .i64 3,.slice none 0 0] 50 (0,0))):=(⟨(hX.kbo k04 (by omega)).trans k6,blk_kb (hB bj (by omega)) k6,blk_kb (hB bg (by omega)) k6,blk_kb hX.lb k6,own_base (own_kb hX.ow k6) (by omega),hL2,by omega,b6⟩:_∧_)
  have HW5:Hid (w5=wr.alloc (.cells #[.int .i64 0,.slice none 0 0] 50)∧M=wr.heap.size):=(⟨hw5,hM⟩:_∧_)
  have HW6:Hid (w6=w5.setCell ⟨M,0,none⟩ (.int .i64 3)):=hw6
  clear hX HX k04 bj bg hL2 z4 kg hB hsr H4 HLN hi hin hw5 hM k5 b5 hw6 b6 k6
  go_upto_region 9 with fail
  rw [← (show _∧_ from HW5).1,← (show _∧_ from HW5).2]
  clear HW5
  go_upto_region 10 with fail
  rw [← (show w6 = _ from HW6)]
  clear HW6 c50 f50
  go_wp2_with fail
  clear q3
  obtain ⟨pl,rfl⟩:∃ pl,pl=px:=⟨_,rfl⟩
  obtain ⟨cl,rfl⟩:∃ cl,cl=cx:=⟨_,rfl⟩
  obtain ⟨n,rfl⟩:∃ n,n=i:=⟨_,rfl⟩
  go_loopw [32] (fun s32 wr=>∃ (i:Nat) (v:Value),s32 = .int .i64 (i:Int)∧i≤m∧Hid (LS w6 M 3 (skT m).C i v wr)) (fun s32 _=>m - (intOf s32).toNat)
  case atStart=>exact ⟨0,_,rfl,Nat.zero_le _,HLS2⟩
  case round =>
   clear HLS2
   obtain ⟨i,v,rfl,hin,HX⟩:=hrel
   have hX:=(show LS w6 M 3 (skT m).C i v wr from HX)
   obtain ⟨px,cx,rfl⟩:=own_shape hX.ow
   rcases Nat.lt_or_ge i m with hi | hi
   case inl =>
    have hiI:(i:Int) < (m:Int):=by omega
    have c0:wr.cell? ⟨M,1,none⟩=some (.slice px i cx):=cell_of hX.lb rfl
    have HPU:Hid (∀ W w8 v',Kb 0 wr W→w8.ownsRow w6.heap.size 41 4 v' (i+1) (vls (skT m).C i ++ [.int .i64 4,.int .i64 0,.string ⟨#[]⟩,.int .i64 (3+(i:Int))])→W.grownBy w8 (Value.slice px i cx).ownBlock→w8.cell? ⟨M,1,none⟩=some (.slice px i cx)∧(∀ j,w8.frozen? ⟨M,j,none⟩=false)∧LS w6 M 3 (skT m).C (i+1) v' (w8.setCell ⟨M,1,none⟩ v')):=(fun W w8 v' k ho hg=>⟨cell_of ((hX.kb k).grown hg).2 rfl,fun j=>frozen_of ((hX.kb k).grown hg).2,(hX.kb k).push ho hg⟩:∀ W w8 v',_)
    have HOW:Hid (wr.ownsRow w6.heap.size 41 4 (.slice px i cx) i (vls (skT m).C i)∧w6.heap.size≤wr.heap.size):=(⟨hX.ow,hX.kg.size⟩:_∧_)
    obtain ⟨i0,hi0,hz0,hz1,hz2⟩:=info_parts infoVp
    have HI0:Hid (Try.prog.info? 41=some i0):=hi0
    have h1c:Hid (∀ y ∈ ([.int .i64 4,.int .i64 0,.string ⟨#[]⟩,.int .i64 (3+(i:Int))]:List Value),y.oneCell'=true):=(by
     intro y hy
     simp only [List.mem_cons,List.not_mem_nil,or_false] at hy
     rcases hy with rfl | rfl | rfl | rfl <;> rfl:∀ y ∈ ([.int .i64 4,.int .i64 0,.string ⟨#[]⟩,.int .i64 (3+(i:Int))]:List Value),y.oneCell'=true)
    have HQC:Hid (∀ (k:Nat) (y:Value),([.int .i64 4,.int .i64 0,.string ⟨#[]⟩,.int .i64 (3+(i:Int))]:List Value)[k]? = some y→(wr.alloc (.cells #[.int .i64 4,.int .i64 0,.string ⟨#[]⟩,.int .i64 (3+(i:Int))] 41)).cell? ((⟨wr.heap.size,0,none⟩:Addr).add k)=some y):=(qr_cells wr #[.int .i64 4,.int .i64 0,.string ⟨#[]⟩,.int .i64 (3+(i:Int))] 41 [.int .i64 4,.int .i64 0,.string ⟨#[]⟩,.int .i64 (3+(i:Int))] rfl:∀ (k:Nat) (y:Value),_)
    have HKA:Hid (∀ ob,Kb 0 wr (wr.alloc ob)):=(fun ob=>kb_alloc _ _ _:∀ ob,_)
    obtain ⟨LS0,hLS0⟩:∃ LS0,LS0=vls (skT m).C i:=⟨_,rfl⟩
    rw [← hLS0] at HOW HPU
    have hic:(i:Int) < 20:=by omega
    clear hX HX hi0 hi H6 HSS hLS0
    go_wp2_with (refine wpList_append_own _ (by rfl) (.tmp 36) (.tmp 40) 48 (by rfl) w6.heap.size 41 i0 (.agg #[.int .i64 0,.int .i64 0,.string ⟨#[]⟩,.int .i64 0]) 4 40 Try.underlying48 HI0 hz0 hz1 hz2 rfl (by decide) (.slice px i cx) i LS0 (by rfl) ((show _∧_ from HOW).1.alloc _) ⟨wr.heap.size,0,none⟩ 1 1 [.int .i64 4,.int .i64 0,.string ⟨#[]⟩,.int .i64 (3+(i:Int))] (by rfl) rfl (show ∀ (k:Nat) (y:Value),_ from HQC) (show ∀ y ∈ _,_ from h1c) (by unfold maxLen;omega) (by omega) (by have:=(show _∧_ from HOW).2;simp;omega) ?_;intro v' w8 hown1 hgrow1 _;obtain ⟨px',cx',rfl⟩:=own_shape hown1;obtain ⟨hS8,hf8,hLS8⟩:=(show ∀ W w8 v',Kb 0 wr W→_ from HPU) _ _ _ ((show ∀ ob,_ from HKA) _) hown1 hgrow1;replace hLS8:Hid (LS w6 M 3 (skT m).C (i+1) (.slice px' (i+1) cx') (w8.setCell ⟨M,1,none⟩ (.slice px' (i+1) cx'))):=hLS8;clear HPU hown1 hgrow1 HOW HQC HKA c0)
    go_roundw
    case rel=>exact ⟨i+1,_,by go_num,by omega,hLS8⟩
    case measure=>simp [intOf];omega
   obtain rfl:i=m:=by omega
   have hI2:¬ (i:Int) < (i:Int):=by omega
   obtain ⟨k06,bj,bg,bl,ol,hL2,hLM,bM⟩:=(show Kb 0 w w6∧w6.heap[w.heap.size]? = some (.cells #[.slice p1 n c1,.int .i64 p,.int .i64 q,.slice p2 i c2] 26 (0,0))∧w6.heap[w.heap.size+1]? = some (.cells #[.int .i64 0,.int .i64 0,.string ⟨#[]⟩,.int .i64 0,.slice none 0 0] 44 (0,0))∧w6.heap[L]? = some (.cells #[.int .i64 2,.slice pl n cl] 50 (0,0))∧w6.ownsRow w.heap.size 41 4 (.slice pl n cl) n (vls (lnT n S).C n)∧L=w.heap.size+2∧L < M∧w6.heap[M]? = some (.cells #[.int .i64 3,.slice none 0 0] 50 (0,0)) from H6)
   have kg:=hX.kg
   have hB:∀ {g:Nat} {o:Obj},w6.heap[g]? = some o→g ≠ M→wr.heap[g]? = some o:=fun {g o} h hne=>(kg.block g (blk_lt h) hne).trans h
   have olr:wr.ownsRow w.heap.size 41 4 (.slice pl n cl) n (vls (lnT n S).C n):=own_keep ol (fun g e=>kg.block g (ol.lt g e).2 (own_ty ol bM (by decide) e))
   have BJ:=hB bj (by omega)
   have hs6:=k06.size
   have HSX:∀ W',Kb 0 wr W'→W'.cell? ⟨w.heap.size,1,none⟩=some (.int .i64 p)∧W'.cell? ⟨w.heap.size,2,none⟩=some (.int .i64 q):=fun W' k=>⟨k.cell (cell_of BJ rfl),k.cell (cell_of BJ rfl)⟩
   have H7:Hid (Kb 0 w wr∧wr.heap[w.heap.size]? = some (.cells #[.slice p1 n c1,.int .i64 p,.int .i64 q,.slice p2 i c2] 26 (0,0))∧wr.heap[w.heap.size+1]? = some (.cells #[.int .i64 0,.int .i64 0,.string ⟨#[]⟩,.int .i64 0,.slice none 0 0] 44 (0,0))∧wr.heap[L]? = some (.cells #[.int .i64 2,.slice pl n cl] 50 (0,0))∧wr.ownsRow w.heap.size 41 4 (.slice pl n cl) n (vls (lnT n S).C n)∧wr.heap[M]? = some (.cells #[.int .i64 3,.slice px i cx] 50 (0,0))∧wr.ownsRow w.heap.size 41 4 (.slice px i cx) i (vls (skT i).C i)):=(⟨hX.kbo k06 (by omega),BJ,hB bg (by omega),hB bl (by omega),olr,hX.lb,own_base hX.ow hs6⟩:_∧_)
   clear hX HX k06 bj bg bl ol hL2 hLM bM kg hB olr BJ H6 hi hin hs6
   obtain ⟨w7,rfl⟩:∃ w7,w7=wr:=⟨_,rfl⟩
   go_upto_region 15 with fail
   go_cut [8] from 44 to 53 (fun s8 wx=>∃ (Z:Nat),s8 = .pointer (some ⟨Z,0,none⟩)∧Hid (RtB w7 wx Z 1 RL))
   case first =>
    clear H7 HSS
    refine AnyL.region (S:=fun W':World=>W'.cell? ⟨w.heap.size,1,none⟩=some (.int .i64 p)∧W'.cell? ⟨w.heap.size,2,none⟩=some (.int .i64 q)) (z:=11) (by kernel_rfl) ?_
    obtain ⟨VD,hVD⟩:∃ VD,VD=w7.drew:=⟨_,rfl⟩
    rw [← hVD]
    have KD:Hid (Kb 0 w7 VD):=by rw [hVD];exact Kb.drew (Kb.refl _ _)
    have hS0:(fun W':World=>W'.cell? ⟨w.heap.size,1,none⟩=some (.int .i64 p)∧W'.cell? ⟨w.heap.size,2,none⟩=some (.int .i64 q)) VD:=HSX VD KD
    clear hVD
    obtain rfl:=(show RL = _ from HRL)
    clear HRL
    refine AnyL.takeAt 0 (.pointer (some ⟨w.heap.size,1,none⟩)) rfl (by kernel_rfl) (by kernel_rfl) (by kernel_rfl) (by kernel_rfl) (fun _ _ _ h=>h) rfl hS0 (by intro W hW;obtain ⟨q0,q1⟩:=hW;go_simp) ?_
    try simp only [Act.put,List.setIfInBounds_toArray,List.set_cons_zero,List.set_cons_succ]
    refine AnyL.takeAt 1 (.int .i64 p) rfl (by kernel_rfl) (by kernel_rfl) (by kernel_rfl) (by kernel_rfl) (fun _ _ _ h=>h) rfl hS0 (by intro W hW;obtain ⟨q0,q1⟩:=hW;go_simp) ?_
    try simp only [Act.put,List.setIfInBounds_toArray,List.set_cons_zero,List.set_cons_succ]
    refine AnyL.takeAt 3 (.pointer (some ⟨w.heap.size,2,none⟩)) rfl (by kernel_rfl) (by kernel_rfl) (by kernel_rfl) (by kernel_rfl) (fun _ _ _ h=>h) rfl hS0 (by intro W hW;obtain ⟨q0,q1⟩:=hW;go_simp) ?_
    try simp only [Act.put,List.setIfInBounds_toArray,List.set_cons_zero,List.set_cons_succ]
    refine AnyL.takeAt 4 (.int .i64 q) rfl (by kernel_rfl) (by kernel_rfl) (by kernel_rfl) (by kernel_rfl) (fun _ _ _ h=>h) rfl hS0 (by intro W hW;obtain ⟨q0,q1⟩:=hW;go_simp) ?_
    try simp only [Act.put,List.setIfInBounds_toArray,List.set_cons_zero,List.set_cons_succ]
    refine AnyL.takeAt 6 (.agg #[.int .i64 4,.int .i64 0,.string ⟨#[]⟩,.int .i64 1]) rfl (by kernel_rfl) (by kernel_rfl) (by kernel_rfl) (by kernel_rfl) (fun _ _ _ h=>h) rfl hS0 (by intro W hW;go_simp) ?_
    try simp only [Act.put,List.setIfInBounds_toArray,List.set_cons_zero,List.set_cons_succ]
    refine AnyL.takeAt 7 (.agg #[.int .i64 4,.int .i64 0,.string ⟨#[]⟩,.int .i64 2]) rfl (by kernel_rfl) (by kernel_rfl) (by kernel_rfl) (by kernel_rfl) (fun _ _ _ h=>h) rfl hS0 (by intro W hW;go_simp) ?_
    try simp only [Act.put,List.setIfInBounds_toArray,List.set_cons_zero,List.set_cons_succ]
    refine AnyL.two 2 10 rfl rfl (by kernel_rfl) rfl rfl ?_ ?_
    ·intro K hK
     go_simp
     refine (sp_num59 p VD).mono ?_
     rintro e w_1 ⟨rfl,gk⟩
     have K_2:Hid (Kb 0 w7 w_1):=Kb.trans KD gk
     have S_3:=HSX w_1 K_2
     clear gk
     refine hK.out _ _ (fun _=>S_3) ?_
     clear hK K
     try simp only [Act.put,List.setIfInBounds_toArray,List.set_cons_zero,List.set_cons_succ]
     refine AnyL.two 5 10 rfl rfl (by kernel_rfl) rfl rfl ?_ ?_
     ·intro K hK
      go_simp
      refine (sp_num59 q w_1).mono ?_
      rintro e w_4 ⟨rfl,gk⟩
      have K_5:Hid (Kb 0 w7 w_4):=Kb.trans K_2 gk
      have S_6:=HSX w_4 K_5
      clear gk
      refine hK.out _ _ (fun _=>S_6) ?_
      clear hK K
      try simp only [Act.put,List.setIfInBounds_toArray,List.set_cons_zero,List.set_cons_succ]
      refine AnyL.two 8 10 rfl rfl (by kernel_rfl) rfl rfl ?_ ?_
      ·intro K hK
       go_simp
       obtain ⟨Z_8,hZ⟩:∃ Z,Z=w_4.heap.size:=⟨_,rfl⟩
       obtain ⟨w_7,hWn⟩:∃ Wn,Wn=w_4.alloc (.cells #[.int .i64 1,.int .i64 p,.string ⟨#[]⟩,.int .i64 0,.int .i64 1,.int .i64 q,.string ⟨#[]⟩,.int .i64 0,.int .i64 4,.int .i64 0,.string ⟨#[]⟩,.int .i64 1,.int .i64 4,.int .i64 0,.string ⟨#[]⟩,.int .i64 2] 41):=⟨_,rfl⟩
       have gk:Kb 0 w_4 w_7:=by rw [hWn];exact kb_alloc _ _ _
       have hz_9:w7.heap.size≤Z_8:=by rw [hZ];exact (show Kb 0 w7 w_4 from K_5).size
       have K_10:Hid (Kb 0 w7 w_7):=Kb.trans K_5 gk
       have S_11:=HSX w_7 K_10
       have O_12:Hid (w_7.ownsRow w7.heap.size 41 4 (.slice (some ⟨Z_8,0,none⟩) 4 4) 4 (vls (rtT p q).C 4)):=(by rw [hWn,hZ];exact own_new _ _ _ _ _ _ (by rw [← hZ];exact hz_9) (by omega) rfl rfl:w_7.ownsRow _ _ _ _ _ _)
       have hWd:w_4.alloc (.cells #[.int .i64 1,.int .i64 p,.string ⟨#[]⟩,.int .i64 0,.int .i64 1,.int .i64 q,.string ⟨#[]⟩,.int .i64 0,.int .i64 4,.int .i64 0,.string ⟨#[]⟩,.int .i64 1,.int .i64 4,.int .i64 0,.string ⟨#[]⟩,.int .i64 2] 41)=w_7:=hWn.symm
       have hZd:w_4.heap.size=Z_8:=hZ.symm
       try simp only [hWd]
       try rw [hWd]
       try rw [hZd]
       clear hWn hZ hWd hZd hz_9
       clear gk
       refine hK.out _ _ (fun _=>S_11) ?_
       clear hK K
       try simp only [Act.put,List.setIfInBounds_toArray,List.set_cons_zero,List.set_cons_succ]
       refine AnyL.takeAt 9 (.agg #[.int .i64 1,.slice (some ⟨Z_8,0,none⟩) 4 4]) rfl (by kernel_rfl) (by kernel_rfl) (by kernel_rfl) (by kernel_rfl) (fun _ _ _ h=>h) rfl S_11 (by intro W hW;go_simp) ?_
       try simp only [Act.put,List.setIfInBounds_toArray,List.set_cons_zero,List.set_cons_succ]
       refine AnyL.oneAt 10 rfl (by kernel_rfl) rfl ?_
       intro K hK
       go_simp
       obtain ⟨Z_14,hZ⟩:∃ Z,Z=w_7.heap.size:=⟨_,rfl⟩
       obtain ⟨w_13,hWn⟩:∃ Wn,Wn=w_7.alloc (.cells #[.int .i64 0,.slice none 0 0] 50):=⟨_,rfl⟩
       have gk:Kb 0 w_7 w_13:=by rw [hWn];exact kb_alloc _ _ _
       have hz_15:w7.heap.size≤Z_14:=by rw [hZ];exact (show Kb 0 w7 w_7 from K_10).size
       have K_16:Hid (Kb 0 w7 w_13):=Kb.trans K_10 gk
       have S_17:=HSX w_13 K_16
       have O_18:Hid (w_13.ownsRow w7.heap.size 41 4 (.slice (some ⟨Z_8,0,none⟩) 4 4) 4 (vls (rtT p q).C 4)):=own_kb O_12 gk
       have R_19:Hid (w_13.heap[Z_14]? = some (.cells #[.int .i64 0,.slice none 0 0] 50 (0,0))∧w7.heap.size≤Z_14):=(⟨by rw [hWn,hZ];exact alloc_new _ _ _,hz_15⟩:_∧_)
       have hWd:w_7.alloc (.cells #[.int .i64 0,.slice none 0 0] 50)=w_13:=hWn.symm
       have hZd:w_7.heap.size=Z_14:=hZ.symm
       try simp only [hWd]
       try rw [hWd]
       try rw [hZd]
       clear hWn hZ hWd hZd hz_15
       clear gk
       refine hK.out _ _ (fun _=>S_17) ?_
       clear hK K
       try simp only [Act.put,List.setIfInBounds_toArray,List.set_cons_zero,List.set_cons_succ]
       have r0:w_13.cell? ⟨Z_14,0,none⟩=some (.int .i64 0):=cell_of (show _∧_ from R_19).1 rfl
       have r1:w_13.cell? ⟨Z_14,1,none⟩=some (.slice none 0 0):=cell_of (show _∧_ from R_19).1 rfl
       have rz:∀ j,w_13.frozen? ⟨Z_14,j,none⟩=false:=fun j=>frozen_of (show _∧_ from R_19).1
       refine AnyL.oneAt 11 rfl (by kernel_rfl) rfl ?_
       intro K hK
       go_simp
       refine hK.out _ _ (fun h=>absurd rfl h) ?_
       clear hK K
       refine AnyL.done (by kernel_rfl) ?_
       have HV:Hid (RtB w7 (s2 w_13 Z_14 1 (.slice (some ⟨Z_8,0,none⟩) 4 4)) Z_14 1 (vls (rtT p q).C 4)):=rtb_of K_16 O_18 (show _∧_ from R_19).1 (show _∧_ from R_19).2
       obtain ⟨WF,hWF⟩:∃ WF,WF=s2 w_13 Z_14 1 (.slice (some ⟨Z_8,0,none⟩) 4 4):=⟨_,rfl⟩
       rw [← hWF] at HV
       unfold s2 at hWF
       rw [← hWF]
       clear hWF r0 r1 rz
       go_wp2_with fail
       go_meet
       exact ⟨Z_14,rfl,HV⟩
      ·intro K hK
       go_simp
       obtain ⟨Z_21,hZ⟩:∃ Z,Z=w_4.heap.size:=⟨_,rfl⟩
       obtain ⟨w_20,hWn⟩:∃ Wn,Wn=w_4.alloc (.cells #[.int .i64 0,.slice none 0 0] 50):=⟨_,rfl⟩
       have gk:Kb 0 w_4 w_20:=by rw [hWn];exact kb_alloc _ _ _
       have hz_22:w7.heap.size≤Z_21:=by rw [hZ];exact (show Kb 0 w7 w_4 from K_5).size
       have K_23:Hid (Kb 0 w7 w_20):=Kb.trans K_5 gk
       have S_24:=HSX w_20 K_23
       have R_25:Hid (w_20.heap[Z_21]? = some (.cells #[.int .i64 0,.slice none 0 0] 50 (0,0))∧w7.heap.size≤Z_21):=(⟨by rw [hWn,hZ];exact alloc_new _ _ _,hz_22⟩:_∧_)
       have hWd:w_4.alloc (.cells #[.int .i64 0,.slice none 0 0] 50)=w_20:=hWn.symm
       have hZd:w_4.heap.size=Z_21:=hZ.symm
       try simp only [hWd]
       try rw [hWd]
       try rw [hZd]
       clear hWn hZ hWd hZd hz_22
       clear gk
       refine hK.out _ _ (fun _=>S_24) ?_
       clear hK K
       try simp only [Act.put,List.setIfInBounds_toArray,List.set_cons_zero,List.set_cons_succ]
       refine AnyL.oneAt 8 rfl (by kernel_rfl) rfl ?_
       intro K hK
       go_simp
       obtain ⟨Z_27,hZ⟩:∃ Z,Z=w_20.heap.size:=⟨_,rfl⟩
       obtain ⟨w_26,hWn⟩:∃ Wn,Wn=w_20.alloc (.cells #[.int .i64 1,.int .i64 p,.string ⟨#[]⟩,.int .i64 0,.int .i64 1,.int .i64 q,.string ⟨#[]⟩,.int .i64 0,.int .i64 4,.int .i64 0,.string ⟨#[]⟩,.int .i64 1,.int .i64 4,.int .i64 0,.string ⟨#[]⟩,.int .i64 2] 41):=⟨_,rfl⟩
       have gk:Kb 0 w_20 w_26:=by rw [hWn];exact kb_alloc _ _ _
       have hz_28:w7.heap.size≤Z_27:=by rw [hZ];exact (show Kb 0 w7 w_20 from K_23).size
       have K_29:Hid (Kb 0 w7 w_26):=Kb.trans K_23 gk
       have S_30:=HSX w_26 K_29
       have R_31:Hid (w_26.heap[Z_21]? = some (.cells #[.int .i64 0,.slice none 0 0] 50 (0,0))∧w7.heap.size≤Z_21):=(⟨blk_kb (show _∧_ from R_25).1 gk,(show _∧_ from R_25).2⟩:_∧_)
       have O_32:Hid (w_26.ownsRow w7.heap.size 41 4 (.slice (some ⟨Z_27,0,none⟩) 4 4) 4 (vls (rtT p q).C 4)):=(by rw [hWn,hZ];exact own_new _ _ _ _ _ _ (by rw [← hZ];exact hz_28) (by omega) rfl rfl:w_26.ownsRow _ _ _ _ _ _)
       have hWd:w_20.alloc (.cells #[.int .i64 1,.int .i64 p,.string ⟨#[]⟩,.int .i64 0,.int .i64 1,.int .i64 q,.string ⟨#[]⟩,.int .i64 0,.int .i64 4,.int .i64 0,.string ⟨#[]⟩,.int .i64 1,.int .i64 4,.int .i64 0,.string ⟨#[]⟩,.int .i64 2] 41)=w_26:=hWn.symm
       have hZd:w_20.heap.size=Z_27:=hZ.symm
       try simp only [hWd]
       try rw [hWd]
       try rw [hZd]
       clear hWn hZ hWd hZd hz_28
       clear gk
       refine hK.out _ _ (fun _=>S_30) ?_
       clear hK K
       try simp only [Act.put,List.setIfInBounds_toArray,List.set_cons_zero,List.set_cons_succ]
       refine AnyL.takeAt 9 (.agg #[.int .i64 1,.slice (some ⟨Z_27,0,none⟩) 4 4]) rfl (by kernel_rfl) (by kernel_rfl) (by kernel_rfl) (by kernel_rfl) (fun _ _ _ h=>h) rfl S_30 (by intro W hW;go_simp) ?_
       try simp only [Act.put,List.setIfInBounds_toArray,List.set_cons_zero,List.set_cons_succ]
       have r0:w_26.cell? ⟨Z_21,0,none⟩=some (.int .i64 0):=cell_of (show _∧_ from R_31).1 rfl
       have r1:w_26.cell? ⟨Z_21,1,none⟩=some (.slice none 0 0):=cell_of (show _∧_ from R_31).1 rfl
       have rz:∀ j,w_26.frozen? ⟨Z_21,j,none⟩=false:=fun j=>frozen_of (show _∧_ from R_31).1
       refine AnyL.oneAt 11 rfl (by kernel_rfl) rfl ?_
       intro K hK
       go_simp
       refine hK.out _ _ (fun h=>absurd rfl h) ?_
       clear hK K
       refine AnyL.done (by kernel_rfl) ?_
       have HV:Hid (RtB w7 (s2 w_26 Z_21 1 (.slice (some ⟨Z_27,0,none⟩) 4 4)) Z_21 1 (vls (rtT p q).C 4)):=rtb_of K_29 O_32 (show _∧_ from R_31).1 (show _∧_ from R_31).2
       obtain ⟨WF,hWF⟩:∃ WF,WF=s2 w_26 Z_21 1 (.slice (some ⟨Z_27,0,none⟩) 4 4):=⟨_,rfl⟩
       rw [← hWF] at HV
       unfold s2 at hWF
       rw [← hWF]
       clear hWF r0 r1 rz
       go_wp2_with fail
       go_meet
       exact ⟨Z_21,rfl,HV⟩
     ·intro K hK
      go_simp
      obtain ⟨Z_34,hZ⟩:∃ Z,Z=w_1.heap.size:=⟨_,rfl⟩
      obtain ⟨w_33,hWn⟩:∃ Wn,Wn=w_1.alloc (.cells #[.int .i64 0,.slice none 0 0] 50):=⟨_,rfl⟩
      have gk:Kb 0 w_1 w_33:=by rw [hWn];exact kb_alloc _ _ _
      have hz_35:w7.heap.size≤Z_34:=by rw [hZ];exact (show Kb 0 w7 w_1 from K_2).size
      have K_36:Hid (Kb 0 w7 w_33):=Kb.trans K_2 gk
      have S_37:=HSX w_33 K_36
      have R_38:Hid (w_33.heap[Z_34]? = some (.cells #[.int .i64 0,.slice none 0 0] 50 (0,0))∧w7.heap.size≤Z_34):=(⟨by rw [hWn,hZ];exact alloc_new _ _ _,hz_35⟩:_∧_)
      have hWd:w_1.alloc (.cells #[.int .i64 0,.slice none 0 0] 50)=w_33:=hWn.symm
      have hZd:w_1.heap.size=Z_34:=hZ.symm
      try simp only [hWd]
      try rw [hWd]
      try rw [hZd]
      clear hWn hZ hWd hZd hz_35
      clear gk
      refine hK.out _ _ (fun _=>S_37) ?_
      clear hK K
      try simp only [Act.put,List.setIfInBounds_toArray,List.set_cons_zero,List.set_cons_succ]
      refine AnyL.oneAt 5 rfl (by kernel_rfl) rfl ?_
      intro K hK
      go_simp
      refine (sp_num59 q w_33).mono ?_
      rintro e w_39 ⟨rfl,gk⟩
      have K_40:Hid (Kb 0 w7 w_39):=Kb.trans K_36 gk
      have S_41:=HSX w_39 K_40
      have R_42:Hid (w_39.heap[Z_34]? = some (.cells #[.int .i64 0,.slice none 0 0] 50 (0,0))∧w7.heap.size≤Z_34):=(⟨blk_kb (show _∧_ from R_38).1 gk,(show _∧_ from R_38).2⟩:_∧_)
      clear gk
      refine hK.out _ _ (fun _=>S_41) ?_
      clear hK K
      try simp only [Act.put,List.setIfInBounds_toArray,List.set_cons_zero,List.set_cons_succ]
      refine AnyL.oneAt 8 rfl (by kernel_rfl) rfl ?_
      intro K hK
      go_simp
      obtain ⟨Z_44,hZ⟩:∃ Z,Z=w_39.heap.size:=⟨_,rfl⟩
      obtain ⟨w_43,hWn⟩:∃ Wn,Wn=w_39.alloc (.cells #[.int .i64 1,.int .i64 p,.string ⟨#[]⟩,.int .i64 0,.int .i64 1,.int .i64 q,.string ⟨#[]⟩,.int .i64 0,.int .i64 4,.int .i64 0,.string ⟨#[]⟩,.int .i64 1,.int .i64 4,.int .i64 0,.string ⟨#[]⟩,.int .i64 2] 41):=⟨_,rfl⟩
      have gk:Kb 0 w_39 w_43:=by rw [hWn];exact kb_alloc _ _ _
      have hz_45:w7.heap.size≤Z_44:=by rw [hZ];exact (show Kb 0 w7 w_39 from K_40).size
      have K_46:Hid (Kb 0 w7 w_43):=Kb.trans K_40 gk
      have S_47:=HSX w_43 K_46
      have R_48:Hid (w_43.heap[Z_34]? = some (.cells #[.int .i64 0,.slice none 0 0] 50 (0,0))∧w7.heap.size≤Z_34):=(⟨blk_kb (show _∧_ from R_42).1 gk,(show _∧_ from R_42).2⟩:_∧_)
      have O_49:Hid (w_43.ownsRow w7.heap.size 41 4 (.slice (some ⟨Z_44,0,none⟩) 4 4) 4 (vls (rtT p q).C 4)):=(by rw [hWn,hZ];exact own_new _ _ _ _ _ _ (by rw [← hZ];exact hz_45) (by omega) rfl rfl:w_43.ownsRow _ _ _ _ _ _)
      have hWd:w_39.alloc (.cells #[.int .i64 1,.int .i64 p,.string ⟨#[]⟩,.int .i64 0,.int .i64 1,.int .i64 q,.string ⟨#[]⟩,.int .i64 0,.int .i64 4,.int .i64 0,.string ⟨#[]⟩,.int .i64 1,.int .i64 4,.int .i64 0,.string ⟨#[]⟩,.int .i64 2] 41)=w_43:=hWn.symm
      have hZd:w_39.heap.size=Z_44:=hZ.symm
      try simp only [hWd]
      try rw [hWd]
      try rw [hZd]
      clear hWn hZ hWd hZd hz_45
      clear gk
      refine hK.out _ _ (fun _=>S_47) ?_
      clear hK K
      try simp only [Act.put,List.setIfInBounds_toArray,List.set_cons_zero,List.set_cons_succ]
      refine AnyL.takeAt 9 (.agg #[.int .i64 1,.slice (some ⟨Z_44,0,none⟩) 4 4]) rfl (by kernel_rfl) (by kernel_rfl) (by kernel_rfl) (by kernel_rfl) (fun _ _ _ h=>h) rfl S_47 (by intro W hW;go_simp) ?_
      try simp only [Act.put,List.setIfInBounds_toArray,List.set_cons_zero,List.set_cons_succ]
      have r0:w_43.cell? ⟨Z_34,0,none⟩=some (.int .i64 0):=cell_of (show _∧_ from R_48).1 rfl
      have r1:w_43.cell? ⟨Z_34,1,none⟩=some (.slice none 0 0):=cell_of (show _∧_ from R_48).1 rfl
      have rz:∀ j,w_43.frozen? ⟨Z_34,j,none⟩=false:=fun j=>frozen_of (show _∧_ from R_48).1
      refine AnyL.oneAt 11 rfl (by kernel_rfl) rfl ?_
      intro K hK
      go_simp
      refine hK.out _ _ (fun h=>absurd rfl h) ?_
      clear hK K
      refine AnyL.done (by kernel_rfl) ?_
      have HV:Hid (RtB w7 (s2 w_43 Z_34 1 (.slice (some ⟨Z_44,0,none⟩) 4 4)) Z_34 1 (vls (rtT p q).C 4)):=rtb_of K_46 O_49 (show _∧_ from R_48).1 (show _∧_ from R_48).2
      obtain ⟨WF,hWF⟩:∃ WF,WF=s2 w_43 Z_34 1 (.slice (some ⟨Z_44,0,none⟩) 4 4):=⟨_,rfl⟩
      rw [← hWF] at HV
      unfold s2 at hWF
      rw [← hWF]
      clear hWF r0 r1 rz
      go_wp2_with fail
      go_meet
      exact ⟨Z_34,rfl,HV⟩
    ·intro K hK
     go_simp
     obtain ⟨Z_51,hZ⟩:∃ Z,Z=VD.heap.size:=⟨_,rfl⟩
     obtain ⟨w_50,hWn⟩:∃ Wn,Wn=VD.alloc (.cells #[.int .i64 0,.slice none 0 0] 50):=⟨_,rfl⟩
     have gk:Kb 0 VD w_50:=by rw [hWn];exact kb_alloc _ _ _
     have hz_52:w7.heap.size≤Z_51:=by rw [hZ];exact (show Kb 0 w7 VD from KD).size
     have K_53:Hid (Kb 0 w7 w_50):=Kb.trans KD gk
     have S_54:=HSX w_50 K_53
     have R_55:Hid (w_50.heap[Z_51]? = some (.cells #[.int .i64 0,.slice none 0 0] 50 (0,0))∧w7.heap.size≤Z_51):=(⟨by rw [hWn,hZ];exact alloc_new _ _ _,hz_52⟩:_∧_)
     have hWd:VD.alloc (.cells #[.int .i64 0,.slice none 0 0] 50)=w_50:=hWn.symm
     have hZd:VD.heap.size=Z_51:=hZ.symm
     try simp only [hWd]
     try rw [hWd]
     try rw [hZd]
     clear hWn hZ hWd hZd hz_52
     clear gk
     refine hK.out _ _ (fun _=>S_54) ?_
     clear hK K
     try simp only [Act.put,List.setIfInBounds_toArray,List.set_cons_zero,List.set_cons_succ]
     refine AnyL.oneAt 2 rfl (by kernel_rfl) rfl ?_
     intro K hK
     go_simp
     refine (sp_num59 p w_50).mono ?_
     rintro e w_56 ⟨rfl,gk⟩
     have K_57:Hid (Kb 0 w7 w_56):=Kb.trans K_53 gk
     have S_58:=HSX w_56 K_57
     have R_59:Hid (w_56.heap[Z_51]? = some (.cells #[.int .i64 0,.slice none 0 0] 50 (0,0))∧w7.heap.size≤Z_51):=(⟨blk_kb (show _∧_ from R_55).1 gk,(show _∧_ from R_55).2⟩:_∧_)
     clear gk
     refine hK.out _ _ (fun _=>S_58) ?_
     clear hK K
     try simp only [Act.put,List.setIfInBounds_toArray,List.set_cons_zero,List.set_cons_succ]
     refine AnyL.oneAt 5 rfl (by kernel_rfl) rfl ?_
     intro K hK
     go_simp
     refine (sp_num59 q w_56).mono ?_
     rintro e w_60 ⟨rfl,gk⟩
     have K_61:Hid (Kb 0 w7 w_60):=Kb.trans K_57 gk
     have S_62:=HSX w_60 K_61
     have R_63:Hid (w_60.heap[Z_51]? = some (.cells #[.int .i64 0,.slice none 0 0] 50 (0,0))∧w7.heap.size≤Z_51):=(⟨blk_kb (show _∧_ from R_59).1 gk,(show _∧_ from R_59).2⟩:_∧_)
     clear gk
     refine hK.out _ _ (fun _=>S_62) ?_
     clear hK K
     try simp only [Act.put,List.setIfInBounds_toArray,List.set_cons_zero,List.set_cons_succ]
     refine AnyL.oneAt 8 rfl (by kernel_rfl) rfl ?_
     intro K hK
     go_simp
     obtain ⟨Z_65,hZ⟩:∃ Z,Z=w_60.heap.size:=⟨_,rfl⟩
     obtain ⟨w_64,hWn⟩:∃ Wn,Wn=w_60.alloc (.cells #[.int .i64 1,.int .i64 p,.string ⟨#[]⟩,.int .i64 0,.int .i64 1,.int .i64 q,.string ⟨#[]⟩,.int .i64 0,.int .i64 4,.int .i64 0,.string ⟨#[]⟩,.int .i64 1,.int .i64 4,.int .i64 0,.string ⟨#[]⟩,.int .i64 2] 41):=⟨_,rfl⟩
     have gk:Kb 0 w_60 w_64:=by rw [hWn];exact kb_alloc _ _ _
     have hz_66:w7.heap.size≤Z_65:=by rw [hZ];exact (show Kb 0 w7 w_60 from K_61).size
     have K_67:Hid (Kb 0 w7 w_64):=Kb.trans K_61 gk
     have S_68:=HSX w_64 K_67
     have R_69:Hid (w_64.heap[Z_51]? = some (.cells #[.int .i64 0,.slice none 0 0] 50 (0,0))∧w7.heap.size≤Z_51):=(⟨blk_kb (show _∧_ from R_63).1 gk,(show _∧_ from R_63).2⟩:_∧_)
     have O_70:Hid (w_64.ownsRow w7.heap.size 41 4 (.slice (some ⟨Z_65,0,none⟩) 4 4) 4 (vls (rtT p q).C 4)):=(by rw [hWn,hZ];exact own_new _ _ _ _ _ _ (by rw [← hZ];exact hz_66) (by omega) rfl rfl:w_64.ownsRow _ _ _ _ _ _)
     have hWd:w_60.alloc (.cells #[.int .i64 1,.int .i64 p,.string ⟨#[]⟩,.int .i64 0,.int .i64 1,.int .i64 q,.string ⟨#[]⟩,.int .i64 0,.int .i64 4,.int .i64 0,.string ⟨#[]⟩,.int .i64 1,.int .i64 4,.int .i64 0,.string ⟨#[]⟩,.int .i64 2] 41)=w_64:=hWn.symm
     have hZd:w_60.heap.size=Z_65:=hZ.symm
     try simp only [hWd]
     try rw [hWd]
     try rw [hZd]
     clear hWn hZ hWd hZd hz_66
     clear gk
     refine hK.out _ _ (fun _=>S_68) ?_
     clear hK K
     try simp only [Act.put,List.setIfInBounds_toArray,List.set_cons_zero,List.set_cons_succ]
     refine AnyL.takeAt 9 (.agg #[.int .i64 1,.slice (some ⟨Z_65,0,none⟩) 4 4]) rfl (by kernel_rfl) (by kernel_rfl) (by kernel_rfl) (by kernel_rfl) (fun _ _ _ h=>h) rfl S_68 (by intro W hW;go_simp) ?_
     try simp only [Act.put,List.setIfInBounds_toArray,List.set_cons_zero,List.set_cons_succ]
     have r0:w_64.cell? ⟨Z_51,0,none⟩=some (.int .i64 0):=cell_of (show _∧_ from R_69).1 rfl
     have r1:w_64.cell? ⟨Z_51,1,none⟩=some (.slice none 0 0):=cell_of (show _∧_ from R_69).1 rfl
     have rz:∀ j,w_64.frozen? ⟨Z_51,j,none⟩=false:=fun j=>frozen_of (show _∧_ from R_69).1
     refine AnyL.oneAt 11 rfl (by kernel_rfl) rfl ?_
     intro K hK
     go_simp
     refine hK.out _ _ (fun h=>absurd rfl h) ?_
     clear hK K
     refine AnyL.done (by kernel_rfl) ?_
     have HV:Hid (RtB w7 (s2 w_64 Z_51 1 (.slice (some ⟨Z_65,0,none⟩) 4 4)) Z_51 1 (vls (rtT p q).C 4)):=rtb_of K_67 O_70 (show _∧_ from R_69).1 (show _∧_ from R_69).2
     obtain ⟨WF,hWF⟩:∃ WF,WF=s2 w_64 Z_51 1 (.slice (some ⟨Z_65,0,none⟩) 4 4):=⟨_,rfl⟩
     rw [← hWF] at HV
     unfold s2 at hWF
     rw [← hWF]
     clear hWF r0 r1 rz
     go_wp2_with fail
     go_meet
     exact ⟨Z_51,rfl,HV⟩
   case rest =>
   obtain ⟨Z,rfl,HR⟩:=hcut
   clear HSX
   obtain ⟨m,rfl⟩:∃ m,m=i:=⟨_,rfl⟩
   obtain ⟨k07,BJ,BG,BL,OL,BM,OM⟩:=(show Kb 0 w w7∧w7.heap[w.heap.size]? = some (.cells #[.slice p1 n c1,.int .i64 p,.int .i64 q,.slice p2 m c2] 26 (0,0))∧w7.heap[w.heap.size+1]? = some (.cells #[.int .i64 0,.int .i64 0,.string ⟨#[]⟩,.int .i64 0,.slice none 0 0] 44 (0,0))∧w7.heap[L]? = some (.cells #[.int .i64 2,.slice pl n cl] 50 (0,0))∧w7.ownsRow w.heap.size 41 4 (.slice pl n cl) n (vls (lnT n S).C n)∧w7.heap[M]? = some (.cells #[.int .i64 3,.slice px m cx] 50 (0,0))∧w7.ownsRow w.heap.size 41 4 (.slice px m cx) m (vls (skT m).C m) from H7)
   obtain ⟨k7,x,BZ,OZ,-⟩:=(show RtB w7 wc Z 1 RL from HR)
   have z0:wc.cell? ⟨Z,0,none⟩=some (.int .i64 1):=cell_of BZ rfl
   have z1:wc.cell? ⟨Z,1,none⟩=some (.slice (some x) 4 4):=cell_of BZ rfl
   have l0:wc.cell? ⟨L,0,none⟩=some (.int .i64 2):=cell_of (blk_kb BL k7) rfl
   have l1:wc.cell? ⟨L,1,none⟩=some (.slice pl n cl):=cell_of (blk_kb BL k7) rfl
   have m0:wc.cell? ⟨M,0,none⟩=some (.int .i64 3):=cell_of (blk_kb BM k7) rfl
   have m1:wc.cell? ⟨M,1,none⟩=some (.slice px m cx):=cell_of (blk_kb BM k7) rfl
   obtain ⟨N,hN⟩:∃ N,N=wc.heap.size:=⟨_,rfl⟩
   obtain ⟨y8,hy8⟩:∃ y8,y8=wc.alloc (.cells #[.int .i64 1,.slice (some x) 4 4,.int .i64 2,.slice pl n cl,.int .i64 3,.slice px m cx] 50):=⟨_,rfl⟩
   obtain ⟨G,hG⟩:∃ G,G=y8.heap.size:=⟨_,rfl⟩
   obtain ⟨w8,hw8⟩:∃ w8,w8=y8.alloc (.cells #[.int .i64 4,.int .i64 0,.string ⟨#[]⟩,.int .i64 0,.slice (some ⟨N,0,none⟩) 3 3] 44):=⟨_,rfl⟩
   have ky8:Kb 0 wc y8:=by rw [hy8];exact kb_alloc _ _ _
   have kw8:Kb 0 y8 w8:=by rw [hw8];exact kb_alloc _ _ _
   have k8:=ky8.trans kw8
   have o8:y8.ownsRow wc.heap.size 50 2 (.slice (some ⟨N,0,none⟩) 3 3) 3 [.int .i64 1,.slice (some x) 4 4,.int .i64 2,.slice pl n cl,.int .i64 3,.slice px m cx]:=by rw [hy8,hN];exact own_new _ _ _ _ _ _ (Nat.le_refl _) (by omega) rfl rfl
   have g8:w8.heap[G]? = some (.cells #[.int .i64 4,.int .i64 0,.string ⟨#[]⟩,.int .i64 0,.slice (some ⟨N,0,none⟩) 3 3] 44 (0,0)):=by rw [hw8,hG];exact alloc_new _ _ _
   have hz7:=k07.size
   have z8:wc.heap.size≤G:=by rw [hG];exact ky8.size
   have HGN:Hid (GN w.heap.size wc G (jF ⟨n,S,p,q,m,T⟩) (3+0) (.slice (some ⟨N,0,none⟩) 3 3) (v3 (.slice (some x) 4 4) (.slice pl n cl) (.slice px m cx) (fun _=>.slice none 0 0)) w8):=(⟨k8,g8,own_kb o8 kw8,fun k hk=>by
    by_cases e0:k=0
    ·subst e0
     have h:=own_kb (own_base OZ hz7) k8
     rw [show RL = _ from HRL] at h
     exact h
    by_cases e1:k=1
    ·subst e1
     exact own_kb OL (k7.trans k8)
    obtain rfl:k=2:=by omega
    exact own_kb OM (k7.trans k8),z8⟩:GN _ _ _ _ _ _ _ _)
   have q3:w8.cell? ⟨w.heap.size,3,none⟩=some (.slice p2 m c2):=cell_of (blk_kb BJ (k7.trans k8)) rfl
   have H8:Hid (Kb 0 w wc∧wc.heap[w.heap.size+1]? = some (.cells #[.int .i64 0,.int .i64 0,.string ⟨#[]⟩,.int .i64 0,.slice none 0 0] 44 (0,0))):=(⟨k07.trans k7,blk_kb BG k7⟩:_∧_)
   have HW8:Hid (w8=y8.alloc (.cells #[.int .i64 4,.int .i64 0,.string ⟨#[]⟩,.int .i64 0,.slice (some ⟨N,0,none⟩) 3 3] 44)∧y8=wc.alloc (.cells #[.int .i64 1,.slice (some x) 4 4,.int .i64 2,.slice pl n cl,.int .i64 3,.slice px m cx] 50)∧N=wc.heap.size∧G=y8.heap.size):=(⟨hw8,hy8,hN,hG⟩:_∧_)
   clear k07 BJ BG BL OL BM OM k7 BZ OZ hN hy8 hG hw8 ky8 kw8 k8 o8 g8 hz7 z8 H7 HR HRL
   have e8:w8=(wc.alloc (.cells #[.int .i64 1,.slice (some x) 4 4,.int .i64 2,.slice pl n cl,.int .i64 3,.slice px m cx] 50)).alloc (.cells #[.int .i64 4,.int .i64 0,.string ⟨#[]⟩,.int .i64 0,.slice (some ⟨wc.heap.size,0,none⟩) 3 3] 44):=by
    obtain ⟨a1,a2,a3,a4⟩:=(show _∧_∧_∧_ from HW8)
    rw [a1,a2,a3]
   have eG:(wc.alloc (.cells #[.int .i64 1,.slice (some x) 4 4,.int .i64 2,.slice pl n cl,.int .i64 3,.slice px m cx] 50)).heap.size=G:=by
    obtain ⟨a1,a2,a3,a4⟩:=(show _∧_∧_∧_ from HW8)
    rw [← a2,a4]
   have eG2:wc.heap.size+1=G:=by rw [← eG,World.size_alloc]
   have HE:Hid (w8 = _∧_∧wc.heap.size+1=G):=⟨e8,eG,eG2⟩
   clear e8 eG eG2 HW8
   go_upto_region 17 with fail
   rw [← (show _∧_∧wc.heap.size+1=G from HE).1]
   simp only [(show _∧_∧wc.heap.size+1=G from HE).2.2]
   clear HE z0 z1 l0 l1 m0 m1
   go_wp2_with fail
   clear q3
   obtain ⟨FJ,hFJ⟩:∃ FJ,FJ=jF ⟨n,S,p,q,m,T⟩:=⟨_,rfl⟩
   have HFJ:Hid (FJ=jF ⟨n,S,p,q,m,T⟩):=hFJ
   rw [← hFJ] at HGN
   clear hFJ
   go_loopw [63] (fun s63 wr=>∃ (i:Nat) (v:Value) (V:Nat→Value),s63 = .int .i64 (i:Int)∧i≤m∧Hid (GN w.heap.size wc G FJ (3+i) v V wr)) (fun s63 _=>m - (intOf s63).toNat)
   case atStart=>exact ⟨0,_,_,rfl,Nat.zero_le _,HGN⟩
   case round =>
    clear HGN
    obtain ⟨i,v,V,rfl,hin,HX⟩:=hrel
    have hX:=(show GN w.heap.size wc G FJ (3+i) v V wr from HX)
    obtain ⟨pv,cv,rfl⟩:=own_shape hX.nn
    rcases Nat.lt_or_ge i m with hi | hi
    case inl =>
     have hiI:(i:Int) < (m:Int):=by omega
     obtain ⟨k0c,-⟩:=(show Kb 0 w wc∧_ from H8)
     obtain ⟨_,_,e0,hl⟩:=(show Js.RowW 0 w (.slice p2 m c2) m T from HSS)
     injection e0 with e1 e2 e3
     subst e1 e3
     obtain ⟨a,rfl,hca,-,hra⟩:=hl (by omega)
     have kwr:Kb 0 w wr:=k0c.trans hX.kb
     obtain ⟨s,hs⟩:∃ s,s=T i:=⟨_,rfl⟩
     obtain ⟨d0,d1,d2,d3⟩:=hra i hi
     rw [← hs] at d0 d1 d2 d3
     replace d0:=kwr.cell d0
     replace d1:=kwr.cell d1
     replace d2:=kwr.cell d2
     replace d3:=kwr.cell d3
     obtain ⟨X,hXX⟩:∃ X,X=wr.heap.size:=⟨_,rfl⟩
     obtain ⟨wX,hwX⟩:∃ wX,wX=wr.alloc (.cells #[.int .i64 s.k,.int .i64 s.m,.int .i64 s.r,.string s.x] 38):=⟨_,rfl⟩
     have kX:Kb 0 wr wX:=by rw [hwX];exact kb_alloc _ _ _
     have bX:wX.heap[X]? = some (.cells #[.int .i64 s.k,.int .i64 s.m,.int .i64 s.r,.string s.x] 38 (0,0)):=by rw [hwX,hXX];exact alloc_new _ _ _
     have hY:=hX.kk kX
     have HSX:∀ W',Kb 0 wX W'→W'.cell? ⟨X,0,none⟩=some (.int .i64 s.k)∧W'.cell? ⟨X,1,none⟩=some (.int .i64 s.m)∧W'.cell? ⟨X,2,none⟩=some (.int .i64 s.r)∧W'.cell? ⟨X,3,none⟩=some (.string s.x)∧W'.cell? ⟨G,4,none⟩=some (.slice pv (3+i) cv):=fun W' k=>⟨cell_of (blk_kb bX k) rfl,cell_of (blk_kb bX k) rfl,cell_of (blk_kb bX k) rfl,cell_of (blk_kb bX k) rfl,cell_of (hY.kk k).gb rfl⟩
     have hFi:FJ (3+i)=stT s:=by rw [show FJ = _ from HFJ,hs];exact jF_st _ _
     have HOW:Hid (∀ W,Kb 0 wX W→W.ownsRow wc.heap.size 50 2 (.slice pv (3+i) cv) (3+i) (tcl FJ V (3+i))∧wc.heap.size≤W.heap.size∧w.heap.size≤W.heap.size):=(fun W k=>⟨(hY.kk k).nn,(hY.kk k).kb.size,(k0c.trans (hY.kk k).kb).size⟩:∀ W,_)
     have HPU:Hid (∀ W w9 R v',Kb 0 wX W→W.ownsRow w.heap.size 41 4 (.slice (some ⟨R,0,none⟩) 4 4) 4 (vls (stT s).C 4)→w9.ownsRow wc.heap.size 50 2 v' (3+i+1) (tcl FJ V (3+i) ++ [.int .i64 4,.slice (some ⟨R,0,none⟩) 4 4])→W.grownBy w9 (Value.slice pv (3+i) cv).ownBlock→(w9.cell? ⟨X,0,none⟩=some (.int .i64 s.k)∧w9.cell? ⟨X,1,none⟩=some (.int .i64 s.m)∧w9.cell? ⟨X,2,none⟩=some (.int .i64 s.r)∧w9.cell? ⟨X,3,none⟩=some (.string s.x)∧w9.cell? ⟨G,4,none⟩=some (.slice pv (3+i) cv))∧(∀ j,w9.frozen? ⟨G,j,none⟩=false)∧∃ V',GN w.heap.size wc G FJ (3+i+1) v' V' (w9.setCell ⟨G,4,none⟩ v')):=(fun W w9 R v' k hx ho hg=>by
      have hW:=hY.kk k
      obtain ⟨hb,hn⟩:=hW.push (by rw [hFi];exact hx) (by rw [hFi];exact ho) hg
      have bXW:=blk_kb bX k
      have bX9:w9.heap[X]? = some (.cells #[.int .i64 s.k,.int .i64 s.m,.int .i64 s.r,.string s.x] 38 (0,0)):=(hg.block X (blk_lt bXW) (fun e=>own_ty hW.nn bXW (by decide) e.symm rfl)).trans bXW
      exact ⟨⟨cell_of bX9 rfl,cell_of bX9 rfl,cell_of bX9 rfl,cell_of bX9 rfl,cell_of hb rfl⟩,fun j=>frozen_of hb,_,hn⟩:∀ W w9 R v',_)
     obtain ⟨i1,hi1,hy0,hy1,hy2⟩:=info_parts infoTp
     have HI1:Hid (Try.prog.info? 50=some i1):=hi1
     have hic:(i:Int) < 20:=by omega
     obtain ⟨TL,hTL⟩:∃ TL,TL=tcl FJ V (3+i):=⟨_,rfl⟩
     rw [← hTL] at HOW HPU
     have HW:Hid (wX=wr.alloc (.cells #[.int .i64 s.k,.int .i64 s.m,.int .i64 s.r,.string s.x] 38)∧X=wr.heap.size):=(⟨hwX,hXX⟩:_∧_)
     clear hX HX hl hra kwr hi1 hi HSS k0c hXX hwX kX bX hY hs hTL hFi HFJ H8
     go_upto_region 20 with fail
     rw [← (show _∧_ from HW).1,← (show _∧_ from HW).2]
     clear d0 d1 d2 d3 HW
     refine AnyL.region (S:=fun W':World=>W'.cell? ⟨X,0,none⟩=some (.int .i64 s.k)∧W'.cell? ⟨X,1,none⟩=some (.int .i64 s.m)∧W'.cell? ⟨X,2,none⟩=some (.int .i64 s.r)∧W'.cell? ⟨X,3,none⟩=some (.string s.x)∧W'.cell? ⟨G,4,none⟩=some (.slice pv (3+i) cv)) (z:=19) (by kernel_rfl) ?_
     obtain ⟨VD,hVD⟩:∃ VD,VD=wX.drew:=⟨_,rfl⟩
     rw [← hVD]
     have KD:Hid (Kb 0 wX VD):=by rw [hVD];exact Kb.drew (Kb.refl _ _)
     have hS0:(fun W':World=>W'.cell? ⟨X,0,none⟩=some (.int .i64 s.k)∧W'.cell? ⟨X,1,none⟩=some (.int .i64 s.m)∧W'.cell? ⟨X,2,none⟩=some (.int .i64 s.r)∧W'.cell? ⟨X,3,none⟩=some (.string s.x)∧W'.cell? ⟨G,4,none⟩=some (.slice pv (3+i) cv)) VD:=HSX VD KD
     clear hVD
     refine AnyL.takeAt 0 (.pointer (some ⟨G,4,none⟩)) rfl (by kernel_rfl) (by kernel_rfl) (by kernel_rfl) (by kernel_rfl) (fun _ _ _ h=>h) rfl hS0 (by intro W hW;obtain ⟨q0,q1,q2,q3,q4⟩:=hW;go_simp) ?_
     try simp only [Act.put,List.setIfInBounds_toArray,List.set_cons_zero,List.set_cons_succ]
     refine AnyL.takeAt 1 (.slice pv (3+i) cv) rfl (by kernel_rfl) (by kernel_rfl) (by kernel_rfl) (by kernel_rfl) (fun _ _ _ h=>h) rfl hS0 (by intro W hW;obtain ⟨q0,q1,q2,q3,q4⟩:=hW;go_simp) ?_
     try simp only [Act.put,List.setIfInBounds_toArray,List.set_cons_zero,List.set_cons_succ]
     refine AnyL.takeAt 2 (.pointer (some ⟨X,0,none⟩)) rfl (by kernel_rfl) (by kernel_rfl) (by kernel_rfl) (by kernel_rfl) (fun _ _ _ h=>h) rfl hS0 (by intro W hW;obtain ⟨q0,q1,q2,q3,q4⟩:=hW;go_simp) ?_
     try simp only [Act.put,List.setIfInBounds_toArray,List.set_cons_zero,List.set_cons_succ]
     refine AnyL.takeAt 3 (.int .i64 s.k) rfl (by kernel_rfl) (by kernel_rfl) (by kernel_rfl) (by kernel_rfl) (fun _ _ _ h=>h) rfl hS0 (by intro W hW;obtain ⟨q0,q1,q2,q3,q4⟩:=hW;go_simp) ?_
     try simp only [Act.put,List.setIfInBounds_toArray,List.set_cons_zero,List.set_cons_succ]
     refine AnyL.takeAt 5 (.pointer (some ⟨X,1,none⟩)) rfl (by kernel_rfl) (by kernel_rfl) (by kernel_rfl) (by kernel_rfl) (fun _ _ _ h=>h) rfl hS0 (by intro W hW;obtain ⟨q0,q1,q2,q3,q4⟩:=hW;go_simp) ?_
     try simp only [Act.put,List.setIfInBounds_toArray,List.set_cons_zero,List.set_cons_succ]
     refine AnyL.takeAt 6 (.int .i64 s.m) rfl (by kernel_rfl) (by kernel_rfl) (by kernel_rfl) (by kernel_rfl) (fun _ _ _ h=>h) rfl hS0 (by intro W hW;obtain ⟨q0,q1,q2,q3,q4⟩:=hW;go_simp) ?_
     try simp only [Act.put,List.setIfInBounds_toArray,List.set_cons_zero,List.set_cons_succ]
     refine AnyL.takeAt 8 (.pointer (some ⟨X,2,none⟩)) rfl (by kernel_rfl) (by kernel_rfl) (by kernel_rfl) (by kernel_rfl) (fun _ _ _ h=>h) rfl hS0 (by intro W hW;obtain ⟨q0,q1,q2,q3,q4⟩:=hW;go_simp) ?_
     try simp only [Act.put,List.setIfInBounds_toArray,List.set_cons_zero,List.set_cons_succ]
     refine AnyL.takeAt 9 (.int .i64 s.r) rfl (by kernel_rfl) (by kernel_rfl) (by kernel_rfl) (by kernel_rfl) (fun _ _ _ h=>h) rfl hS0 (by intro W hW;obtain ⟨q0,q1,q2,q3,q4⟩:=hW;go_simp) ?_
     try simp only [Act.put,List.setIfInBounds_toArray,List.set_cons_zero,List.set_cons_succ]
     refine AnyL.takeAt 11 (.pointer (some ⟨X,3,none⟩)) rfl (by kernel_rfl) (by kernel_rfl) (by kernel_rfl) (by kernel_rfl) (fun _ _ _ h=>h) rfl hS0 (by intro W hW;obtain ⟨q0,q1,q2,q3,q4⟩:=hW;go_simp) ?_
     try simp only [Act.put,List.setIfInBounds_toArray,List.set_cons_zero,List.set_cons_succ]
     refine AnyL.takeAt 12 (.string s.x) rfl (by kernel_rfl) (by kernel_rfl) (by kernel_rfl) (by kernel_rfl) (fun _ _ _ h=>h) rfl hS0 (by intro W hW;obtain ⟨q0,q1,q2,q3,q4⟩:=hW;go_simp) ?_
     try simp only [Act.put,List.setIfInBounds_toArray,List.set_cons_zero,List.set_cons_succ]
     refine AnyL.oneAt 4 rfl (by kernel_rfl) rfl ?_
     intro K hK
     go_simp
     refine (sp_num59 s.k VD).mono ?_
     rintro e y4 ⟨rfl,gk⟩
     have KY4:Hid (Kb 0 wX y4):=Kb.trans KD gk
     have hS4:=HSX y4 KY4
     clear gk
     refine hK.out _ _ (fun _=>hS4) ?_
     clear hK K
     try simp only [Act.put,List.setIfInBounds_toArray,List.set_cons_zero,List.set_cons_succ]
     refine AnyL.oneAt 7 rfl (by kernel_rfl) rfl ?_
     intro K hK
     go_simp
     refine (sp_num59 s.m y4).mono ?_
     rintro e y7 ⟨rfl,gk⟩
     have KY7:Hid (Kb 0 wX y7):=Kb.trans KY4 gk
     have hS7:=HSX y7 KY7
     clear gk
     refine hK.out _ _ (fun _=>hS7) ?_
     clear hK K
     try simp only [Act.put,List.setIfInBounds_toArray,List.set_cons_zero,List.set_cons_succ]
     refine AnyL.oneAt 10 rfl (by kernel_rfl) rfl ?_
     intro K hK
     go_simp
     refine (sp_num59 s.r y7).mono ?_
     rintro e y10 ⟨rfl,gk⟩
     have KY10:Hid (Kb 0 wX y10):=Kb.trans KY7 gk
     have hS10:=HSX y10 KY10
     clear gk
     refine hK.out _ _ (fun _=>hS10) ?_
     clear hK K
     try simp only [Act.put,List.setIfInBounds_toArray,List.set_cons_zero,List.set_cons_succ]
     refine AnyL.oneAt 13 rfl (by kernel_rfl) rfl ?_
     intro K hK
     go_simp
     refine (sp_txt59 s.x y10).mono ?_
     rintro e y13 ⟨rfl,gk⟩
     have KY13:Hid (Kb 0 wX y13):=Kb.trans KY10 gk
     have hS13:=HSX y13 KY13
     clear gk
     refine hK.out _ _ (fun _=>hS13) ?_
     clear hK K
     try simp only [Act.put,List.setIfInBounds_toArray,List.set_cons_zero,List.set_cons_succ]
     refine AnyL.oneAt 14 rfl (by kernel_rfl) rfl ?_
     intro K hK
     go_simp
     obtain ⟨R,hR⟩:∃ R,R=y13.heap.size:=⟨_,rfl⟩
     obtain ⟨y14,hy14⟩:∃ y14,y14=y13.alloc (.cells #[.int .i64 1,.int .i64 s.k,.string ⟨#[]⟩,.int .i64 0,.int .i64 1,.int .i64 s.m,.string ⟨#[]⟩,.int .i64 0,.int .i64 1,.int .i64 s.r,.string ⟨#[]⟩,.int .i64 0,.int .i64 3,.int .i64 0,.string s.x,.int .i64 0] 41):=⟨_,rfl⟩
     have gk:Kb 0 y13 y14:=by rw [hy14];exact kb_alloc _ _ _
     have KY14:Hid (Kb 0 wX y14):=Kb.trans KY13 gk
     have hS14:=HSX y14 KY14
     obtain ⟨-,-,hb13⟩:=(show ∀ W,Kb 0 wX W→_ from HOW) y13 KY13
     have OX:Hid (y14.ownsRow w.heap.size 41 4 (.slice (some ⟨R,0,none⟩) 4 4) 4 (vls (stT s).C 4)):=(by rw [hy14,hR];exact own_new _ _ _ _ _ _ hb13 (by omega) rfl rfl:y14.ownsRow _ _ _ _ _ _)
     have hWd:y13.alloc (.cells #[.int .i64 1,.int .i64 s.k,.string ⟨#[]⟩,.int .i64 0,.int .i64 1,.int .i64 s.m,.string ⟨#[]⟩,.int .i64 0,.int .i64 1,.int .i64 s.r,.string ⟨#[]⟩,.int .i64 0,.int .i64 3,.int .i64 0,.string s.x,.int .i64 0] 41)=y14:=hy14.symm
     have hZd:y13.heap.size=R:=hR.symm
     try simp only [hWd]
     try rw [hWd]
     try rw [hZd]
     clear hWd hZd hR hy14 gk hb13
     refine hK.out _ _ (fun _=>hS14) ?_
     clear hK K
     try simp only [Act.put,List.setIfInBounds_toArray,List.set_cons_zero,List.set_cons_succ]
     refine AnyL.takeAt 15 (.agg #[.int .i64 4,.slice (some ⟨R,0,none⟩) 4 4]) rfl (by kernel_rfl) (by kernel_rfl) (by kernel_rfl) (by kernel_rfl) (fun _ _ _ h=>h) rfl hS14 (by intro W hW;go_simp) ?_
     try simp only [Act.put,List.setIfInBounds_toArray,List.set_cons_zero,List.set_cons_succ]
     refine AnyL.oneAt 16 rfl (by kernel_rfl) rfl ?_
     intro K hK
     go_simp
     obtain ⟨N2,hN⟩:∃ N2,N2=y14.heap.size:=⟨_,rfl⟩
     obtain ⟨y16,hy16⟩:∃ y16,y16=y14.alloc (.cells #[.int .i64 4,.slice (some ⟨R,0,none⟩) 4 4] 50):=⟨_,rfl⟩
     have gk:Kb 0 y14 y16:=by rw [hy16];exact kb_alloc _ _ _
     have KY16:Hid (Kb 0 wX y16):=Kb.trans KY14 gk
     have hS16:=HSX y16 KY16
     have OX16:Hid (y16.ownsRow w.heap.size 41 4 (.slice (some ⟨R,0,none⟩) 4 4) 4 (vls (stT s).C 4)):=own_kb OX gk
     obtain ⟨hown16,hb16,-⟩:=(show ∀ W,Kb 0 wX W→_ from HOW) y16 KY16
     have hqc:∀ (k:Nat) (y:Value),([.int .i64 4,.slice (some ⟨R,0,none⟩) 4 4]:List Value)[k]? = some y→y16.cell? ((⟨N2,0,none⟩:Addr).add k)=some y:=by rw [hy16,hN];exact qr_cells y14 _ 50 _ rfl
     have hWd:y14.alloc (.cells #[.int .i64 4,.slice (some ⟨R,0,none⟩) 4 4] 50)=y16:=hy16.symm
     have hZd:y14.heap.size=N2:=hN.symm
     try simp only [hWd]
     try rw [hWd]
     try rw [hZd]
     clear hWd hZd hN hy16 gk OX
     refine hK.out _ _ (fun _=>hS16) ?_
     clear hK K
     try simp only [Act.put,List.setIfInBounds_toArray,List.set_cons_zero,List.set_cons_succ]
     refine AnyL.oneAt 17 rfl (by kernel_rfl) rfl ?_
     intro K hK
     refine wp_append_own _ (.tmp 68) (.tmp 83) 42 rfl wc.heap.size 50 i1 (.agg #[.int .i64 0,.slice none 0 0]) 2 32 Try.underlying42 HI1 hy0 hy1 hy2 rfl (by decide) (.slice pv (3+i) cv) (3+i) TL rfl hown16 ⟨N2,0,none⟩ 1 1 [.int .i64 4,.slice (some ⟨R,0,none⟩) 4 4] rfl rfl hqc (by
      intro y hy
      simp only [List.mem_cons,List.not_mem_nil,or_false] at hy
      rcases hy with rfl | rfl <;> rfl) (by unfold maxLen;omega) (by omega) hb16 ?_
     intro v' w9 hown1 hgrow1 _
     obtain ⟨pv',cv',rfl⟩:=own_shape hown1
     obtain ⟨hS9,hf9,V',hGN⟩:=(show ∀ W w9 R v',Kb 0 wX W→_ from HPU) _ _ _ _ KY16 OX16 hown1 hgrow1
     have HGN:Hid (GN w.heap.size wc G FJ (3+i+1) (.slice pv' (3+i+1) cv') V' (w9.setCell ⟨G,4,none⟩ (.slice pv' (3+i+1) cv'))):=hGN
     clear HPU hown1 hgrow1 hGN hown16 hb16 HOW HSX OX16 hqc
     refine hK.out _ _ (fun _=>hS9) ?_
     clear hK K
     try simp only [Act.put,List.setIfInBounds_toArray,List.set_cons_zero,List.set_cons_succ]
     first
     | (refine AnyL.takeAt 18 (.pointer (some ⟨G,4,none⟩)) rfl (by kernel_rfl) (by kernel_rfl) (by kernel_rfl) (by kernel_rfl) (fun _ _ _ h=>h) rfl hS9 (by intro W hW;go_simp) ?_)
     | skip
     try simp only [Act.put,List.setIfInBounds_toArray,List.set_cons_zero,List.set_cons_succ]
     obtain ⟨-,-,-,-,s4⟩:=hS9
     refine AnyL.oneAt 19 rfl (by kernel_rfl) rfl ?_
     intro K hK
     go_simp
     refine hK.out _ _ (fun h=>absurd rfl h) ?_
     clear hK K s4 hf9
     try simp only [Act.put,List.setIfInBounds_toArray,List.set_cons_zero,List.set_cons_succ]
     refine AnyL.done (by kernel_rfl) ?_
     go_wp2_with fail
     go_roundw
     case rel=>exact ⟨i+1,_,_,by go_num,by omega,HGN⟩
     case measure=>simp [intOf];omega
    obtain rfl:i=m:=by omega
    have hI3:¬ (i:Int) < (i:Int):=by omega
    obtain ⟨k0c,GB⟩:=(show Kb 0 w wc∧wc.heap[w.heap.size+1]? = some (.cells #[.int .i64 0,.int .i64 0,.string ⟨#[]⟩,.int .i64 0,.slice none 0 0] 44 (0,0)) from H8)
    have G9:=blk_kb GB hX.kb
    have c0:wr.cell? ⟨G,0,none⟩=some (.int .i64 4):=cell_of hX.gb rfl
    have c1':wr.cell? ⟨G,1,none⟩=some (.int .i64 0):=cell_of hX.gb rfl
    have c2':wr.cell? ⟨G,2,none⟩=some (.string ⟨#[]⟩):=cell_of hX.gb rfl
    have c3:wr.cell? ⟨G,3,none⟩=some (.int .i64 0):=cell_of hX.gb rfl
    have c4:wr.cell? ⟨G,4,none⟩=some (.slice pv (3+i) cv):=cell_of hX.gb rfl
    have g0:wr.cell? ⟨w.heap.size+1,0,none⟩=some (.int .i64 0):=cell_of G9 rfl
    have g1:wr.cell? ⟨w.heap.size+1,1,none⟩=some (.int .i64 0):=cell_of G9 rfl
    have g2:wr.cell? ⟨w.heap.size+1,2,none⟩=some (.string ⟨#[]⟩):=cell_of G9 rfl
    have g3:wr.cell? ⟨w.heap.size+1,3,none⟩=some (.int .i64 0):=cell_of G9 rfl
    have g4:wr.cell? ⟨w.heap.size+1,4,none⟩=some (.slice none 0 0):=cell_of G9 rfl
    have gz:∀ j,wr.frozen? ⟨w.heap.size+1,j,none⟩=false:=fun j=>frozen_of G9
    obtain ⟨WF,hWF⟩:∃ WF,WF=s5 wr (w.heap.size+1) 4 0 ⟨#[]⟩ 0 (.slice pv (3+i) cv):=⟨_,rfl⟩
    have bF:WF.heap[w.heap.size+1]? = some (.cells #[.int .i64 4,.int .i64 0,.string ⟨#[]⟩,.int .i64 0,.slice pv (3+i) cv] 44 (0,0)):=by rw [hWF];exact s5_known G9 _ _ _ _ _
    have e0:WF.cell? ⟨w.heap.size+1,0,none⟩=some (.int .i64 4):=cell_of bF rfl
    have e1:WF.cell? ⟨w.heap.size+1,1,none⟩=some (.int .i64 0):=cell_of bF rfl
    have e2:WF.cell? ⟨w.heap.size+1,2,none⟩=some (.string ⟨#[]⟩):=cell_of bF rfl
    have e3:WF.cell? ⟨w.heap.size+1,3,none⟩=some (.int .i64 0):=cell_of bF rfl
    have e4:WF.cell? ⟨w.heap.size+1,4,none⟩=some (.slice pv (3+i) cv):=cell_of bF rfl
    have HFF:Hid (∃ V9,TH w.heap.size WF (.slice pv (3+i) cv) (3+i) (jF ⟨n,S,p,q,i,T⟩) V9∧Kb 0 w WF):=(by
     have fr:∀ g,g ≠ w.heap.size+1→WF.heap[g]? = wr.heap[g]?:=fun g hg=>by rw [hWF];exact s5_far _ _ _ _ _ _ hg
     have k0r:=k0c.trans hX.kb
     have hth:TH w.heap.size WF (.slice pv (3+i) cv) (3+i) FJ V:=⟨own_keep (own_base hX.nn k0c.size) (fun g e=>fr g (own_ty hX.nn G9 (by decide) e)),fun k hk=>own_keep (hX.vs k hk) (fun g e=>fr g (own_ty (hX.vs k hk) G9 (by decide) e))⟩
     rw [show FJ = _ from HFJ] at hth
     exact ⟨V,hth,⟨by rw [hWF];exact (s5_os _ _ _ _ _ _ _).1.trans k0r.os,by rw [hWF];exact (s5_os _ _ _ _ _ _ _).2.trans k0r.output,by rw [hWF,s5_size];exact k0r.size,fun g _ hg=>(fr g (by omega)).trans (k0r.block g (Nat.zero_le _) hg)⟩⟩:∃ V9,_)
    unfold s5 s4 at hWF
    have HWF:Hid (WF = _):=hWF
    clear hX HX k0c GB G9 hWF bF H8 HFJ HSS hi hin
    go_wp2_with fail
    rw [← (show WF = _ from HWF)]
    clear HWF
    refine bodyPost_ret (by simp [results,Try.results28,go_sem,e0,e1,e2,e3,e4];rfl) rfl ?_
    obtain ⟨V9,t1,t2⟩:=(show ∃ V9,TH w.heap.size WF (.slice pv (3+i) cv) (3+i) (jF ⟨n,S,p,q,i,T⟩) V9∧Kb 0 w WF from HFF)
    exact ⟨_,V9,rfl,t1,t2⟩
end Go.Proofs.Ytamcnmnaadpfoaa.Fo
