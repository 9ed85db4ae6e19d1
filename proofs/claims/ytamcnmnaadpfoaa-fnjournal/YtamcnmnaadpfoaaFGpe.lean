import Derived.Test.YtamcnmnaadpfoaaFGdc
import Derived.Lib.AppendStr
import Derived.Laws.AppendOwn
set_option maxHeartbeats 8000000
namespace Go.Proofs.Ytamcnmnaadpfoaa.Fo
open Go.ChangeShapes Go.WideShapes Go.ChangeAt Go.RowKit
set_option linter.unusedVariables false
set_option maxRecDepth 100000
theorem sp_pval_0 {B : Nat} {vo : Value} {l : List Int} {m r : Int} {x : ByteArray} (w : World) (h : w.ownsRow B 5 1 vo l.length (bvs l)) (hB : B ≤ w.heap.size) (hl : l.length ≤ 900000000)  :
  Calls Try.prog 74 #[vo,.agg #[.int .i64 0,.int .i64 m,.string x,.int .i64 r]] w fun e w'=>∃ v',e = .returned v'∧w'.ownsRow B 5 1 v' (l ++ [0]).length (bvs (l ++ [0]))∧Kx B w w':=by
 obtain ⟨i0,hi0,hz0,hz1,hz2⟩:=info_parts infoB
 have HI0:Hid (Try.prog.info? 5=some i0):=hi0
 obtain ⟨ad,cap,rfl⟩:=own_shape h
 obtain ⟨w1,hw1⟩:∃ w1,w1=w.alloc (.cells #[.int .i64 0,.int .i64 m,.string x,.int .i64 r] 41):=⟨_,rfl⟩
 have k1:Kb 0 w w1:=by rw [hw1];exact kb_alloc _ _ _
 have b1:w1.heap[w.heap.size]? = some (.cells #[.int .i64 0,.int .i64 m,.string x,.int .i64 r] 41 (0,0)):=by rw [hw1];exact alloc_new _ _ _
 have h1:w1.ownsRow B 5 1 (.slice ad l.length cap) l.length (bvs l):=own_keep h (fun g e=>k1.block g (Nat.zero_le _) (h.lt g e).2)
 have u0:w1.cell? ⟨w.heap.size,0,none⟩=some (.int .i64 0):=cell_of b1 rfl
 obtain ⟨L,hL⟩:∃ L,L=l.length:=⟨_,rfl⟩
 obtain ⟨LV,hLV⟩:∃ LV,LV=bvs l:=⟨_,rfl⟩
 have hL1:L≤900000000:=by omega
 rw [← hL,← hLV] at h1
 have howna:∀ ob:Obj,(w1.alloc ob).ownsRow B 5 1 (.slice ad L cap) L LV:=fun ob=>h1.alloc ob
 have hqc:∀ (j:Nat) (u:Value),([.int .u8 0]:List Value)[j]? = some u→(w1.alloc (.cells #[.int .u8 0] 5)).cell? ((⟨w1.heap.size,0,none⟩:Addr).add j)=some u:=qr_cells w1 #[.int .u8 0] 5 [.int .u8 0] rfl
 have h1c:∀ u ∈ ([.int .u8 0]:List Value),u.oneCell'=true:=by intro u hu;simp at hu;subst hu;rfl
 have hbs:B≤w1.heap.size:=Nat.le_trans hB k1.size
 have HST:Hid (∀ (ob:Obj) (v':Value) (w5:World),w5.ownsRow B 5 1 v' (L+1) (LV ++ [.int .u8 0])→(w1.alloc ob).grownBy w5 (Value.slice ad L cap).ownBlock→w5.ownsRow B 5 1 v' (l ++ [0]).length (bvs (l ++ [0]))∧Kx B w w5∧w5.heap[w.heap.size]? = some (.cells #[.int .i64 0,.int .i64 m,.string x,.int .i64 r] 41 (0,0))∧B≤w5.heap.size):=(fun ob v' w5 h5 g5=>by
  have kx:Kx B w1 w5:=(Kx.of_kb (kb_alloc 0 w1 ob)).trans (Kx.grown (howna ob) g5)
  refine ⟨?_,(Kx.of_kb k1).trans kx,(kx.nt _ _ _ b1 (by decide)).trans b1,Nat.le_trans hbs kx.size⟩
  have e1:(l ++ [(0:Int)]).length=L+1:=by rw [hL,List.length_append];rfl
  have e2:bvs (l ++ [(0:Int)])=LV ++ [.int .u8 0]:=by rw [hLV];unfold bvs;rw [List.map_append];rfl
  rw [e1,e2]
  exact h5:∀ (ob:Obj) (v':Value) (w5:World),_)
 have HW1:Hid (w1 = _):=hw1
 have HLL:Hid (l.length≤900000000):=hl
 rw [← hL]
 clear h hB hl k1 b1 h1 hw1 hi0 hL hLV
 go_enter Try.func74,Try.ntmps74
 go_upto_region 1 with fail
 rw [← (show w1 = _ from HW1)]
 clear HW1
 go_upto_region 2 with (at_builtin;refine wpList_append_own _ rfl (.tmp 5) (.tmp 9) 22 rfl B 5 i0 (.int .u8 0) 1 1 Try.underlying22 HI0 hz0 hz1 hz2 rfl (by decide) _ _ _ rfl (howna _) ⟨w1.heap.size,0,none⟩ 1 1 [.int .u8 0] rfl rfl hqc h1c (by unfold maxLen;omega) (by omega) (by simp;omega) ?_;intro v' w5 hown1 hgrow1 _;obtain ⟨p1,p2,p3,p4⟩:=(show ∀ (ob:Obj) (v':Value) (w5:World),_ from HST) _ _ _ hown1 hgrow1;clear HST hown1 hgrow1 howna hqc h1c)
 clear u0 hbs
 have u0:w5.cell? ⟨w.heap.size,0,none⟩=some (.int .i64 0):=cell_of p3 rfl
 have HE:Hid (w5.ownsRow B 5 1 v' (l ++ [0]).length (bvs (l ++ [0]))∧Kx B w w5):=(⟨p1,p2⟩:_∧_)
 clear p1 p2 p3 p4 HLL
 go_wp2_with fail
 go_ret
 exact ⟨_,rfl,HE⟩
theorem sp_pval_4 {B : Nat} {vo : Value} {l : List Int} {m r : Int} {x : ByteArray} (w : World) (h : w.ownsRow B 5 1 vo l.length (bvs l)) (hB : B ≤ w.heap.size) (hl : l.length ≤ 900000000) (hr0 : 0 ≤ r) (hr1 : r ≤ 1000000000) :
  Calls Try.prog 74 #[vo,.agg #[.int .i64 4,.int .i64 m,.string x,.int .i64 r]] w fun e w'=>∃ v',e = .returned v'∧w'.ownsRow B 5 1 v' (l ++ ([4] ++ numb r.toNat)).length (bvs (l ++ ([4] ++ numb r.toNat)))∧Kx B w w':=by
 obtain ⟨i0,hi0,hz0,hz1,hz2⟩:=info_parts infoB
 have HI0:Hid (Try.prog.info? 5=some i0):=hi0
 obtain ⟨ad,cap,rfl⟩:=own_shape h
 obtain ⟨w1,hw1⟩:∃ w1,w1=w.alloc (.cells #[.int .i64 4,.int .i64 m,.string x,.int .i64 r] 41):=⟨_,rfl⟩
 have k1:Kb 0 w w1:=by rw [hw1];exact kb_alloc _ _ _
 have b1:w1.heap[w.heap.size]? = some (.cells #[.int .i64 4,.int .i64 m,.string x,.int .i64 r] 41 (0,0)):=by rw [hw1];exact alloc_new _ _ _
 have h1:w1.ownsRow B 5 1 (.slice ad l.length cap) l.length (bvs l):=own_keep h (fun g e=>k1.block g (Nat.zero_le _) (h.lt g e).2)
 have u0:w1.cell? ⟨w.heap.size,0,none⟩=some (.int .i64 4):=cell_of b1 rfl
 obtain ⟨L,hL⟩:∃ L,L=l.length:=⟨_,rfl⟩
 obtain ⟨LV,hLV⟩:∃ LV,LV=bvs l:=⟨_,rfl⟩
 have hL1:L≤900000000:=by omega
 rw [← hL,← hLV] at h1
 have howna:∀ ob:Obj,(w1.alloc ob).ownsRow B 5 1 (.slice ad L cap) L LV:=fun ob=>h1.alloc ob
 have hqc:∀ (j:Nat) (u:Value),([.int .u8 4]:List Value)[j]? = some u→(w1.alloc (.cells #[.int .u8 4] 5)).cell? ((⟨w1.heap.size,0,none⟩:Addr).add j)=some u:=qr_cells w1 #[.int .u8 4] 5 [.int .u8 4] rfl
 have h1c:∀ u ∈ ([.int .u8 4]:List Value),u.oneCell'=true:=by intro u hu;simp at hu;subst hu;rfl
 have hbs:B≤w1.heap.size:=Nat.le_trans hB k1.size
 have HST:Hid (∀ (ob:Obj) (v':Value) (w5:World),w5.ownsRow B 5 1 v' (L+1) (LV ++ [.int .u8 4])→(w1.alloc ob).grownBy w5 (Value.slice ad L cap).ownBlock→w5.ownsRow B 5 1 v' (l ++ [4]).length (bvs (l ++ [4]))∧Kx B w w5∧w5.heap[w.heap.size]? = some (.cells #[.int .i64 4,.int .i64 m,.string x,.int .i64 r] 41 (0,0))∧B≤w5.heap.size):=(fun ob v' w5 h5 g5=>by
  have kx:Kx B w1 w5:=(Kx.of_kb (kb_alloc 0 w1 ob)).trans (Kx.grown (howna ob) g5)
  refine ⟨?_,(Kx.of_kb k1).trans kx,(kx.nt _ _ _ b1 (by decide)).trans b1,Nat.le_trans hbs kx.size⟩
  have e1:(l ++ [(4:Int)]).length=L+1:=by rw [hL,List.length_append];rfl
  have e2:bvs (l ++ [(4:Int)])=LV ++ [.int .u8 4]:=by rw [hLV];unfold bvs;rw [List.map_append];rfl
  rw [e1,e2]
  exact h5:∀ (ob:Obj) (v':Value) (w5:World),_)
 have HW1:Hid (w1 = _):=hw1
 have HLL:Hid (l.length≤900000000):=hl
 rw [← hL]
 clear h hB hl k1 b1 h1 hw1 hi0 hL hLV
 go_enter Try.func74,Try.ntmps74
 go_upto_region 1 with fail
 rw [← (show w1 = _ from HW1)]
 clear HW1
 go_upto_region 2 with (at_builtin;refine wpList_append_own _ rfl (.tmp 5) (.tmp 9) 22 rfl B 5 i0 (.int .u8 0) 1 1 Try.underlying22 HI0 hz0 hz1 hz2 rfl (by decide) _ _ _ rfl (howna _) ⟨w1.heap.size,0,none⟩ 1 1 [.int .u8 4] rfl rfl hqc h1c (by unfold maxLen;omega) (by omega) (by simp;omega) ?_;intro v' w5 hown1 hgrow1 _;obtain ⟨p1,p2,p3,p4⟩:=(show ∀ (ob:Obj) (v':Value) (w5:World),_ from HST) _ _ _ hown1 hgrow1;clear HST hown1 hgrow1 howna hqc h1c)
 clear u0 hbs
 have u0:w5.cell? ⟨w.heap.size,0,none⟩=some (.int .i64 4):=cell_of p3 rfl
 have u3:w5.cell? ⟨w.heap.size,3,none⟩=some (.int .i64 r):=cell_of p3 rfl
 have HN:=sp_num r.toNat w5 p1 p4 (by rw [List.length_append];have:=(show l.length≤900000000 from HLL);show l.length+1≤_;omega) (by omega)
 rw [List.append_assoc,Int.toNat_of_nonneg hr0] at HN
 have HP2:Hid (Kx B w w5):=p2
 clear p1 p2 p3 p4 HLL
 go_wp2_with fail
 refine HN.mono ?_
 rintro e w6 ⟨v6,rfl,r6,k6⟩
 have HE:Hid (w6.ownsRow B 5 1 v6 (l ++ ([4] ++ numb r.toNat)).length (bvs (l ++ ([4] ++ numb r.toNat)))∧Kx B w w6):=(⟨r6,(show Kx B w w5 from HP2).trans k6⟩:_∧_)
 clear HN r6 k6 u0 HP2
 go_wp2_with fail
 go_ret
 exact ⟨_,rfl,HE⟩
theorem sp_pval_1 {B : Nat} {vo : Value} {l : List Int} {m r : Int} {x : ByteArray} (w : World) (h : w.ownsRow B 5 1 vo l.length (bvs l)) (hB : B ≤ w.heap.size) (hl : l.length ≤ 900000000) (hm0 : -9223372036854775808 ≤ m) (hm1 : m ≤ 9223372036854775807) :
  Calls Try.prog 74 #[vo,.agg #[.int .i64 1,.int .i64 m,.string x,.int .i64 r]] w fun e w'=>∃ v',e = .returned v'∧w'.ownsRow B 5 1 v' (l ++ ([1] ++ numb (sgn m))).length (bvs (l ++ ([1] ++ numb (sgn m))))∧Kx B w w':=by
 obtain ⟨i0,hi0,hz0,hz1,hz2⟩:=info_parts infoB
 have HI0:Hid (Try.prog.info? 5=some i0):=hi0
 obtain ⟨ad,cap,rfl⟩:=own_shape h
 obtain ⟨w1,hw1⟩:∃ w1,w1=w.alloc (.cells #[.int .i64 1,.int .i64 m,.string x,.int .i64 r] 41):=⟨_,rfl⟩
 have k1:Kb 0 w w1:=by rw [hw1];exact kb_alloc _ _ _
 have b1:w1.heap[w.heap.size]? = some (.cells #[.int .i64 1,.int .i64 m,.string x,.int .i64 r] 41 (0,0)):=by rw [hw1];exact alloc_new _ _ _
 have h1:w1.ownsRow B 5 1 (.slice ad l.length cap) l.length (bvs l):=own_keep h (fun g e=>k1.block g (Nat.zero_le _) (h.lt g e).2)
 have u0:w1.cell? ⟨w.heap.size,0,none⟩=some (.int .i64 1):=cell_of b1 rfl
 obtain ⟨L,hL⟩:∃ L,L=l.length:=⟨_,rfl⟩
 obtain ⟨LV,hLV⟩:∃ LV,LV=bvs l:=⟨_,rfl⟩
 have hL1:L≤900000000:=by omega
 rw [← hL,← hLV] at h1
 have howna:∀ ob:Obj,(w1.alloc ob).ownsRow B 5 1 (.slice ad L cap) L LV:=fun ob=>h1.alloc ob
 have hqc:∀ (j:Nat) (u:Value),([.int .u8 1]:List Value)[j]? = some u→(w1.alloc (.cells #[.int .u8 1] 5)).cell? ((⟨w1.heap.size,0,none⟩:Addr).add j)=some u:=qr_cells w1 #[.int .u8 1] 5 [.int .u8 1] rfl
 have h1c:∀ u ∈ ([.int .u8 1]:List Value),u.oneCell'=true:=by intro u hu;simp at hu;subst hu;rfl
 have hbs:B≤w1.heap.size:=Nat.le_trans hB k1.size
 have HST:Hid (∀ (ob:Obj) (v':Value) (w5:World),w5.ownsRow B 5 1 v' (L+1) (LV ++ [.int .u8 1])→(w1.alloc ob).grownBy w5 (Value.slice ad L cap).ownBlock→w5.ownsRow B 5 1 v' (l ++ [1]).length (bvs (l ++ [1]))∧Kx B w w5∧w5.heap[w.heap.size]? = some (.cells #[.int .i64 1,.int .i64 m,.string x,.int .i64 r] 41 (0,0))∧B≤w5.heap.size):=(fun ob v' w5 h5 g5=>by
  have kx:Kx B w1 w5:=(Kx.of_kb (kb_alloc 0 w1 ob)).trans (Kx.grown (howna ob) g5)
  refine ⟨?_,(Kx.of_kb k1).trans kx,(kx.nt _ _ _ b1 (by decide)).trans b1,Nat.le_trans hbs kx.size⟩
  have e1:(l ++ [(1:Int)]).length=L+1:=by rw [hL,List.length_append];rfl
  have e2:bvs (l ++ [(1:Int)])=LV ++ [.int .u8 1]:=by rw [hLV];unfold bvs;rw [List.map_append];rfl
  rw [e1,e2]
  exact h5:∀ (ob:Obj) (v':Value) (w5:World),_)
 have HW1:Hid (w1 = _):=hw1
 have HLL:Hid (l.length≤900000000):=hl
 rw [← hL]
 clear h hB hl k1 b1 h1 hw1 hi0 hL hLV
 go_enter Try.func74,Try.ntmps74
 go_upto_region 1 with fail
 rw [← (show w1 = _ from HW1)]
 clear HW1
 go_upto_region 2 with (at_builtin;refine wpList_append_own _ rfl (.tmp 5) (.tmp 9) 22 rfl B 5 i0 (.int .u8 0) 1 1 Try.underlying22 HI0 hz0 hz1 hz2 rfl (by decide) _ _ _ rfl (howna _) ⟨w1.heap.size,0,none⟩ 1 1 [.int .u8 1] rfl rfl hqc h1c (by unfold maxLen;omega) (by omega) (by simp;omega) ?_;intro v' w5 hown1 hgrow1 _;obtain ⟨p1,p2,p3,p4⟩:=(show ∀ (ob:Obj) (v':Value) (w5:World),_ from HST) _ _ _ hown1 hgrow1;clear HST hown1 hgrow1 howna hqc h1c)
 clear u0 hbs
 have u0:w5.cell? ⟨w.heap.size,0,none⟩=some (.int .i64 1):=cell_of p3 rfl
 have u1:w5.cell? ⟨w.heap.size,1,none⟩=some (.int .i64 m):=cell_of p3 rfl
 have HG:=sp_signed m hm0 hm1 w5
 have HN:=sp_num (sgn m) w5 p1 p4 (by rw [List.length_append];have:=(show l.length≤900000000 from HLL);show l.length+1≤_;omega) (sgn_lt hm0 hm1)
 rw [List.append_assoc] at HN
 have HP2:Hid (Kx B w w5):=p2
 clear p1 p2 p3 p4 HLL
 go_wp2_with fail
 refine HG.mono ?_
 rintro e w5' ⟨rfl,rfl⟩
 clear HG
 go_wp2_with fail
 refine HN.mono ?_
 rintro e w6 ⟨v6,rfl,r6,k6⟩
 have HE:Hid (w6.ownsRow B 5 1 v6 (l ++ ([1] ++ numb (sgn m))).length (bvs (l ++ ([1] ++ numb (sgn m))))∧Kx B w w6):=(⟨r6,(show Kx B w _ from HP2).trans k6⟩:_∧_)
 clear HN r6 k6 u0 u1 HP2
 go_wp2_with fail
 go_ret
 exact ⟨_,rfl,HE⟩
theorem sp_pval_2 {B : Nat} {vo : Value} {l : List Int} {m r : Int} {x : ByteArray} (w : World) (h : w.ownsRow B 5 1 vo l.length (bvs l)) (hB : B ≤ w.heap.size) (hl : l.length ≤ 900000000) (hm0 : -9223372036854775808 ≤ m) (hm1 : m ≤ 9223372036854775807) :
  Calls Try.prog 74 #[vo,.agg #[.int .i64 2,.int .i64 m,.string x,.int .i64 r]] w fun e w'=>∃ v',e = .returned v'∧w'.ownsRow B 5 1 v' (l ++ ([2] ++ eig (m % 18446744073709551616).toNat 8)).length (bvs (l ++ ([2] ++ eig (m % 18446744073709551616).toNat 8)))∧Kx B w w':=by
 obtain ⟨i0,hi0,hz0,hz1,hz2⟩:=info_parts infoB
 have HI0:Hid (Try.prog.info? 5=some i0):=hi0
 obtain ⟨ad,cap,rfl⟩:=own_shape h
 obtain ⟨w1,hw1⟩:∃ w1,w1=w.alloc (.cells #[.int .i64 2,.int .i64 m,.string x,.int .i64 r] 41):=⟨_,rfl⟩
 have k1:Kb 0 w w1:=by rw [hw1];exact kb_alloc _ _ _
 have b1:w1.heap[w.heap.size]? = some (.cells #[.int .i64 2,.int .i64 m,.string x,.int .i64 r] 41 (0,0)):=by rw [hw1];exact alloc_new _ _ _
 have h1:w1.ownsRow B 5 1 (.slice ad l.length cap) l.length (bvs l):=own_keep h (fun g e=>k1.block g (Nat.zero_le _) (h.lt g e).2)
 have u0:w1.cell? ⟨w.heap.size,0,none⟩=some (.int .i64 2):=cell_of b1 rfl
 obtain ⟨L,hL⟩:∃ L,L=l.length:=⟨_,rfl⟩
 obtain ⟨LV,hLV⟩:∃ LV,LV=bvs l:=⟨_,rfl⟩
 have hL1:L≤900000000:=by omega
 rw [← hL,← hLV] at h1
 have howna:∀ ob:Obj,(w1.alloc ob).ownsRow B 5 1 (.slice ad L cap) L LV:=fun ob=>h1.alloc ob
 have hqc:∀ (j:Nat) (u:Value),([.int .u8 2]:List Value)[j]? = some u→(w1.alloc (.cells #[.int .u8 2] 5)).cell? ((⟨w1.heap.size,0,none⟩:Addr).add j)=some u:=qr_cells w1 #[.int .u8 2] 5 [.int .u8 2] rfl
 have h1c:∀ u ∈ ([.int .u8 2]:List Value),u.oneCell'=true:=by intro u hu;simp at hu;subst hu;rfl
 have hbs:B≤w1.heap.size:=Nat.le_trans hB k1.size
 have HST:Hid (∀ (ob:Obj) (v':Value) (w5:World),w5.ownsRow B 5 1 v' (L+1) (LV ++ [.int .u8 2])→(w1.alloc ob).grownBy w5 (Value.slice ad L cap).ownBlock→w5.ownsRow B 5 1 v' (l ++ [2]).length (bvs (l ++ [2]))∧Kx B w w5∧w5.heap[w.heap.size]? = some (.cells #[.int .i64 2,.int .i64 m,.string x,.int .i64 r] 41 (0,0))∧B≤w5.heap.size):=(fun ob v' w5 h5 g5=>by
  have kx:Kx B w1 w5:=(Kx.of_kb (kb_alloc 0 w1 ob)).trans (Kx.grown (howna ob) g5)
  refine ⟨?_,(Kx.of_kb k1).trans kx,(kx.nt _ _ _ b1 (by decide)).trans b1,Nat.le_trans hbs kx.size⟩
  have e1:(l ++ [(2:Int)]).length=L+1:=by rw [hL,List.length_append];rfl
  have e2:bvs (l ++ [(2:Int)])=LV ++ [.int .u8 2]:=by rw [hLV];unfold bvs;rw [List.map_append];rfl
  rw [e1,e2]
  exact h5:∀ (ob:Obj) (v':Value) (w5:World),_)
 have HW1:Hid (w1 = _):=hw1
 have HLL:Hid (l.length≤900000000):=hl
 rw [← hL]
 clear h hB hl k1 b1 h1 hw1 hi0 hL hLV
 go_enter Try.func74,Try.ntmps74
 go_upto_region 1 with fail
 rw [← (show w1 = _ from HW1)]
 clear HW1
 go_upto_region 2 with (at_builtin;refine wpList_append_own _ rfl (.tmp 5) (.tmp 9) 22 rfl B 5 i0 (.int .u8 0) 1 1 Try.underlying22 HI0 hz0 hz1 hz2 rfl (by decide) _ _ _ rfl (howna _) ⟨w1.heap.size,0,none⟩ 1 1 [.int .u8 2] rfl rfl hqc h1c (by unfold maxLen;omega) (by omega) (by simp;omega) ?_;intro v' w5 hown1 hgrow1 _;obtain ⟨p1,p2,p3,p4⟩:=(show ∀ (ob:Obj) (v':Value) (w5:World),_ from HST) _ _ _ hown1 hgrow1;clear HST hown1 hgrow1 howna hqc h1c)
 clear u0 hbs
 have u0:w5.cell? ⟨w.heap.size,0,none⟩=some (.int .i64 2):=cell_of p3 rfl
 have u1:w5.cell? ⟨w.heap.size,1,none⟩=some (.int .i64 m):=cell_of p3 rfl
 have HN:=sp_eight (m % 18446744073709551616).toNat w5 p1 p4 (by rw [List.length_append];have:=(show l.length≤900000000 from HLL);show l.length+1≤_;omega) (by omega)
 rw [List.append_assoc,Int.toNat_of_nonneg (by omega)] at HN
 have HP2:Hid (Kx B w w5):=p2
 clear p1 p2 p3 p4 HLL
 go_wp2_with fail
 refine HN.mono ?_
 rintro e w6 ⟨v6,rfl,r6,k6⟩
 have HE:Hid (w6.ownsRow B 5 1 v6 (l ++ ([2] ++ eig (m % 18446744073709551616).toNat 8)).length (bvs (l ++ ([2] ++ eig (m % 18446744073709551616).toNat 8)))∧Kx B w w6):=(⟨r6,(show Kx B w _ from HP2).trans k6⟩:_∧_)
 clear HN r6 k6 u0 u1 HP2
 go_wp2_with fail
 go_ret
 exact ⟨_,rfl,HE⟩
def bts (x:ByteArray):List Int:=x.data.toList.map (fun b=>(b.toNat:Int))
theorem bts_cells (x:ByteArray):bvs (bts x)=Lib.strCells x:=by
 unfold bvs bts Lib.strCells
 rw [List.map_map]
 rfl
theorem bts_len (x:ByteArray):(bts x).length=x.size:=by
 unfold bts
 rw [List.length_map]
 rfl
theorem sp_pval_3 {B : Nat} {vo : Value} {l : List Int} {m r : Int} {x : ByteArray} (w : World) (h : w.ownsRow B 5 1 vo l.length (bvs l)) (hB : B ≤ w.heap.size) (hl : l.length ≤ 900000000) (hx : x.size ≤ 50000000) :
  Calls Try.prog 74 #[vo,.agg #[.int .i64 3,.int .i64 m,.string x,.int .i64 r]] w fun e w'=>∃ v',e = .returned v'∧w'.ownsRow B 5 1 v' (l ++ ([3] ++ numb x.size ++ bts x)).length (bvs (l ++ ([3] ++ numb x.size ++ bts x)))∧Kx B w w':=by
 obtain ⟨i0,hi0,hz0,hz1,hz2⟩:=info_parts infoB
 have HI0:Hid (Try.prog.info? 5=some i0):=hi0
 obtain ⟨ad,cap,rfl⟩:=own_shape h
 obtain ⟨w1,hw1⟩:∃ w1,w1=w.alloc (.cells #[.int .i64 3,.int .i64 m,.string x,.int .i64 r] 41):=⟨_,rfl⟩
 have k1:Kb 0 w w1:=by rw [hw1];exact kb_alloc _ _ _
 have b1:w1.heap[w.heap.size]? = some (.cells #[.int .i64 3,.int .i64 m,.string x,.int .i64 r] 41 (0,0)):=by rw [hw1];exact alloc_new _ _ _
 have h1:w1.ownsRow B 5 1 (.slice ad l.length cap) l.length (bvs l):=own_keep h (fun g e=>k1.block g (Nat.zero_le _) (h.lt g e).2)
 have u0:w1.cell? ⟨w.heap.size,0,none⟩=some (.int .i64 3):=cell_of b1 rfl
 obtain ⟨L,hL⟩:∃ L,L=l.length:=⟨_,rfl⟩
 obtain ⟨LV,hLV⟩:∃ LV,LV=bvs l:=⟨_,rfl⟩
 have hL1:L≤900000000:=by omega
 rw [← hL,← hLV] at h1
 have howna:∀ ob:Obj,(w1.alloc ob).ownsRow B 5 1 (.slice ad L cap) L LV:=fun ob=>h1.alloc ob
 have hqc:∀ (j:Nat) (u:Value),([.int .u8 3]:List Value)[j]? = some u→(w1.alloc (.cells #[.int .u8 3] 5)).cell? ((⟨w1.heap.size,0,none⟩:Addr).add j)=some u:=qr_cells w1 #[.int .u8 3] 5 [.int .u8 3] rfl
 have h1c:∀ u ∈ ([.int .u8 3]:List Value),u.oneCell'=true:=by intro u hu;simp at hu;subst hu;rfl
 have hbs:B≤w1.heap.size:=Nat.le_trans hB k1.size
 have HST:Hid (∀ (ob:Obj) (v':Value) (w5:World),w5.ownsRow B 5 1 v' (L+1) (LV ++ [.int .u8 3])→(w1.alloc ob).grownBy w5 (Value.slice ad L cap).ownBlock→w5.ownsRow B 5 1 v' (l ++ [3]).length (bvs (l ++ [3]))∧Kx B w w5∧w5.heap[w.heap.size]? = some (.cells #[.int .i64 3,.int .i64 m,.string x,.int .i64 r] 41 (0,0))∧B≤w5.heap.size):=(fun ob v' w5 h5 g5=>by
  have kx:Kx B w1 w5:=(Kx.of_kb (kb_alloc 0 w1 ob)).trans (Kx.grown (howna ob) g5)
  refine ⟨?_,(Kx.of_kb k1).trans kx,(kx.nt _ _ _ b1 (by decide)).trans b1,Nat.le_trans hbs kx.size⟩
  have e1:(l ++ [(3:Int)]).length=L+1:=by rw [hL,List.length_append];rfl
  have e2:bvs (l ++ [(3:Int)])=LV ++ [.int .u8 3]:=by rw [hLV];unfold bvs;rw [List.map_append];rfl
  rw [e1,e2]
  exact h5:∀ (ob:Obj) (v':Value) (w5:World),_)
 have HW1:Hid (w1 = _):=hw1
 have HLL:Hid (l.length≤900000000):=hl
 rw [← hL]
 clear h hB hl k1 b1 h1 hw1 hi0 hL hLV
 go_enter Try.func74,Try.ntmps74
 go_upto_region 1 with fail
 rw [← (show w1 = _ from HW1)]
 clear HW1
 go_upto_region 2 with (at_builtin;refine wpList_append_own _ rfl (.tmp 5) (.tmp 9) 22 rfl B 5 i0 (.int .u8 0) 1 1 Try.underlying22 HI0 hz0 hz1 hz2 rfl (by decide) _ _ _ rfl (howna _) ⟨w1.heap.size,0,none⟩ 1 1 [.int .u8 3] rfl rfl hqc h1c (by unfold maxLen;omega) (by omega) (by simp;omega) ?_;intro v' w5 hown1 hgrow1 _;obtain ⟨p1,p2,p3,p4⟩:=(show ∀ (ob:Obj) (v':Value) (w5:World),_ from HST) _ _ _ hown1 hgrow1;clear HST hown1 hgrow1 howna hqc h1c)
 clear u0 hbs
 have u0:w5.cell? ⟨w.heap.size,0,none⟩=some (.int .i64 3):=cell_of p3 rfl
 have u2:w5.cell? ⟨w.heap.size,2,none⟩=some (.string x):=cell_of p3 rfl
 have hxI:(x.size:Int)≤50000000:=by omega
 have HN:=sp_num x.size w5 p1 p4 (by rw [List.length_append];have:=(show l.length≤900000000 from HLL);show l.length+1≤_;omega) (by omega)
 rw [List.append_assoc] at HN
 have HP2:Hid (Kx B w w5∧w5.heap[w.heap.size]? = some (.cells #[.int .i64 3,.int .i64 m,.string x,.int .i64 r] 41 (0,0))∧B≤w5.heap.size):=(⟨p2,p3,p4⟩:_∧_)
 clear p1 p2 p3 p4
 go_wp2_with fail
 refine HN.mono ?_
 rintro e w6 ⟨v6,rfl,r6,k6⟩
 clear HN u0 u2
 obtain ⟨p2,p3,p4⟩:=(show Kx B w w5∧w5.heap[w.heap.size]? = some (.cells #[.int .i64 3,.int .i64 m,.string x,.int .i64 r] 41 (0,0))∧B≤w5.heap.size from HP2)
 have b6:=(k6.nt _ _ _ p3 (by decide)).trans p3
 have u2:w6.cell? ⟨w.heap.size,2,none⟩=some (.string x):=cell_of b6 rfl
 have hbs:B≤w6.heap.size:=Nat.le_trans p4 k6.size
 obtain ⟨M,hM⟩:∃ M,M=(l ++ ([3] ++ numb x.size)).length:=⟨_,rfl⟩
 obtain ⟨MV,hMV⟩:∃ MV,MV=bvs (l ++ ([3] ++ numb x.size)):=⟨_,rfl⟩
 have hM1:M≤900000011:=by
  have:=numb_ten (n:=x.size) (by omega)
  have:=(show l.length≤900000000 from HLL)
  rw [hM,List.length_append,List.length_append]
  show l.length+(1+(numb x.size).length)≤_
  omega
 rw [← hM,← hMV] at r6
 have HST:Hid (∀ (v':Value) (w7:World),w7.ownsRow B 5 1 v' (M+x.size) (MV ++ Lib.strCells x)→w6.grownBy w7 v6.ownBlock→w7.ownsRow B 5 1 v' (l ++ ([3] ++ numb x.size ++ bts x)).length (bvs (l ++ ([3] ++ numb x.size ++ bts x)))∧Kx B w w7):=(fun v' w7 h7 g7=>by
  refine ⟨?_,(p2.trans k6).trans (Kx.grown r6 g7)⟩
  have e1:(l ++ ([3] ++ numb x.size ++ bts x)).length=M+x.size:=by rw [hM,← List.append_assoc,List.length_append,bts_len]
  have e2:bvs (l ++ ([3] ++ numb x.size ++ bts x))=MV ++ Lib.strCells x:=by rw [hMV,← List.append_assoc,← bts_cells];unfold bvs;rw [List.map_append]
  rw [e1,e2]
  exact h7:∀ (v':Value) (w7:World),_)
 obtain ⟨ad6,cap6,rfl⟩:=own_shape r6
 clear p2 p3 p4 k6 b6 hM hMV HP2 HLL
 go_wp2_with (at_builtin;refine Lib.wpList_append_own_string _ rfl (.tmp 35) (.tmp 37) 22 9 rfl B 5 i0 Try.underlying22 Try.underlying9 HI0 hz0 hz1 hz2 _ _ _ rfl r6 x rfl (by unfold maxLen;omega) (by omega) hbs ?_;intro v' w7 hown1 hgrow1 _;have HP:Hid _:=(show ∀ (v':Value) (w7:World),_ from HST) _ _ hown1 hgrow1;clear HST hown1 hgrow1 r6 u2)
 go_ret
 exact ⟨_,rfl,HP⟩
def pvl (v:Gv):List Int:=if v.k=1 then [1] ++ numb (sgn v.m) else if v.k=2 then [2] ++ eig (v.m % 18446744073709551616).toNat 8 else if v.k=3 then [3] ++ numb v.x.size ++ bts v.x else if v.k=4 then [4] ++ numb v.r.toNat else [0]
structure Pok (v:Gv):Prop where
 k:v.k=0∨v.k=1∨v.k=2∨v.k=3∨v.k=4
 m0 : -9223372036854775808≤v.m
 m1:v.m≤9223372036854775807
 x:v.x.size≤50000000
 r:v.k=4→0≤v.r∧v.r≤1000000000
theorem sp_pval {B : Nat} {vo : Value} {l : List Int} {v : Gv} (w : World) (h : w.ownsRow B 5 1 vo l.length (bvs l)) (hB : B ≤ w.heap.size) (hl : l.length ≤ 900000000) (hv : Pok v) :
  Calls Try.prog 74 #[vo,gvv v] w fun e w'=>∃ v',e = .returned v'∧w'.ownsRow B 5 1 v' (l ++ pvl v).length (bvs (l ++ pvl v))∧Kx B w w':=by
 obtain ⟨k,m,x,r⟩:=v
 obtain ⟨hk,m0,m1,hx,hr⟩:=hv
 dsimp only at hk m0 m1 hx hr
 unfold gvv pvl
 rcases hk with rfl | rfl | rfl | rfl | rfl
 ·exact sp_pval_0 w h hB hl
 ·exact sp_pval_1 w h hB hl m0 m1
 ·exact sp_pval_2 w h hB hl m0 m1
 ·exact sp_pval_3 w h hB hl hx
 ·exact sp_pval_4 w h hB hl (hr rfl).1 (hr rfl).2
theorem pvl_len {v:Gv} (hv:Pok v):(pvl v).length≤11+v.x.size:=by
 obtain ⟨k,m,x,r⟩:=v
 obtain ⟨hk,m0,m1,hx,hr⟩:=hv
 dsimp only at hk m0 m1 hx hr ⊢
 unfold pvl
 rcases hk with rfl | rfl | rfl | rfl | rfl
 ·show 1≤_;omega
 ·have:=numb_ten (sgn_lt m0 m1)
  show (numb (sgn m)).length+1≤_
  omega
 ·show (_ :: eig _ 8).length≤_
  rw [List.length_cons,eig_len];omega
 ·have:=numb_ten (n:=x.size) (by omega)
  show ([3] ++ numb x.size ++ bts x).length≤_
  rw [List.length_append,List.length_append,bts_len]
  show 1+_+_≤_
  omega
 ·have:=numb_ten (n:=r.toNat) (by have:=hr rfl;omega)
  show (numb r.toNat).length+1≤_
  omega
structure Kz (b:Nat) (W w':World):Prop where
 os:w'.os=W.os
 output:w'.output=W.output
 size:w'.heap.size=W.heap.size
 block:∀ k,k ≠ b→w'.heap[k]? = W.heap[k]?
theorem Kz.set {b:Nat} {W w':World} (h:Kz b W w') (j:Nat) (v:Value):Kz b W (w'.setCell ⟨b,j,none⟩ v) :=
 ⟨h.os,h.output,by simp [World.setCell,h.size],fun k hk=>(Below.heap_setCell _ _ _ _ hk).trans (h.block k hk)⟩
theorem Kz.refl (b:Nat) (W:World):Kz b W W:=⟨rfl,rfl,rfl,fun _ _=>rfl⟩
theorem ps_lost {W : World} {b : Nat} {im : Value} (lf n : Int) (h : W.heap[b]? = some (.cells #[im, .int .i64 lf, .bool true] 99 (0, 0))) :
  Calls Try.prog 78 #[.pointer (some ⟨b,0,none⟩),.int .i64 n] W fun e w'=>e = .returned (.bool false)∧w'.heap[b]? = some (.cells #[im,.int .i64 lf,.bool true] 99 (0,0))∧Kz b W w':=by
 have c1:W.cell? ⟨b,1,none⟩=some (.int .i64 lf):=cell_of h rfl
 have c2:W.cell? ⟨b,2,none⟩=some (.bool true):=cell_of h rfl
 have f1:W.frozen? ⟨b,1,none⟩=false:=frozen_of h
 have f2:W.frozen? ⟨b,2,none⟩=false:=frozen_of h
 have HH:Hid (W.heap[b]? = some (.cells #[im,.int .i64 lf,.bool true] 99 (0,0))):=h
 clear h
 go_enter Try.func78,Try.ntmps78
 go_wp2_with fail
 go_ret
 exact ⟨rfl,by rw [set_known _ (show W.heap[b]? = _ from HH)];rfl,(Kz.refl _ _).set _ _⟩
theorem ps_fits {W : World} {b : Nat} {im : Value} (lf n : Int) (h : W.heap[b]? = some (.cells #[im, .int .i64 lf, .bool false] 99 (0, 0))) (h0 : 0 ≤ n) (h1 : n ≤ lf) (hr : lf ≤ 1000000) :
  Calls Try.prog 78 #[.pointer (some ⟨b,0,none⟩),.int .i64 n] W fun e w'=>e = .returned (.bool true)∧w'.heap[b]? = some (.cells #[im,.int .i64 (lf - n),.bool false] 99 (0,0))∧Kz b W w':=by
 have c1:W.cell? ⟨b,1,none⟩=some (.int .i64 lf):=cell_of h rfl
 have c2:W.cell? ⟨b,2,none⟩=some (.bool false):=cell_of h rfl
 have f1:W.frozen? ⟨b,1,none⟩=false:=frozen_of h
 have f2:W.frozen? ⟨b,2,none⟩=false:=frozen_of h
 have HH:Hid (W.heap[b]? = some (.cells #[im,.int .i64 lf,.bool false] 99 (0,0))):=h
 clear h
 have g0:¬ n < 0:=by omega
 have g1:¬ lf < n:=by omega
 have hs:wrap64 (lf - n)=lf - n:=by unfold wrap64;omega
 clear h0 h1 hr
 go_enter Try.func78,Try.ntmps78
 go_wp2_with fail
 go_ret
 exact ⟨rfl,by rw [set_known _ (set_known _ (show W.heap[b]? = _ from HH))];rfl,((Kz.refl _ _).set _ _).set _ _⟩
theorem ps_long {W : World} {b : Nat} {im : Value} (lf n : Int) (h : W.heap[b]? = some (.cells #[im, .int .i64 lf, .bool false] 99 (0, 0))) (h0 : 0 ≤ n) (h1 : lf < n) :
  Calls Try.prog 78 #[.pointer (some ⟨b,0,none⟩),.int .i64 n] W fun e w'=>e = .returned (.bool false)∧w'.heap[b]? = some (.cells #[im,.int .i64 lf,.bool true] 99 (0,0))∧Kz b W w':=by
 have c1:W.cell? ⟨b,1,none⟩=some (.int .i64 lf):=cell_of h rfl
 have c2:W.cell? ⟨b,2,none⟩=some (.bool false):=cell_of h rfl
 have f1:W.frozen? ⟨b,1,none⟩=false:=frozen_of h
 have f2:W.frozen? ⟨b,2,none⟩=false:=frozen_of h
 have HH:Hid (W.heap[b]? = some (.cells #[im,.int .i64 lf,.bool false] 99 (0,0))):=h
 clear h
 have g0:¬ n < 0:=by omega
 clear h0
 go_enter Try.func78,Try.ntmps78
 go_wp2_with fail
 go_ret
 exact ⟨rfl,by rw [set_known _ (show W.heap[b]? = _ from HH)];rfl,(Kz.refl _ _).set _ _⟩
theorem ad_b' (A:Addr) (n:Nat):(A.add n).block=A.block:=by unfold Addr.add;split <;> rfl
def Bok (l:List Int):Prop:=∀ x ∈ l,0≤x∧x≤255
theorem Bok.app {a b:List Int} (h:Bok a) (k:Bok b):Bok (a ++ b):=fun x hx=>by
 rcases List.mem_append.1 hx with q | q
 ·exact h x q
 ·exact k x q
structure Kw (B wb:Nat) (w w':World):Prop where
 os:w'.os=w.os
 output:w'.output=w.output
 size:w.heap.size≤w'.heap.size
 lo:∀ k,k < B→k < w.heap.size→k ≠ wb→w'.heap[k]? = w.heap[k]?
 nt:∀ (k:Nat) (c:Array Value) (t:TypeId),w.heap[k]? = some (.cells c t (0,0))→t ≠ 5→k ≠ wb→w'.heap[k]? = w.heap[k]?
theorem Kw.refl (B wb:Nat) (w:World):Kw B wb w w:=⟨rfl,rfl,Nat.le_refl _,fun _ _ _ _=>rfl,fun _ _ _ _ _ _=>rfl⟩
theorem Kw.trans {B wb:Nat} {a b c:World} (h:Kw B wb a b) (k:Kw B wb b c):Kw B wb a c :=
 ⟨k.os.trans h.os,k.output.trans h.output,Nat.le_trans h.size k.size,fun i h1 h2 h3=>(k.lo i h1 (Nat.lt_of_lt_of_le h2 h.size) h3).trans (h.lo i h1 h2 h3),fun i q t h1 h2 h3=>(k.nt i q t ((h.nt i q t h1 h2 h3).trans h1) h2 h3).trans (h.nt i q t h1 h2 h3)⟩
theorem Kw.of_kb {B wb:Nat} {w w':World} (k:Kb 0 w w'):Kw B wb w w':=⟨k.os,k.output,k.size,fun i _ h _=>k.block i (Nat.zero_le _) h,fun i _ _ h _ _=>k.block i (Nat.zero_le _) (Array.getElem?_eq_some_iff.1 h).1⟩
theorem Kw.of_kz {B wb:Nat} {w w':World} (k:Kz wb w w'):Kw B wb w w':=⟨k.os,k.output,by rw [k.size];exact Nat.le_refl _,fun i _ _ h=>k.block i h,fun i _ _ _ _ h=>k.block i h⟩
theorem Kw.grown {B wb n:Nat} {w w':World} {v:Value} {l:List Value} (h:w.ownsRow B 5 1 v n l) (g:w.grownBy w' v.ownBlock):Kw B wb w w' :=
 ⟨g.os,g.output,g.size,fun k h1 h2 _=>g.block k h2 (fun e=>by have:=(h.lt k e.symm).1;omega),fun k c t h1 h2 _=>g.block k (Array.getElem?_eq_some_iff.1 h1).1 (fun e=>own_ty h h1 (fun q=>h2 q.symm) e.symm rfl)⟩
theorem Kw.cells {B wb:Nat} {w w':World} (k:Kw B wb w w') {g:Nat} {c:Array Value} {t:TypeId} (h:w.heap[g]? = some (.cells c t (0,0))) (ht:t ≠ 5) (hg:g ≠ wb):w'.heap[g]? = some (.cells c t (0,0)):=(k.nt g c t h ht hg).trans h
theorem Kw.kb {B wb:Nat} {w0 w w':World} (k:Kw B wb w w') (h:Kb 0 w0 w) (h1:w0.heap.size≤wb) (h2:w0.heap.size≤B):Kb 0 w0 w' :=
 ⟨k.os.trans h.os,k.output.trans h.output,Nat.le_trans h.size k.size,fun g _ hg=>(k.lo g (by omega) (Nat.lt_of_lt_of_le hg h.size) (by omega)).trans (h.block g (Nat.zero_le _) hg)⟩
def WS (B wb:Nat) (l:List Int) (W:World):Prop:=wb < B∧B≤W.heap.size∧Bok l∧∃ im lf lo l1,W.heap[wb]? = some (.cells #[im,.int .i64 lf,.bool lo] 99 (0,0))∧W.ownsRow B 5 1 im l1.length (bvs l1)∧l1.length≤8192∧Bok l1∧((lo=false∧l1=l∧lf=8192 - (l.length:Int))∨(lo=true∧8192 < l.length))
def WP (B wb:Nat) (W:World) (l:List Int) (e:Ending) (w':World):Prop:=e = .returned (.tuple #[])∧WS B wb l w'∧Kw B wb W w'
theorem WS.call {B wb:Nat} {W W':World} {l:List Int} (h:WS B wb l W) (k:Kb 0 W W'):WS B wb l W':=by
 obtain ⟨h0,hB,hb,im,lf,lo,l1,h2,h3,h4⟩:=h
 exact ⟨h0,Nat.le_trans hB k.size,hb,im,lf,lo,l1,(k.block _ (Nat.zero_le _) (by omega)).trans h2,own_keep h3 (fun g e=>k.block g (Nat.zero_le _) (h3.lt g e).2),h4⟩
theorem bvs_app (a b:List Int):bvs (a ++ b)=bvs a ++ bvs b:=by unfold bvs;rw [List.map_append]
theorem bvs_len (a:List Int):(bvs a).length=a.length:=by unfold bvs;rw [List.length_map]
theorem im_put {B wb : Nat} {W : World} {l : List Int} {ad : Addr} {c : Nat} (xs : List Int) (hw : WS B wb l W) (had : ad.block ≠ wb) (hx : ∀ j u, (bvs xs)[j]? = some u → W.cell? (ad.add j) = some u) (hl : xs.length ≤ 1048576) (hbx : Bok xs) :
  Calls Try.prog 60 #[.pointer (some ⟨wb,0,none⟩),.slice (some ad) xs.length c] W (WP B wb W (l ++ xs)):=by
 obtain ⟨h0,hB,hb,im,lf,lo,l1,h2,d,a,hb1,h3⟩:=hw
 obtain ⟨m,hm⟩:∃ m,m=xs.length:=⟨_,rfl⟩
 rw [← hm]
 have hba:=hb.app hbx
 rcases h3 with ⟨rfl,rfl,rfl⟩ | ⟨rfl,hlong⟩
 ·by_cases hf:(m:Int)≤8192 - (l1.length:Int)
  ·have HC:=ps_fits (8192 - (l1.length:Int)) (m:Int) h2 (by omega) hf (by omega)
   obtain ⟨i0,hi0,hz0,hz1,hz2⟩:=info_parts infoB
   have HI0:Hid (Try.prog.info? 5=some i0):=hi0
   have HZ:Hid (∀ w1:World,w1.heap[wb]? = some (.cells #[im,.int .i64 (8192 - (l1.length:Int) - (m:Int)),.bool false] 99 (0,0))→Kz wb W w1→w1.cell? ⟨wb,0,none⟩=some im∧w1.ownsRow B 5 1 im l1.length (bvs l1)∧(∀ j u,(bvs xs)[j]? = some u→w1.cell? (ad.add j)=some u)∧B≤w1.heap.size∧∀ v2 w2,w2.ownsRow B 5 1 v2 (l1.length+m) (bvs l1 ++ bvs xs)→w1.grownBy w2 im.ownBlock→(w2.cell? ⟨wb,0,none⟩=some im∧w2.frozen? ⟨wb,0,none⟩=false)∧WS B wb (l1 ++ xs) (w2.setCell ⟨wb,0,none⟩ v2)∧Kw B wb W (w2.setCell ⟨wb,0,none⟩ v2)):=by
    show ∀ w1:World,_
    intro w1 b1 k1
    have d1:w1.ownsRow B 5 1 im l1.length (bvs l1):=own_keep d (fun g e=>k1.block g (by have:=(d.lt g e).1;omega))
    have hlt:=(Array.getElem?_eq_some_iff.1 b1).1
    have hz1':=k1.size
    refine ⟨cell_of b1 rfl,d1,fun j u hu=>?_,by omega,fun v2 w2 ho hg=>?_⟩
    ·rw [World.cell?_of_block (w:=W) (by rw [ad_b'];exact k1.block _ had)]
     exact hx j u hu
    ·have hne:some wb ≠ im.ownBlock:=fun e=>by have:=(d1.lt _ e.symm).1;omega
     have b2:=(hg.block _ hlt hne).trans b1
     have b3:=set_known (j:=0) v2 b2
     have hs2:=hg.size
     have hsz:(w2.setCell ⟨wb,0,none⟩ v2).heap.size=w2.heap.size:=World.size_setCell _ _ _
     refine ⟨⟨cell_of b2 rfl,frozen_of b2⟩,⟨h0,by omega,hba,v2,_,_,l1 ++ xs,b3,?_,by rw [List.length_append];omega,hba,.inl ⟨rfl,rfl,by rw [List.length_append];omega⟩⟩,?_⟩
     ·rw [List.length_append,bvs_app,← hm]
      exact own_keep ho (fun g e=>Below.heap_setCell _ _ _ _ (show g ≠ wb by have:=(ho.lt g e).1;omega))
     ·exact ((Kw.of_kz k1).trans (Kw.grown d1 hg)).trans (Kw.of_kz ((Kz.refl wb w2).set 0 v2))
   have hlm:l1.length+m≤8192:=by omega
   have hbl:(bvs xs).length=m*1:=by rw [bvs_len,hm];omega
   have hone:∀ u ∈ bvs xs,u.oneCell'=true:=by intro u hu;obtain ⟨x,_,rfl⟩:=List.mem_map.1 hu;rfl
   clear hi0 h0 h2 d hx had hl hm hf a hb hba hb1 hbx hB
   go_enter Try.func60,Try.ntmps60
   go_wp2_with fail
   refine HC.mono ?_
   rintro e w1 ⟨rfl,b1,k1⟩
   obtain ⟨c0,d1,hx1,hs1,hA⟩:=(show ∀ w1:World,_ from HZ) w1 b1 k1
   have HA:Hid (∀ v2 w2,w2.ownsRow B 5 1 v2 (l1.length+m) (bvs l1 ++ bvs xs)→w1.grownBy w2 im.ownBlock→_):=hA
   clear HC HZ b1 k1 hA
   go_wp2_with (at_builtin;refine wpList_append_own _ rfl (.tmp 15) (.tmp 16) 22 rfl B 5 i0 (.int .u8 0) 1 1 Try.underlying22 HI0 hz0 hz1 hz2 rfl (by decide) _ _ _ rfl d1 ad m c (bvs xs) rfl hbl hx1 hone (by unfold maxLen;omega) (by omega) hs1 ?_;intro v2 w2 hown1 hgrow1 _;obtain ⟨⟨e2,f2⟩,y1,y2⟩:=(show ∀ v2 w2,_→_→_ from HA) v2 w2 hown1 hgrow1;obtain ⟨p2,c2,hv2⟩:=own_shape hown1;subst hv2)
   have HN:Hid _:=(⟨y1,y2⟩:_∧_)
   clear y1 y2 HA hown1 hgrow1 d1 hx1 hs1
   go_wp2_with fail
   exact ⟨rfl,.tuple #[],by simp [results,Try.results60],rfl,(show _∧_ from HN).1,(show _∧_ from HN).2⟩
  ·have HC:=ps_long (8192 - (l1.length:Int)) (m:Int) h2 (by omega) (by omega)
   have HZ:Hid (∀ w1:World,w1.heap[wb]? = some (.cells #[im,.int .i64 (8192 - (l1.length:Int)),.bool true] 99 (0,0))→Kz wb W w1→WS B wb (l1 ++ xs) w1∧Kw B wb W w1):=(fun w1 b1 k1=>⟨⟨h0,by rw [k1.size];exact hB,hba,im,_,_,l1,b1,own_keep d (fun g e=>k1.block g (by have:=(d.lt g e).1;omega)),a,hb1,.inr ⟨rfl,by rw [List.length_append];omega⟩⟩,Kw.of_kz k1⟩:∀ w1:World,_)
   clear h0 h2 d hx had hl hm hf a hb hba hb1 hbx hB
   go_enter Try.func60,Try.ntmps60
   go_wp2_with fail
   refine HC.mono ?_
   rintro e w1 ⟨rfl,b1,k1⟩
   have HN:Hid _:=(show ∀ w1:World,_ from HZ) w1 b1 k1
   clear HC HZ b1 k1
   go_wp2_with fail
   exact ⟨rfl,.tuple #[],by simp [results,Try.results60],rfl,(show _∧_ from HN).1,(show _∧_ from HN).2⟩
 ·have HC:=ps_lost lf (m:Int) h2
  have HZ:Hid (∀ w1:World,w1.heap[wb]? = some (.cells #[im,.int .i64 lf,.bool true] 99 (0,0))→Kz wb W w1→WS B wb (l ++ xs) w1∧Kw B wb W w1):=(fun w1 b1 k1=>⟨⟨h0,by rw [k1.size];exact hB,hba,im,_,_,l1,b1,own_keep d (fun g e=>k1.block g (by have:=(d.lt g e).1;omega)),a,hb1,.inr ⟨rfl,by rw [List.length_append];omega⟩⟩,Kw.of_kz k1⟩:∀ w1:World,_)
  clear h0 h2 hx had hl hm a d hb hba hb1 hbx hB
  go_enter Try.func60,Try.ntmps60
  go_wp2_with fail
  refine HC.mono ?_
  rintro e w1 ⟨rfl,b1,k1⟩
  have HN:Hid _:=(show ∀ w1:World,_ from HZ) w1 b1 k1
  clear HC HZ b1 k1
  go_wp2_with fail
  exact ⟨rfl,.tuple #[],by simp [results,Try.results60],rfl,(show _∧_ from HN).1,(show _∧_ from HN).2⟩
end Go.Proofs.Ytamcnmnaadpfoaa.Fo
