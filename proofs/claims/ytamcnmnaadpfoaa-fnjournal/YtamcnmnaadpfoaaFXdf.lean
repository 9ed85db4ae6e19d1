import Derived.Test.YtamcnmnaadpfoaaFXdp
import Derived.Test.YtamcnmnaadpfoaaFUan
import Derived.Test.YtamcnmnaadpfoaaFGdc
set_option maxHeartbeats 16000000
namespace Go.Proofs.Ytamcnmnaadpfoaa.Fo
open Go.ChangeShapes Go.WideShapes Go.ChangeAt Go.RowKit
set_option linter.unusedVariables false
set_option maxRecDepth 100000
theorem dr_l58 (w:World):Calls Try.prog 112 #[.agg #[.int .i64 0,.int .i64 0,.int .i64 0,.string ⟨#[]⟩]] w fun e w'=>e = .returned (.bool true)∧Kb 0 w w':=by
 go_enter Try.func112,Try.ntmps112
 go_wp2_with fail
 go_ret
 exact ⟨rfl,kb_alloc _ _ _⟩
theorem dr_ev_1  (w:World)  : Calls Try.prog 106 #[.agg #[.int .i64 1,.int .i64 0,.int .i64 0,.string ⟨#[]⟩,.string ⟨#[]⟩,.int .i64 0,.int .i64 0,.int .i64 0,.string ⟨#[]⟩,.slice none 0 0]] w fun e w'=>e = .returned (.bool true)∧Kb 0 w w':=by
 obtain ⟨w0,hw0⟩:∃ w0,w0=w.alloc (.cells #[.int .i64 1,.int .i64 0,.int .i64 0,.string ⟨#[]⟩,.string ⟨#[]⟩,.int .i64 0,.int .i64 0,.int .i64 0,.string ⟨#[]⟩,.slice none 0 0] 121):=⟨_,rfl⟩
 have bw0:w0.heap[w.heap.size]? = some (.cells #[.int .i64 1,.int .i64 0,.int .i64 0,.string ⟨#[]⟩,.string ⟨#[]⟩,.int .i64 0,.int .i64 0,.int .i64 0,.string ⟨#[]⟩,.slice none 0 0] 121 (0,0)):=by rw [hw0];exact alloc_new _ _ _
 have kw0:Kb 0 w w0:=by rw [hw0];exact kb_alloc _ _ _
 have c0:w0.cell? ⟨w.heap.size,0,none⟩=some (.int .i64 1):=cell_of bw0 rfl
 have c1:w0.cell? ⟨w.heap.size,1,none⟩=some (.int .i64 0):=cell_of bw0 rfl
 have c2:w0.cell? ⟨w.heap.size,2,none⟩=some (.int .i64 0):=cell_of bw0 rfl
 have c3:w0.cell? ⟨w.heap.size,3,none⟩=some (.string ⟨#[]⟩):=cell_of bw0 rfl
 have c4:w0.cell? ⟨w.heap.size,4,none⟩=some (.string ⟨#[]⟩):=cell_of bw0 rfl
 have c5:w0.cell? ⟨w.heap.size,5,none⟩=some (.int .i64 0):=cell_of bw0 rfl
 have c6:w0.cell? ⟨w.heap.size,6,none⟩=some (.int .i64 0):=cell_of bw0 rfl
 have c7:w0.cell? ⟨w.heap.size,7,none⟩=some (.int .i64 0):=cell_of bw0 rfl
 have c8:w0.cell? ⟨w.heap.size,8,none⟩=some (.string ⟨#[]⟩):=cell_of bw0 rfl
 have c9:w0.cell? ⟨w.heap.size,9,none⟩=some (.slice none 0 0):=cell_of bw0 rfl
 have HB:Hid (w0 = _):=hw0
 have HK:Hid (Kb 0 w w0):=kw0
 clear hw0 bw0 kw0
 have HZ:=dr_l58 w0
 go_enter Try.func106,Try.ntmps106
 go_upto_region 1 with fail
 rw [← (show w0 = _ from HB)]
 clear HB
 go_wp2_with fail
 refine HZ.mono ?_
 rintro e w1 ⟨rfl,k1⟩
 have HF:Hid (Kb 0 w w1):=(show Kb 0 w w0 from HK).trans k1
 have d0:=k1.cell c0
 have d1:=k1.cell c1
 have d2:=k1.cell c2
 have d3:=k1.cell c3
 have d4:=k1.cell c4
 have d5:=k1.cell c5
 have d6:=k1.cell c6
 have d7:=k1.cell c7
 have d8:=k1.cell c8
 have d9:=k1.cell c9
 clear HZ k1 HK c0 c1 c2 c3 c4 c5 c6 c7 c8 c9
 go_wp2_with fail
 go_ret
 exact ⟨rfl,HF⟩
theorem dr_ev_2 {y:ByteArray} (w:World) (hy:y.size≤4):Calls Try.prog 106 #[.agg #[.int .i64 2,.int .i64 0,.int .i64 0,.string ⟨#[]⟩,.string y,.int .i64 0,.int .i64 0,.int .i64 0,.string ⟨#[]⟩,.slice none 0 0]] w fun e w'=>e = .returned (.bool true)∧Kb 0 w w':=by
 obtain ⟨w0,hw0⟩:∃ w0,w0=w.alloc (.cells #[.int .i64 2,.int .i64 0,.int .i64 0,.string ⟨#[]⟩,.string y,.int .i64 0,.int .i64 0,.int .i64 0,.string ⟨#[]⟩,.slice none 0 0] 121):=⟨_,rfl⟩
 have bw0:w0.heap[w.heap.size]? = some (.cells #[.int .i64 2,.int .i64 0,.int .i64 0,.string ⟨#[]⟩,.string y,.int .i64 0,.int .i64 0,.int .i64 0,.string ⟨#[]⟩,.slice none 0 0] 121 (0,0)):=by rw [hw0];exact alloc_new _ _ _
 have kw0:Kb 0 w w0:=by rw [hw0];exact kb_alloc _ _ _
 have c0:w0.cell? ⟨w.heap.size,0,none⟩=some (.int .i64 2):=cell_of bw0 rfl
 have c1:w0.cell? ⟨w.heap.size,1,none⟩=some (.int .i64 0):=cell_of bw0 rfl
 have c2:w0.cell? ⟨w.heap.size,2,none⟩=some (.int .i64 0):=cell_of bw0 rfl
 have c3:w0.cell? ⟨w.heap.size,3,none⟩=some (.string ⟨#[]⟩):=cell_of bw0 rfl
 have c4:w0.cell? ⟨w.heap.size,4,none⟩=some (.string y):=cell_of bw0 rfl
 have c5:w0.cell? ⟨w.heap.size,5,none⟩=some (.int .i64 0):=cell_of bw0 rfl
 have c6:w0.cell? ⟨w.heap.size,6,none⟩=some (.int .i64 0):=cell_of bw0 rfl
 have c7:w0.cell? ⟨w.heap.size,7,none⟩=some (.int .i64 0):=cell_of bw0 rfl
 have c8:w0.cell? ⟨w.heap.size,8,none⟩=some (.string ⟨#[]⟩):=cell_of bw0 rfl
 have c9:w0.cell? ⟨w.heap.size,9,none⟩=some (.slice none 0 0):=cell_of bw0 rfl
 have HB:Hid (w0 = _):=hw0
 have HK:Hid (Kb 0 w w0):=kw0
 clear hw0 bw0 kw0
 have HZ:=dr_l58 w0
 have hyI:(y.size:Int)≤4:=by omega
 go_enter Try.func106,Try.ntmps106
 go_upto_region 1 with fail
 rw [← (show w0 = _ from HB)]
 clear HB
 go_wp2_with fail
 refine HZ.mono ?_
 rintro e w1 ⟨rfl,k1⟩
 have HF:Hid (Kb 0 w w1):=(show Kb 0 w w0 from HK).trans k1
 have d0:=k1.cell c0
 have d1:=k1.cell c1
 have d2:=k1.cell c2
 have d3:=k1.cell c3
 have d4:=k1.cell c4
 have d5:=k1.cell c5
 have d6:=k1.cell c6
 have d7:=k1.cell c7
 have d8:=k1.cell c8
 have d9:=k1.cell c9
 clear HZ k1 HK c0 c1 c2 c3 c4 c5 c6 c7 c8 c9
 go_wp2_with fail
 go_ret
 exact ⟨by show Ending.returned (.bool (decide ((y.size:Int)≤4000))) = _;rw [decide_eq_true (by omega)],HF⟩
theorem dr_ev_3 {n:Nat} (w:World) (hn:n≤4):Calls Try.prog 106 #[.agg #[.int .i64 3,.int .i64 (n:Int),.int .i64 0,.string ⟨#[]⟩,.string ⟨#[]⟩,.int .i64 0,.int .i64 0,.int .i64 0,.string ⟨#[]⟩,.slice none 0 0]] w fun e w'=>e = .returned (.bool true)∧Kb 0 w w':=by
 obtain ⟨w0,hw0⟩:∃ w0,w0=w.alloc (.cells #[.int .i64 3,.int .i64 (n:Int),.int .i64 0,.string ⟨#[]⟩,.string ⟨#[]⟩,.int .i64 0,.int .i64 0,.int .i64 0,.string ⟨#[]⟩,.slice none 0 0] 121):=⟨_,rfl⟩
 have bw0:w0.heap[w.heap.size]? = some (.cells #[.int .i64 3,.int .i64 (n:Int),.int .i64 0,.string ⟨#[]⟩,.string ⟨#[]⟩,.int .i64 0,.int .i64 0,.int .i64 0,.string ⟨#[]⟩,.slice none 0 0] 121 (0,0)):=by rw [hw0];exact alloc_new _ _ _
 have kw0:Kb 0 w w0:=by rw [hw0];exact kb_alloc _ _ _
 have c0:w0.cell? ⟨w.heap.size,0,none⟩=some (.int .i64 3):=cell_of bw0 rfl
 have c1:w0.cell? ⟨w.heap.size,1,none⟩=some (.int .i64 (n:Int)):=cell_of bw0 rfl
 have c2:w0.cell? ⟨w.heap.size,2,none⟩=some (.int .i64 0):=cell_of bw0 rfl
 have c3:w0.cell? ⟨w.heap.size,3,none⟩=some (.string ⟨#[]⟩):=cell_of bw0 rfl
 have c4:w0.cell? ⟨w.heap.size,4,none⟩=some (.string ⟨#[]⟩):=cell_of bw0 rfl
 have c5:w0.cell? ⟨w.heap.size,5,none⟩=some (.int .i64 0):=cell_of bw0 rfl
 have c6:w0.cell? ⟨w.heap.size,6,none⟩=some (.int .i64 0):=cell_of bw0 rfl
 have c7:w0.cell? ⟨w.heap.size,7,none⟩=some (.int .i64 0):=cell_of bw0 rfl
 have c8:w0.cell? ⟨w.heap.size,8,none⟩=some (.string ⟨#[]⟩):=cell_of bw0 rfl
 have c9:w0.cell? ⟨w.heap.size,9,none⟩=some (.slice none 0 0):=cell_of bw0 rfl
 have HB:Hid (w0 = _):=hw0
 have HK:Hid (Kb 0 w w0):=kw0
 clear hw0 bw0 kw0
 have HZ:=dr_l58 w0
 have hnI:(n:Int)≤4:=by omega
 go_enter Try.func106,Try.ntmps106
 go_upto_region 1 with fail
 rw [← (show w0 = _ from HB)]
 clear HB
 go_wp2_with fail
 refine HZ.mono ?_
 rintro e w1 ⟨rfl,k1⟩
 have HF:Hid (Kb 0 w w1):=(show Kb 0 w w0 from HK).trans k1
 have d0:=k1.cell c0
 have d1:=k1.cell c1
 have d2:=k1.cell c2
 have d3:=k1.cell c3
 have d4:=k1.cell c4
 have d5:=k1.cell c5
 have d6:=k1.cell c6
 have d7:=k1.cell c7
 have d8:=k1.cell c8
 have d9:=k1.cell c9
 clear HZ k1 HK c0 c1 c2 c3 c4 c5 c6 c7 c8 c9
 go_wp2_with fail
 go_ret
 exact ⟨rfl,HF⟩
theorem dr_ev_4 {x y:ByteArray} (w:World) (hx:x.size≤4) (hy:y.size≤4):Calls Try.prog 106 #[.agg #[.int .i64 4,.int .i64 0,.int .i64 0,.string x,.string y,.int .i64 0,.int .i64 0,.int .i64 0,.string ⟨#[]⟩,.slice none 0 0]] w fun e w'=>e = .returned (.bool true)∧Kb 0 w w':=by
 obtain ⟨w0,hw0⟩:∃ w0,w0=w.alloc (.cells #[.int .i64 4,.int .i64 0,.int .i64 0,.string x,.string y,.int .i64 0,.int .i64 0,.int .i64 0,.string ⟨#[]⟩,.slice none 0 0] 121):=⟨_,rfl⟩
 have bw0:w0.heap[w.heap.size]? = some (.cells #[.int .i64 4,.int .i64 0,.int .i64 0,.string x,.string y,.int .i64 0,.int .i64 0,.int .i64 0,.string ⟨#[]⟩,.slice none 0 0] 121 (0,0)):=by rw [hw0];exact alloc_new _ _ _
 have kw0:Kb 0 w w0:=by rw [hw0];exact kb_alloc _ _ _
 have c0:w0.cell? ⟨w.heap.size,0,none⟩=some (.int .i64 4):=cell_of bw0 rfl
 have c1:w0.cell? ⟨w.heap.size,1,none⟩=some (.int .i64 0):=cell_of bw0 rfl
 have c2:w0.cell? ⟨w.heap.size,2,none⟩=some (.int .i64 0):=cell_of bw0 rfl
 have c3:w0.cell? ⟨w.heap.size,3,none⟩=some (.string x):=cell_of bw0 rfl
 have c4:w0.cell? ⟨w.heap.size,4,none⟩=some (.string y):=cell_of bw0 rfl
 have c5:w0.cell? ⟨w.heap.size,5,none⟩=some (.int .i64 0):=cell_of bw0 rfl
 have c6:w0.cell? ⟨w.heap.size,6,none⟩=some (.int .i64 0):=cell_of bw0 rfl
 have c7:w0.cell? ⟨w.heap.size,7,none⟩=some (.int .i64 0):=cell_of bw0 rfl
 have c8:w0.cell? ⟨w.heap.size,8,none⟩=some (.string ⟨#[]⟩):=cell_of bw0 rfl
 have c9:w0.cell? ⟨w.heap.size,9,none⟩=some (.slice none 0 0):=cell_of bw0 rfl
 have HB:Hid (w0 = _):=hw0
 have HK:Hid (Kb 0 w w0):=kw0
 clear hw0 bw0 kw0
 have HZ:=dr_l58 w0
 have hyI:(y.size:Int)≤4:=by omega
 have hxI:(x.size:Int)≤4:=by omega
 go_enter Try.func106,Try.ntmps106
 go_upto_region 1 with fail
 rw [← (show w0 = _ from HB)]
 clear HB
 go_wp2_with fail
 refine HZ.mono ?_
 rintro e w1 ⟨rfl,k1⟩
 have HF:Hid (Kb 0 w w1):=(show Kb 0 w w0 from HK).trans k1
 have d0:=k1.cell c0
 have d1:=k1.cell c1
 have d2:=k1.cell c2
 have d3:=k1.cell c3
 have d4:=k1.cell c4
 have d5:=k1.cell c5
 have d6:=k1.cell c6
 have d7:=k1.cell c7
 have d8:=k1.cell c8
 have d9:=k1.cell c9
 clear HZ k1 HK c0 c1 c2 c3 c4 c5 c6 c7 c8 c9
 go_wp2_with fail
 go_ret
 exact ⟨by show Ending.returned (.bool (decide ((y.size:Int)≤4000))) = _;rw [decide_eq_true (by omega)],HF⟩
def RwT (B k z:Nat) (w:World) (v:Value):Prop:=∃ L:List ByteArray,L.length≤k∧(∀ s,s ∈ L→s.size≤z)∧w.ownsRow B 9 1 v L.length (L.map Value.string)
def LnW (B:Nat) (W:World) (e:Ending) (w':World):Prop:=∃ v,e = .returned v∧RwT B 4 5 w' v∧Kb 0 W w'
theorem dr_ln_1  (w:World)  : Calls Try.prog 107 #[.agg #[.int .i64 1,.int .i64 0,.int .i64 0,.string ⟨#[]⟩,.string ⟨#[]⟩,.int .i64 0,.int .i64 0,.int .i64 0,.string ⟨#[]⟩,.slice none 0 0]] w (LnW w.heap.size w):=by
 obtain ⟨w0,hw0⟩:∃ w0,w0=w.alloc (.cells #[.int .i64 1,.int .i64 0,.int .i64 0,.string ⟨#[]⟩,.string ⟨#[]⟩,.int .i64 0,.int .i64 0,.int .i64 0,.string ⟨#[]⟩,.slice none 0 0] 121):=⟨_,rfl⟩
 have bw0:w0.heap[w.heap.size]? = some (.cells #[.int .i64 1,.int .i64 0,.int .i64 0,.string ⟨#[]⟩,.string ⟨#[]⟩,.int .i64 0,.int .i64 0,.int .i64 0,.string ⟨#[]⟩,.slice none 0 0] 121 (0,0)):=by rw [hw0];exact alloc_new _ _ _
 have kw0:Kb 0 w w0:=by rw [hw0];exact kb_alloc _ _ _
 have hz0:w.heap.size≤w0.heap.size:=kw0.size
 have c0:w0.cell? ⟨w.heap.size,0,none⟩=some (.int .i64 1):=cell_of bw0 rfl
 have c1:w0.cell? ⟨w.heap.size,1,none⟩=some (.int .i64 0):=cell_of bw0 rfl
 have c3:w0.cell? ⟨w.heap.size,3,none⟩=some (.string ⟨#[]⟩):=cell_of bw0 rfl
 have c4:w0.cell? ⟨w.heap.size,4,none⟩=some (.string ⟨#[]⟩):=cell_of bw0 rfl
 have HB:Hid (w0 = _):=hw0
 have HK:Hid (Kb 0 w w0):=kw0
 clear hw0 bw0 kw0
 go_enter Try.func107,Try.ntmps107
 go_upto_region 1 with fail
 rw [← (show w0 = _ from HB)]
 clear HB
 go_wp2_with fail
 go_ret
 refine ⟨_,rfl,⟨[{ data:=#[98,101,103,105,110] }],by simp,by intro s hs;simp only [List.mem_cons,List.not_mem_nil,or_false] at hs;rcases hs with rfl <;> first | decide | omega,own_new _ _ _ _ _ _ hz0 (by omega) rfl rfl⟩,(show Kb 0 w w0 from HK).trans (kb_alloc _ _ _)⟩
theorem dr_ln_2 {y:ByteArray} (w:World) (hy:y.size≤4):Calls Try.prog 107 #[.agg #[.int .i64 2,.int .i64 0,.int .i64 0,.string ⟨#[]⟩,.string y,.int .i64 0,.int .i64 0,.int .i64 0,.string ⟨#[]⟩,.slice none 0 0]] w (LnW w.heap.size w):=by
 obtain ⟨w0,hw0⟩:∃ w0,w0=w.alloc (.cells #[.int .i64 2,.int .i64 0,.int .i64 0,.string ⟨#[]⟩,.string y,.int .i64 0,.int .i64 0,.int .i64 0,.string ⟨#[]⟩,.slice none 0 0] 121):=⟨_,rfl⟩
 have bw0:w0.heap[w.heap.size]? = some (.cells #[.int .i64 2,.int .i64 0,.int .i64 0,.string ⟨#[]⟩,.string y,.int .i64 0,.int .i64 0,.int .i64 0,.string ⟨#[]⟩,.slice none 0 0] 121 (0,0)):=by rw [hw0];exact alloc_new _ _ _
 have kw0:Kb 0 w w0:=by rw [hw0];exact kb_alloc _ _ _
 have hz0:w.heap.size≤w0.heap.size:=kw0.size
 have c0:w0.cell? ⟨w.heap.size,0,none⟩=some (.int .i64 2):=cell_of bw0 rfl
 have c1:w0.cell? ⟨w.heap.size,1,none⟩=some (.int .i64 0):=cell_of bw0 rfl
 have c3:w0.cell? ⟨w.heap.size,3,none⟩=some (.string ⟨#[]⟩):=cell_of bw0 rfl
 have c4:w0.cell? ⟨w.heap.size,4,none⟩=some (.string y):=cell_of bw0 rfl
 have HB:Hid (w0 = _):=hw0
 have HK:Hid (Kb 0 w w0):=kw0
 clear hw0 bw0 kw0
 go_enter Try.func107,Try.ntmps107
 go_upto_region 1 with fail
 rw [← (show w0 = _ from HB)]
 clear HB
 go_wp2_with fail
 go_ret
 refine ⟨_,rfl,⟨[{ data:=#[105,110,112,117,116] },y],by simp,by intro s hs;simp only [List.mem_cons,List.not_mem_nil,or_false] at hs;rcases hs with rfl | rfl <;> first | decide | omega,own_new _ _ _ _ _ _ hz0 (by omega) rfl rfl⟩,(show Kb 0 w w0 from HK).trans (kb_alloc _ _ _)⟩
theorem kb_app {w wr w8:World} {B t s n:Nat} {v:Value} {l:List Value} {ob:Obj} (hk:Kb 0 w wr) (ho:wr.ownsRow B t s v n l) (hB:w.heap.size≤B) (hg:(wr.alloc ob).grownBy w8 v.ownBlock):Kb 0 w w8 :=
 ⟨hg.os.trans hk.os,hg.output.trans hk.output,by have:=hg.size;rw [World.size_alloc] at this;have:=hk.size;omega,fun q h1 h2=>by
  have hq:=hk.size
  exact ((hg.block q (by rw [World.size_alloc];omega) (fun e=>by have:=(ho.lt q e.symm).1;omega)).trans ((kb_alloc 0 wr ob).block q (Nat.zero_le _) (by omega))).trans (hk.block q h1 h2)⟩
theorem infoS:∃ i1,Try.prog.info? 9=some i1∧i1.zero=some (.string ⟨#[]⟩)∧i1.size=1∧i1.bytes=16:=⟨Try.t9,by kernel_rfl,by kernel_rfl,by kernel_rfl,by kernel_rfl⟩
theorem rep_app (n:Nat) (t:ByteArray):(List.replicate n t).map Value.string ++ [.string t]=(List.replicate (n+1) t).map Value.string:=by rw [List.replicate_succ',List.map_append];rfl
theorem dr_ln_3 {N : Nat} (w : World) (hN : N ≤ 4) :
  Calls Try.prog 107 #[.agg #[.int .i64 3,.int .i64 (N:Int),.int .i64 0,.string ⟨#[]⟩,.string ⟨#[]⟩,.int .i64 0,.int .i64 0,.int .i64 0,.string ⟨#[]⟩,.slice none 0 0]] w (LnW w.heap.size w):=by
 obtain ⟨i1,hi1,hz0,hz1,hz2⟩:=infoS
 have HI1:Hid (Try.prog.info? 9=some i1):=hi1
 have hnI:(N:Int)≤4:=by omega
 obtain ⟨w0,hw0⟩:∃ w0,w0=w.alloc (.cells #[.int .i64 3,.int .i64 (N:Int),.int .i64 0,.string ⟨#[]⟩,.string ⟨#[]⟩,.int .i64 0,.int .i64 0,.int .i64 0,.string ⟨#[]⟩,.slice none 0 0] 121):=⟨_,rfl⟩
 have bw0:w0.heap[w.heap.size]? = some (.cells #[.int .i64 3,.int .i64 (N:Int),.int .i64 0,.string ⟨#[]⟩,.string ⟨#[]⟩,.int .i64 0,.int .i64 0,.int .i64 0,.string ⟨#[]⟩,.slice none 0 0] 121 (0,0)):=by rw [hw0];exact alloc_new _ _ _
 have c0:w0.cell? ⟨w.heap.size,0,none⟩=some (.int .i64 3):=cell_of bw0 rfl
 have HC1:Hid (w0.cell? ⟨w.heap.size,1,none⟩=some (.int .i64 (N:Int))):=cell_of bw0 rfl
 have HK0:Hid (Kb 0 w w0):=by rw [hw0];exact kb_alloc _ _ _
 have HW:Hid (w0 = _):=hw0
 have HNN:Hid (N≤4):=hN
 clear hi1 hw0 bw0 hN
 go_enter Try.func107,Try.ntmps107
 go_upto_region 1 with fail
 rw [← (show w0 = _ from HW)]
 clear HW
 go_wp2_with fail
 clear c0
 go_loopw [3,4] (fun s3 s4 wr=>∃ (i:Nat),s4 = .int .i64 (i:Int)∧i≤N∧Hid (wr.ownsRow w0.heap.size 9 1 s3 i ((List.replicate i { data:=#[116,105,99,107] }).map Value.string)∧Kb 0 w0 wr)) (fun _ s4 _=>N - (intOf s4).toNat)
 case atStart=>exact ⟨0,rfl,Nat.zero_le _,(⟨World.ownsRow_nil _ _ _ _,Kb.refl _ _⟩:_∧_)⟩
 case round =>
  obtain ⟨i,rfl,hil,HX⟩:=hrel
  obtain ⟨ho,hk⟩:=(show _∧_ from HX)
  obtain ⟨pv,cv,rfl⟩:=own_shape ho
  clear HX
  have c1:wr.cell? ⟨w.heap.size,1,none⟩=some (.int .i64 (N:Int)):=hk.cell (show w0.cell? _ = _ from HC1)
  by_cases hi:i < N
  case neg =>
   obtain rfl:i=N:=by omega
   have HE:Hid (LnW w.heap.size w (.returned (.slice pv i cv)) wr):=(⟨_,rfl,⟨List.replicate i { data:=#[116,105,99,107] },by rw [List.length_replicate];exact HNN,fun s hs=>by rw [(List.mem_replicate.1 hs).2];decide,(by rw [List.length_replicate];exact ownsRow_mono9 ho (show Kb 0 w w0 from HK0).size)⟩,(show Kb 0 w w0 from HK0).trans hk⟩:LnW w.heap.size w (.returned (.slice pv i cv)) wr)
   clear ho hk HI1 hz0 hz1 hz2
   go_wp2_with fail
   go_ret
   exact HE
  have hiI:(i:Int) < (N:Int):=by omega
  have HK:Hid (Kb 0 w0 wr):=hk
  have HOW:Hid (wr.ownsRow w0.heap.size 9 1 (.slice pv i cv) i ((List.replicate i { data:=#[116,105,99,107] }).map Value.string)):=ho
  have HZ:Hid (w0.heap.size≤wr.heap.size):=hk.size
  clear hk ho
  go_wp2_with (refine wpList_append_lies _ (by rfl) (.tmp 30) (.tmp 31) 23 (by rfl) w0.heap.size 9 i1 (.string ⟨#[]⟩) 1 16 Try.underlying23 HI1 hz0 hz1 hz2 rfl (by decide) (.slice pv i cv) i ((List.replicate i { data:=#[116,105,99,107] }).map Value.string) (by rfl) ((show wr.ownsRow w0.heap.size 9 1 (.slice pv i cv) i ((List.replicate i { data:=#[116,105,99,107] }).map Value.string) from HOW).alloc _) ⟨wr.heap.size,0,none⟩ 1 1 [.string { data:=#[116,105,99,107] }] (by rfl) rfl (qr_cells wr #[.string { data:=#[116,105,99,107] }] 9 [.string { data:=#[116,105,99,107] }] rfl) (by intro y hy;simp only [List.mem_cons,List.not_mem_nil,or_false] at hy;rcases hy with rfl;rfl) (by decide) (by unfold maxLen;omega) (by omega) (by rw [World.size_alloc];have:=(show w0.heap.size≤wr.heap.size from HZ);omega) (wr.heap.size+1) (World.size_alloc _ _) ?_;intro g cap w8 hown1 hgrow1 hat hlt;have HN:Hid (w8.ownsRow w0.heap.size 9 1 (.slice (some ⟨g,0,none⟩) (i+1) cap) (i+1) ((List.replicate (i+1) { data:=#[116,105,99,107] }).map Value.string)∧Kb 0 w0 w8):=(⟨by rw [← rep_app];exact hown1,kb_app (show Kb 0 w0 wr from HK) (show wr.ownsRow w0.heap.size 9 1 (.slice pv i cv) i ((List.replicate i { data:=#[116,105,99,107] }).map Value.string) from HOW) (Nat.le_refl _) hgrow1⟩:_∧_);clear hown1 hgrow1 hat hlt)
  go_roundw
  case rel=>exact ⟨i+1,by go_num,by omega,HN⟩
  case measure=>simp [intOf];omega
theorem dr_ln_4 {x y:ByteArray} (w:World) (hx:x.size≤4) (hy:y.size≤4):Calls Try.prog 107 #[.agg #[.int .i64 4,.int .i64 0,.int .i64 0,.string x,.string y,.int .i64 0,.int .i64 0,.int .i64 0,.string ⟨#[]⟩,.slice none 0 0]] w (LnW w.heap.size w):=by
 obtain ⟨w0,hw0⟩:∃ w0,w0=w.alloc (.cells #[.int .i64 4,.int .i64 0,.int .i64 0,.string x,.string y,.int .i64 0,.int .i64 0,.int .i64 0,.string ⟨#[]⟩,.slice none 0 0] 121):=⟨_,rfl⟩
 have bw0:w0.heap[w.heap.size]? = some (.cells #[.int .i64 4,.int .i64 0,.int .i64 0,.string x,.string y,.int .i64 0,.int .i64 0,.int .i64 0,.string ⟨#[]⟩,.slice none 0 0] 121 (0,0)):=by rw [hw0];exact alloc_new _ _ _
 have kw0:Kb 0 w w0:=by rw [hw0];exact kb_alloc _ _ _
 have hz0:w.heap.size≤w0.heap.size:=kw0.size
 have c0:w0.cell? ⟨w.heap.size,0,none⟩=some (.int .i64 4):=cell_of bw0 rfl
 have c1:w0.cell? ⟨w.heap.size,1,none⟩=some (.int .i64 0):=cell_of bw0 rfl
 have c3:w0.cell? ⟨w.heap.size,3,none⟩=some (.string x):=cell_of bw0 rfl
 have c4:w0.cell? ⟨w.heap.size,4,none⟩=some (.string y):=cell_of bw0 rfl
 have HB:Hid (w0 = _):=hw0
 have HK:Hid (Kb 0 w w0):=kw0
 clear hw0 bw0 kw0
 go_enter Try.func107,Try.ntmps107
 go_upto_region 1 with fail
 rw [← (show w0 = _ from HB)]
 clear HB
 go_wp2_with fail
 go_ret
 refine ⟨_,rfl,⟨[{ data:=#[115,97,121] },x,y],by simp,by intro s hs;simp only [List.mem_cons,List.not_mem_nil,or_false] at hs;rcases hs with rfl | rfl | rfl <;> first | decide | omega,own_new _ _ _ _ _ _ hz0 (by omega) rfl rfl⟩,(show Kb 0 w w0 from HK).trans (kb_alloc _ _ _)⟩
abbrev Ew:=Nat × Nat × ByteArray × ByteArray
def evc (e:Ew):List Value:=[.int .i64 (e.1:Int),.int .i64 (e.2.1:Int),.int .i64 0,.string e.2.2.1,.string e.2.2.2,.int .i64 0,.int .i64 0,.int .i64 0,.string ⟨#[]⟩,.slice none 0 0]
def EvI (e:Ew):Prop:=EvD e.1 e.2.1 e.2.2.1 e.2.2.2
theorem dr_ok {e:Ew} (w:World) (h:EvI e):Calls Try.prog 106 #[.agg #[.int .i64 (e.1:Int),.int .i64 (e.2.1:Int),.int .i64 0,.string e.2.2.1,.string e.2.2.2,.int .i64 0,.int .i64 0,.int .i64 0,.string ⟨#[]⟩,.slice none 0 0]] w fun r w'=>r = .returned (.bool true)∧Kb 0 w w':=by
 obtain ⟨op,n,x,y⟩:=e
 rcases h with ⟨h1,h2,h3,h4⟩ | ⟨h1,h2,h3,h4⟩ | ⟨h1,h2,h3,h4⟩ | ⟨h1,h2,h3,h4⟩ <;> dsimp only at h1 h2 h3 h4
 ·subst h1 h2 h3 h4;exact dr_ev_1 w
 ·subst h1 h2 h3;exact dr_ev_2 w h4
 ·subst h1 h3 h4;exact dr_ev_3 w h2
 ·subst h1 h2;exact dr_ev_4 w h3 h4
theorem dr_lns {e:Ew} (w:World) (h:EvI e):Calls Try.prog 107 #[.agg #[.int .i64 (e.1:Int),.int .i64 (e.2.1:Int),.int .i64 0,.string e.2.2.1,.string e.2.2.2,.int .i64 0,.int .i64 0,.int .i64 0,.string ⟨#[]⟩,.slice none 0 0]] w (LnW w.heap.size w):=by
 obtain ⟨op,n,x,y⟩:=e
 rcases h with ⟨h1,h2,h3,h4⟩ | ⟨h1,h2,h3,h4⟩ | ⟨h1,h2,h3,h4⟩ | ⟨h1,h2,h3,h4⟩ <;> dsimp only at h1 h2 h3 h4
 ·subst h1 h2 h3 h4;exact dr_ln_1 w
 ·subst h1 h2 h3;exact dr_ln_2 w h4
 ·subst h1 h3 h4;exact dr_ln_3 w h2
 ·subst h1 h2;exact dr_ln_4 w h3 h4
def CelW (W:World) (b:Addr) (e:Ew):Prop:=W.cell? b=some (.int .i64 (e.1:Int))∧W.cell? ⟨b.block,b.off+1,none⟩=some (.int .i64 (e.2.1:Int))∧W.cell? ⟨b.block,b.off+2,none⟩=some (.int .i64 0)∧W.cell? ⟨b.block,b.off+3,none⟩=some (.string e.2.2.1)∧W.cell? ⟨b.block,b.off+4,none⟩=some (.string e.2.2.2)∧W.cell? ⟨b.block,b.off+5,none⟩=some (.int .i64 0)∧W.cell? ⟨b.block,b.off+6,none⟩=some (.int .i64 0)∧W.cell? ⟨b.block,b.off+7,none⟩=some (.int .i64 0)∧W.cell? ⟨b.block,b.off+8,none⟩=some (.string ⟨#[]⟩)∧W.cell? ⟨b.block,b.off+9,none⟩=some (.slice none 0 0)
theorem CelW.keep {W W':World} {b:Addr} {e:Ew} (h:CelW W b e) (k:Kb 0 W W'):CelW W' b e:=by
 obtain ⟨h0,h1,h2,h3,h4,h5,h6,h7,h8,h9⟩:=h
 exact ⟨k.cell h0,k.cell h1,k.cell h2,k.cell h3,k.cell h4,k.cell h5,k.cell h6,k.cell h7,k.cell h8,k.cell h9⟩
def EwR (W:World) (v:Value) (L:List Ew):Prop:=∃ p c,v = .slice p L.length c∧(0 < L.length→∃ a:Addr,p=some a∧L.length≤c∧∀ i e,L[i]? = some e→CelW W (a.add (i*10)) e)
theorem evc_at (L:List Ew):∀ (i:Nat) (e:Ew),L[i]? = some e→∀ j,j < 10→(L.flatMap evc)[i*10+j]? = (evc e)[j]?:=by
 induction L with
 | nil=>intro i e h;simp at h
 | cons a L ih =>
  intro i e h j hj
  have hl:(evc a).length=10:=rfl
  rw [List.flatMap_cons]
  cases i with
  | zero =>
   simp at h
   subst h
   rw [List.getElem?_append_left (by omega)]
   congr 1
   omega
  | succ i =>
   rw [List.getElem?_append_right (by omega),hl,show (i+1)*10+j - 10=i*10+j by omega]
   exact ih i e (by simpa using h) j hj
theorem ewr_of {W:World} {B:Nat} {v:Value} {L:List Ew} (h:W.ownsRow B 121 10 v L.length (L.flatMap evc)):EwR W v L:=by
 by_cases h0 : 0 < L.length
 ·obtain ⟨g,cap,rfl,_,hc,hce⟩:=own_cells h h0
  refine ⟨_,_,rfl,fun _=>⟨_,rfl,hc,fun i e he=>?_⟩⟩
  have hi:i < L.length:=(List.getElem?_eq_some_iff.1 he).1
  have hx:∀ j,j < 10→W.cell? ⟨g,i*10+j,none⟩=(evc e)[j]?:=fun j hj=>(hce _ (by omega)).trans (evc_at L i e he j hj)
  rw [addr0]
  exact ⟨hx 0 (by omega),hx 1 (by omega),hx 2 (by omega),hx 3 (by omega),hx 4 (by omega),hx 5 (by omega),hx 6 (by omega),hx 7 (by omega),hx 8 (by omega),hx 9 (by omega)⟩
 ·obtain ⟨ad,cap,rfl⟩:=own_shape h
  exact ⟨_,_,rfl,fun q=>absurd q h0⟩
theorem app_nothing {W:World} {p b:Option Addr} {N cap c:Nat} (h:N≤cap):(Builtin.append_ #[23,23] 23 #[.slice b N cap,.slice p 0 c]).run Try.prog W = .ok (.slice b N cap) W:=by
 obtain ⟨i1,hi1,hz0,hz1,hz2⟩:=infoS
 have hl:∀ (x:Addr),(loadCells x 0).run Try.prog W = .ok #[] W:=fun x=>by simpa using run_loadCells_list (P:=Try.prog) W x [] (by simp)
 cases p <;> cases b <;> simp [Builtin.append_,run_underlying Try.underlying23,sizeOf,typeInfo,hi1,hz1,h,storeCells,hl,Builtin.lenOf,Builtin.firstCells]
theorem wpList_append_nil {P : Program} {w : World} {ops : Array Oper} {rest : List Oper} {o : Oper} {a : Act} {Q : Exit → Act → World → Prop} (hgd : o.guard = none) (s x : Operand) (t : TypeId) (ho : o.op = .call { callee := .builtin .append, args := #[s, x], argTypes := #[t, t] }) {b p : Option Addr} {N cap c : Nat} (hs : a.eval s = .slice b N cap) (hx : a.eval x = .slice p 0 c)
  (hrun:(Builtin.append_ #[t,t] o.type #[.slice b N cap,.slice p 0 c]).run P w = .ok (.slice b N cap) w) (h:wpList P ops Q rest (a.put o.dst (.slice b N cap)) w):wpList P ops Q (o :: rest) a w :=
 wpList_plain hgd fun _ hK=>by
  unfold Oper.wp execOp
  simp only [ho,resolve,invoke,builtin,Sem.run_bind,Sem.run_pure,Result.andThen_ok,List.map_toArray,List.map_cons,List.map_nil,hs,hx,hrun]
  exact hK _ _ h
theorem own_cap {W:World} {B t s n:Nat} {v:Value} {l:List Value} (h:W.ownsRow B t s v n l):∃ p c,v = .slice p n c∧n≤c:=by
 rcases h.2 with ⟨e,e2⟩ | ⟨g,cap,cur,e,_,_,e4,_⟩
 ·exact ⟨none,0,by rw [e,e2],by omega⟩
 ·exact ⟨_,_,e,e4⟩
theorem kb_app8 {w wr w8:World} {B t s n:Nat} {v:Value} {l:List Value} (hk:Kb 0 w wr) (ho:wr.ownsRow B t s v n l) (hB:w.heap.size≤B) (hg:wr.grownBy w8 v.ownBlock):Kb 0 w w8 :=
 ⟨hg.os.trans hk.os,hg.output.trans hk.output,by have:=hg.size;have:=hk.size;omega,fun q h1 h2=>by
  have hq:=hk.size
  exact (hg.block q (by omega) (fun e=>by have:=(ho.lt q e.symm).1;omega)).trans (hk.block q h1 h2)⟩
theorem dr_sess {va : Value} {L : List Ew} (w : World) (ha : EwR w va L) (hn : L.length ≤ 6) (hF : ∀ e, e ∈ L → EvI e) :
  Calls Try.prog 86 #[va] w fun e w'=>∃ v,e = .returned v∧RwT w.heap.size (4*L.length) 5 w' v∧Kb 0 w w':=by
 obtain ⟨pa,ca,rfl,ha2⟩:=ha
 obtain ⟨i1,hi1,hz0,hz1,hz2⟩:=infoS
 have HI1:Hid (Try.prog.info? 9=some i1):=hi1
 obtain ⟨n,hnn⟩:∃ n,n=L.length:=⟨_,rfl⟩
 rw [← hnn] at ha2 hn ⊢
 have hnI:(n:Int)≤6:=by omega
 have HA:Hid ((0 < n→∃ a:Addr,pa=some a∧n≤ca∧∀ i e,L[i]? = some e→CelW w (a.add (i*10)) e)∧(∀ i,i < n→∃ e,L[i]? = some e∧EvI e)∧n≤6):=(⟨ha2,fun i hi=>⟨_,List.getElem?_eq_getElem (by omega),hF _ (List.getElem_mem (by omega))⟩,hn⟩:_∧_)
 clear ha2 hF hn hi1 hnn
 go_enter Try.func86,Try.ntmps86
 go_wp2_with fail
 go_loopw [3,8] (fun s3 s8 wr=>∃ i:Nat,s8 = .int .i64 (i:Int)∧i≤n∧Hid (RwT w.heap.size (4*i) 5 wr s3∧Kb 0 w wr)) (fun _ s8 _=>n - (intOf s8).toNat)
 case atStart=>exact ⟨0,rfl,Nat.zero_le _,(⟨⟨[],Nat.le_refl _,fun s hs=>(nomatch hs),World.ownsRow_nil _ _ _ _⟩,Kb.refl _ _⟩:_∧_)⟩
 case round =>
  obtain ⟨i,rfl,hin,HX⟩:=hrel
  obtain ⟨⟨Q,hQ1,hQ2,ho⟩,hk⟩:=(show RwT w.heap.size (4*i) 5 wr u3∧Kb 0 w wr from HX)
  obtain ⟨pv,cv,rfl,hcv⟩:=own_cap ho
  clear HX
  rcases Nat.lt_or_ge i n with hi | hi
  case inr =>
   obtain rfl:i=n:=by omega
   have HE:Hid (RwT w.heap.size (4*i) 5 wr (.slice pv Q.length cv)∧Kb 0 w wr):=(⟨⟨Q,hQ1,hQ2,ho⟩,hk⟩:_∧_)
   clear ho hk HA HI1 hz0 hz1 hz2 hcv hQ1 hQ2
   go_wp2_with fail
   go_ret
   exact ⟨_,rfl,HE⟩
  have hiI:(i:Int) < (n:Int):=by omega
  obtain ⟨hA1,hA2,hA3⟩:=(show (0 < n→∃ a:Addr,pa=some a∧n≤ca∧∀ i e,L[i]? = some e→CelW w (a.add (i*10)) e)∧(∀ i,i < n→∃ e,L[i]? = some e∧EvI e)∧n≤6 from HA)
  obtain ⟨a,rfl,hca,hra⟩:=hA1 (by omega)
  obtain ⟨e,hei,hev⟩:=hA2 i hi
  obtain ⟨d0,d1,d2,d3,d4,d5,d6,d7,d8,d9⟩:=(hra i e hei).keep hk
  have hQ24:(Q.length:Int)≤24:=by omega
  obtain ⟨w1,hw1⟩:∃ w1,w1=wr.alloc (.cells #[.int .i64 (e.1:Int),.int .i64 (e.2.1:Int),.int .i64 0,.string e.2.2.1,.string e.2.2.2,.int .i64 0,.int .i64 0,.int .i64 0,.string ⟨#[]⟩,.slice none 0 0] 121):=⟨_,rfl⟩
  have bw1:w1.heap[wr.heap.size]? = some (.cells #[.int .i64 (e.1:Int),.int .i64 (e.2.1:Int),.int .i64 0,.string e.2.2.1,.string e.2.2.2,.int .i64 0,.int .i64 0,.int .i64 0,.string ⟨#[]⟩,.slice none 0 0] 121 (0,0)):=by rw [hw1];exact alloc_new _ _ _
  have k1:Kb 0 wr w1:=by rw [hw1];exact kb_alloc _ _ _
  have HOK:=dr_ok w1 hev
  obtain ⟨B,hBB⟩:∃ B,B=wr.heap.size:=⟨_,rfl⟩
  rw [← hBB] at bw1
  have c0:w1.cell? ⟨B,0,none⟩=some (.int .i64 (e.1:Int)):=cell_of bw1 rfl
  have c1:w1.cell? ⟨B,1,none⟩=some (.int .i64 (e.2.1:Int)):=cell_of bw1 rfl
  have c2:w1.cell? ⟨B,2,none⟩=some (.int .i64 0):=cell_of bw1 rfl
  have c3:w1.cell? ⟨B,3,none⟩=some (.string e.2.2.1):=cell_of bw1 rfl
  have c4:w1.cell? ⟨B,4,none⟩=some (.string e.2.2.2):=cell_of bw1 rfl
  have c5:w1.cell? ⟨B,5,none⟩=some (.int .i64 0):=cell_of bw1 rfl
  have c6:w1.cell? ⟨B,6,none⟩=some (.int .i64 0):=cell_of bw1 rfl
  have c7:w1.cell? ⟨B,7,none⟩=some (.int .i64 0):=cell_of bw1 rfl
  have c8:w1.cell? ⟨B,8,none⟩=some (.string ⟨#[]⟩):=cell_of bw1 rfl
  have c9:w1.cell? ⟨B,9,none⟩=some (.slice none 0 0):=cell_of bw1 rfl
  have HW1:Hid (w1=wr.alloc (.cells #[.int .i64 (e.1:Int),.int .i64 (e.2.1:Int),.int .i64 0,.string e.2.2.1,.string e.2.2.2,.int .i64 0,.int .i64 0,.int .i64 0,.string ⟨#[]⟩,.slice none 0 0] 121)∧B=wr.heap.size):=(⟨hw1,hBB⟩:_∧_)
  have HOW:Hid (wr.ownsRow w.heap.size 9 1 (.slice pv Q.length cv) Q.length (Q.map Value.string)∧Kb 0 w wr∧Kb 0 wr w1∧Q.length≤cv):=(⟨ho,hk,k1,hcv⟩:_∧_)
  have HQ:Hid (Q.length≤4*i∧(∀ s,s ∈ Q→s.size≤5)):=(⟨hQ1,hQ2⟩:_∧_)
  have HEV:Hid (EvI e):=hev
  clear ho hk k1 hcv hw1 bw1 hBB hA1 hA2 hA3 hra hin hQ1 hQ2 hei hev
  go_upto_region 5 with fail
  rw [← (show _∧_ from HW1).1,← (show _∧_ from HW1).2]
  clear HW1 d0 d1 d2 d3 d4 d5 d6 d7 d8 d9
  go_wp2_with fail
  refine HOK.mono ?_
  rintro e0 w2 ⟨rfl,k2⟩
  clear HOK
  have HLN:=dr_lns w2 (show EvI e from HEV)
  replace c0:=k2.cell c0
  replace c1:=k2.cell c1
  replace c2:=k2.cell c2
  replace c3:=k2.cell c3
  replace c4:=k2.cell c4
  replace c5:=k2.cell c5
  replace c6:=k2.cell c6
  replace c7:=k2.cell c7
  replace c8:=k2.cell c8
  replace c9:=k2.cell c9
  have HK2:Hid (Kb 0 wr w2):=(show _∧_∧_∧_ from HOW).2.2.1.trans k2
  clear k2 HA
  go_wp2_with fail
  refine HLN.mono ?_
  rintro e0 w3 ⟨v3,rfl,⟨LL,hl4,hl5,r3⟩,k3⟩
  obtain ⟨p3,c3',rfl,hc3⟩:=own_cap r3
  have hl4I:(LL.length:Int)≤4:=by omega
  clear HLN c0 c1 c2 c3 c4 c5 c6 c7 c8 c9
  obtain ⟨ho,hk,k1,hcv⟩:=(show _∧_∧_∧_ from HOW)
  have k03:=(show Kb 0 wr w2 from HK2).trans k3
  have ho3:w3.ownsRow w.heap.size 9 1 (.slice pv Q.length cv) Q.length (Q.map Value.string):=own_keep ho (fun g hg=>k03.block g (Nat.zero_le _) (ho.lt g hg).2)
  have kw3:=hk.trans k03
  have zw3:=kw3.size
  by_cases h0:LL.length=0
  case pos =>
   have HN:Hid (RwT w.heap.size (4*(i+1)) 5 w3 (.slice pv Q.length cv)∧Kb 0 w w3):=(⟨⟨Q,by have:=(show _∧_ from HQ).1;omega,(show _∧_ from HQ).2,ho3⟩,kw3⟩:_∧_)
   rw [h0]
   have HAP:Hid ((Builtin.append_ #[23,23] 23 #[.slice pv Q.length cv,.slice p3 0 c3']).run Try.prog w3 = .ok (.slice pv Q.length cv) w3):=app_nothing hcv
   clear ho hk k1 hcv k03 ho3 kw3 zw3 r3 HOW HK2 h0 k3 hz0 hz1 hz2 hl4 hl5 hc3 hl4I HQ
   go_wp2_with (refine wpList_append_nil (by rfl) (.tmp 14) (.tmp 16) 23 (by rfl) (b:=pv) (p:=p3) (N:=Q.length) (cap:=cv) (c:=c3') (by rfl) (by rfl) HAP ?_)
   go_roundw
   case rel=>exact ⟨i+1,by go_num,by omega,HN⟩
   case measure=>simp [intOf];omega
  obtain ⟨g3,cap3,e3,_,_,hcel⟩:=own_cells r3 (by omega)
  obtain ⟨rfl,-,rfl⟩:=(Value.slice.injEq _ _ _ _ _ _).mp e3
  obtain ⟨ad,had⟩:∃ ad:Addr,ad=⟨g3,0,none⟩:=⟨_,rfl⟩
  have HO3:Hid (w3.ownsRow w.heap.size 9 1 (.slice pv Q.length cv) Q.length (Q.map Value.string)∧Kb 0 w w3∧w.heap.size≤w3.heap.size∧∀ j u,(LL.map Value.string)[j]? = some u→w3.cell? (ad.add j)=some u):=(⟨ho3,kw3,zw3,fun j u hu=>by
   have hj:j < LL.length:=by have:=(List.getElem?_eq_some_iff.1 hu).1;rwa [List.length_map] at this
   rw [had,addr0,hcel j (by omega)]
   exact hu⟩:_∧_)
  rw [← had]
  have hl0 : 0 < LL.length:=by omega
  have HL5:Hid (∀ s,s ∈ LL→s.size≤5):=hl5
  have HL4:Hid (LL.length≤4):=hl4
  clear ho hk k1 hcv k03 ho3 kw3 zw3 r3 HOW HK2 h0 k3 hcel had hl5 hl4 hc3 e3
  go_wp2_with (refine wpList_append_lies _ (by rfl) (.tmp 14) (.tmp 16) 23 (by rfl) w.heap.size 9 i1 (.string ⟨#[]⟩) 1 16 Try.underlying23 HI1 hz0 hz1 hz2 rfl (by decide) (.slice pv Q.length cv) Q.length (Q.map Value.string) (by rfl) (show _∧_∧_∧_ from HO3).1 ad LL.length c3' (LL.map Value.string) (by rfl) (by rw [List.length_map,Nat.mul_one]) (show _∧_∧_∧_ from HO3).2.2.2 (by intro y hy;obtain ⟨s,_,rfl⟩:=List.mem_map.1 hy;rfl) hl0 (by unfold maxLen;omega) (by omega) (show _∧_∧_∧_ from HO3).2.2.1 w3.heap.size rfl ?_;intro g cap w8 hown1 hgrow1 hat hlt;have HN:Hid (RwT w.heap.size (4*(i+1)) 5 w8 (.slice (some ⟨g,0,none⟩) (Q.length+LL.length) cap)∧Kb 0 w w8):=(⟨⟨Q ++ LL,by rw [List.length_append];have:=(show Q.length≤4*i∧_ from HQ).1;have:=(show LL.length≤4 from HL4);omega,fun s hs=>(List.mem_append.1 hs).elim ((show _∧_ from HQ).2 s) ((show ∀ s,_ from HL5) s),by rw [List.length_append,List.map_append];exact hown1⟩,kb_app8 (show _∧_∧_∧_ from HO3).2.1 (show _∧_∧_∧_ from HO3).1 (Nat.le_refl _) hgrow1⟩:_∧_);clear hown1 hgrow1 hat hlt)
  go_roundw
  case rel=>exact ⟨i+1,by go_num,by omega,HN⟩
  case measure=>simp [intOf];omega
end Go.Proofs.Ytamcnmnaadpfoaa.Fo
