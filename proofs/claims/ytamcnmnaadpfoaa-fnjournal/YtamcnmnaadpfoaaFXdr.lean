import Derived.Test.YtamcnmnaadpfoaaFJri
import Derived.Test.YtamcnmnaadpfoaaFJrj
set_option maxHeartbeats 16000000
namespace Go.Proofs.Ytamcnmnaadpfoaa.Fo
open Go.ChangeShapes Go.WideShapes Go.ChangeAt Go.RowKit
set_option linter.unusedVariables false
set_option maxRecDepth 100000
theorem sp_rj_nil (w:World):Calls Try.prog 5 #[.slice none 0 0] w (RjM [] w):=by
 obtain ⟨w1,hw1⟩:∃ w1,w1=w.alloc (.cells #[.bool false,.slice none 0 0,.int .i64 0,.int .i64 0,.slice none 0 0] 28):=⟨_,rfl⟩
 have k1:Kb 0 w w1:=by rw [hw1];exact kb_alloc _ _ _
 have z1:w1.heap.size=w.heap.size+1:=by rw [hw1];simp
 have b1:w1.heap[w.heap.size]? = some (.cells #[.bool false,.slice none 0 0,.int .i64 0,.int .i64 0,.slice none 0 0] 28 (0,0)):=by rw [hw1];exact alloc_new _ _ _
 have HU:Calls Try.prog 16 #[.slice none 0 0] w1 (UmA [] w1):=sp_unpack_nil
 have H1:Hid (Kb 0 w w1∧w1.heap.size=w.heap.size+1∧True):=(⟨k1,z1,trivial⟩:_∧_)
 have HW:Hid (w1=w.alloc (.cells #[.bool false,.slice none 0 0,.int .i64 0,.int .i64 0,.slice none 0 0] 28)):=hw1
 have HEND:Hid (∀ W,Kb 0 w1 W→w.heap.size+2≤W.heap.size→RjA [] false j0→(∀ j,W.frozen? ⟨w.heap.size,j,none⟩=false)∧(W.cell? ⟨w.heap.size,0,none⟩=some (.bool false)∧W.cell? ⟨w.heap.size,1,none⟩=some (.slice none 0 0)∧W.cell? ⟨w.heap.size,2,none⟩=some (.int .i64 0)∧W.cell? ⟨w.heap.size,3,none⟩=some (.int .i64 0)∧W.cell? ⟨w.heap.size,4,none⟩=some (.slice none 0 0))∧∃ WF,WF=(((((W.setCell ⟨w.heap.size,0,none⟩ (.bool false)).setCell ⟨w.heap.size,1,none⟩ (.slice none 0 0)).setCell ⟨w.heap.size,2,none⟩ (.int .i64 0)).setCell ⟨w.heap.size,3,none⟩ (.int .i64 0)).setCell ⟨w.heap.size,4,none⟩ (.slice none 0 0))∧(WF.cell? ⟨w.heap.size,0,none⟩=some (.bool false)∧WF.cell? ⟨w.heap.size,1,none⟩=some (.slice none 0 0)∧WF.cell? ⟨w.heap.size,2,none⟩=some (.int .i64 0)∧WF.cell? ⟨w.heap.size,3,none⟩=some (.int .i64 0)∧WF.cell? ⟨w.heap.size,4,none⟩=some (.slice none 0 0))∧RjM [] w (.returned (.agg #[.bool false,.slice none 0 0,.int .i64 0,.int .i64 0,.slice none 0 0])) WF):=(fun W k hz hR=>by
  have bW:=blk_kb b1 k
  obtain ⟨WF,hWF,bF,fr,zF,oF,pF⟩:=five_set (.bool false) (.slice none 0 0) (.int .i64 0) (.int .i64 0) (.slice none 0 0) bW
  have kw:=k1.trans k
  exact ⟨fun j=>frozen_of bW,⟨cell_of bW rfl,cell_of bW rfl,cell_of bW rfl,cell_of bW rfl,cell_of bW rfl⟩,WF,hWF,⟨cell_of bF rfl,cell_of bF rfl,cell_of bF rfl,cell_of bF rfl,cell_of bF rfl⟩,false,j0,_,_,rfl,hR,jx_nil (by omega),⟨oF.trans kw.os,pF.trans kw.output,by have:=kw.size;omega,fun g _ hg=>(fr g (by omega)).trans (kw.block g (Nat.zero_le _) hg)⟩⟩:∀ W,_)
 clear hw1 k1 z1 b1
 go_enter Try.func5,Try.ntmps5
 go_upto_region 1 with fail
 rw [← (show w1 = _ from HW)]
 clear HW
 go_wp2_with fail
 refine HU.mono ?_
 rintro e w2 ⟨ok,a,v,ys,rfl,hT,hUn,k2⟩
 clear HU
 obtain ⟨N,hN⟩:∃ N,N=ys.length:=⟨_,rfl⟩
 rw [← hN] at hT
 obtain ⟨pn,cn,rfl,-⟩:=id hT
 obtain ⟨w3,hw3⟩:∃ w3,w3=w2.alloc (.cells #[.bool ok,.int .i64 a.k,.int .i64 a.m,.string a.x,.int .i64 a.r,.slice pn N cn] 46):=⟨_,rfl⟩
 have k3:Kb 0 w2 w3:=by rw [hw3];exact kb_alloc _ _ _
 have z3:w3.heap.size=w2.heap.size+1:=by rw [hw3];simp
 have b3:w3.heap[w2.heap.size]? = some (.cells #[.bool ok,.int .i64 a.k,.int .i64 a.m,.string a.x,.int .i64 a.r,.slice pn N cn] 46 (0,0)):=by rw [hw3];exact alloc_new _ _ _
 obtain ⟨U,hU⟩:∃ U,U=w2.heap.size:=⟨_,rfl⟩
 rw [← hU] at b3
 have u0:w3.cell? ⟨U,0,none⟩=some (.bool ok):=cell_of b3 rfl
 have hz2:=k2.size
 have HW3:Hid (w3=w2.alloc (.cells #[.bool ok,.int .i64 a.k,.int .i64 a.m,.string a.x,.int .i64 a.r,.slice pn N cn] 46)∧U=w2.heap.size):=(⟨hw3,hU⟩:_∧_)
 have hz31:w.heap.size+2≤w3.heap.size:=by have:=(show _∧w1.heap.size=w.heap.size+1∧_ from H1).2.1;omega
 have k13:=k2.trans k3
 cases ok
 case false =>
  have hRj:=rm_no1 hUn
  obtain ⟨fz,⟨c0,c1,c2,c3,c4⟩,WF,hWF,⟨e0,e1,e2,e3,e4⟩,hRM⟩:=(show ∀ W,Kb 0 w1 W→_ from HEND) w3 k13 hz31 hRj
  have HWF:Hid (WF = _):=hWF
  have HRM:Hid (RjM [] w (.returned (.agg #[.bool false,.slice none 0 0,.int .i64 0,.int .i64 0,.slice none 0 0])) WF):=hRM
  clear hWF hRM hRj hz31 k13 hT hUn k2 k3 z3 b3 hw3 hU hz2 hN HEND H1
  go_upto_region 2 with fail
  rw [← (show _∧_ from HW3).1,← (show _∧_ from HW3).2]
  clear HW3
  go_wp2_with fail
  rw [← (show WF = _ from HWF)]
  clear HWF
  refine bodyPost_ret (by simp [results,Try.results5,go_sem,e0,e1,e2,e3,e4];rfl) rfl ?_
  exact HRM
 case true=>exact absurd rfl (hUn.1 rfl).1
end Go.Proofs.Ytamcnmnaadpfoaa.Fo
