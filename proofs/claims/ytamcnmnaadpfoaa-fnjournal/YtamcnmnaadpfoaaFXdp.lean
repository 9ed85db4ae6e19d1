import Derived.Test.YtamcnmnaadpfoaaFXdb
import Derived.Test.YtamcnmnaadpfoaaFReg
import Derived.Test.YtamcnmnaadpfoaaFJga
namespace Go.Proofs.Ytamcnmnaadpfoaa.Fo
open Go.ChangeShapes Go.WideShapes Go.ChangeAt Go.RowKit
set_option linter.unusedVariables false
set_option maxRecDepth 100000
def EvD (op n:Nat) (x y:ByteArray):Prop:=(op=1∧n=0∧x=⟨#[]⟩∧y=⟨#[]⟩)∨(op=2∧n=0∧x=⟨#[]⟩∧y.size≤4)∨(op=3∧n≤4∧x=⟨#[]⟩∧y=⟨#[]⟩)∨(op=4∧n=0∧x.size≤4∧y.size≤4)
theorem set10 {w:World} {q:Nat} (v0 v1 v2 v3 v4 v5 v6 v7 v8 v9:Value) (h:w.heap[q]? = some (.cells #[.int .i64 0,.int .i64 0,.int .i64 0,.string ⟨#[]⟩,.string ⟨#[]⟩,.int .i64 0,.int .i64 0,.int .i64 0,.string ⟨#[]⟩,.slice none 0 0] 121 (0,0))):((((((((((w.setCell ⟨q,0,none⟩ v0).setCell ⟨q,1,none⟩ v1).setCell ⟨q,2,none⟩ v2).setCell ⟨q,3,none⟩ v3).setCell ⟨q,4,none⟩ v4).setCell ⟨q,5,none⟩ v5).setCell ⟨q,6,none⟩ v6).setCell ⟨q,7,none⟩ v7).setCell ⟨q,8,none⟩ v8).setCell ⟨q,9,none⟩ v9).heap[q]? = some (.cells #[v0,v1,v2,v3,v4,v5,v6,v7,v8,v9] 121 (0,0)):=by
 obtain ⟨w0,e0⟩:∃ w0,w0=w.setCell ⟨q,0,none⟩ v0:=⟨_,rfl⟩
 have h0:w0.heap[q]? = some (.cells #[v0,.int .i64 0,.int .i64 0,.string ⟨#[]⟩,.string ⟨#[]⟩,.int .i64 0,.int .i64 0,.int .i64 0,.string ⟨#[]⟩,.slice none 0 0] 121 (0,0)):=by rw [e0];exact set_known (j:=0) v0 h
 rw [← e0]
 clear e0
 obtain ⟨w1,e1⟩:∃ w1,w1=w0.setCell ⟨q,1,none⟩ v1:=⟨_,rfl⟩
 have h1:w1.heap[q]? = some (.cells #[v0,v1,.int .i64 0,.string ⟨#[]⟩,.string ⟨#[]⟩,.int .i64 0,.int .i64 0,.int .i64 0,.string ⟨#[]⟩,.slice none 0 0] 121 (0,0)):=by rw [e1];exact set_known (j:=1) v1 h0
 rw [← e1]
 clear e1
 obtain ⟨w2,e2⟩:∃ w2,w2=w1.setCell ⟨q,2,none⟩ v2:=⟨_,rfl⟩
 have h2:w2.heap[q]? = some (.cells #[v0,v1,v2,.string ⟨#[]⟩,.string ⟨#[]⟩,.int .i64 0,.int .i64 0,.int .i64 0,.string ⟨#[]⟩,.slice none 0 0] 121 (0,0)):=by rw [e2];exact set_known (j:=2) v2 h1
 rw [← e2]
 clear e2
 obtain ⟨w3,e3⟩:∃ w3,w3=w2.setCell ⟨q,3,none⟩ v3:=⟨_,rfl⟩
 have h3:w3.heap[q]? = some (.cells #[v0,v1,v2,v3,.string ⟨#[]⟩,.int .i64 0,.int .i64 0,.int .i64 0,.string ⟨#[]⟩,.slice none 0 0] 121 (0,0)):=by rw [e3];exact set_known (j:=3) v3 h2
 rw [← e3]
 clear e3
 obtain ⟨w4,e4⟩:∃ w4,w4=w3.setCell ⟨q,4,none⟩ v4:=⟨_,rfl⟩
 have h4:w4.heap[q]? = some (.cells #[v0,v1,v2,v3,v4,.int .i64 0,.int .i64 0,.int .i64 0,.string ⟨#[]⟩,.slice none 0 0] 121 (0,0)):=by rw [e4];exact set_known (j:=4) v4 h3
 rw [← e4]
 clear e4
 obtain ⟨w5,e5⟩:∃ w5,w5=w4.setCell ⟨q,5,none⟩ v5:=⟨_,rfl⟩
 have h5:w5.heap[q]? = some (.cells #[v0,v1,v2,v3,v4,v5,.int .i64 0,.int .i64 0,.string ⟨#[]⟩,.slice none 0 0] 121 (0,0)):=by rw [e5];exact set_known (j:=5) v5 h4
 rw [← e5]
 clear e5
 obtain ⟨w6,e6⟩:∃ w6,w6=w5.setCell ⟨q,6,none⟩ v6:=⟨_,rfl⟩
 have h6:w6.heap[q]? = some (.cells #[v0,v1,v2,v3,v4,v5,v6,.int .i64 0,.string ⟨#[]⟩,.slice none 0 0] 121 (0,0)):=by rw [e6];exact set_known (j:=6) v6 h5
 rw [← e6]
 clear e6
 obtain ⟨w7,e7⟩:∃ w7,w7=w6.setCell ⟨q,7,none⟩ v7:=⟨_,rfl⟩
 have h7:w7.heap[q]? = some (.cells #[v0,v1,v2,v3,v4,v5,v6,v7,.string ⟨#[]⟩,.slice none 0 0] 121 (0,0)):=by rw [e7];exact set_known (j:=7) v7 h6
 rw [← e7]
 clear e7
 obtain ⟨w8,e8⟩:∃ w8,w8=w7.setCell ⟨q,8,none⟩ v8:=⟨_,rfl⟩
 have h8:w8.heap[q]? = some (.cells #[v0,v1,v2,v3,v4,v5,v6,v7,v8,.slice none 0 0] 121 (0,0)):=by rw [e8];exact set_known (j:=8) v8 h7
 rw [← e8]
 clear e8
 obtain ⟨w9,e9⟩:∃ w9,w9=w8.setCell ⟨q,9,none⟩ v9:=⟨_,rfl⟩
 have h9:w9.heap[q]? = some (.cells #[v0,v1,v2,v3,v4,v5,v6,v7,v8,v9] 121 (0,0)):=by rw [e9];exact set_known (j:=9) v9 h8
 rw [← e9]
 clear e9
 exact h9
theorem kz10 {w:World} {q:Nat} (v0 v1 v2 v3 v4 v5 v6 v7 v8 v9:Value):Kz q w ((((((((((w.setCell ⟨q,0,none⟩ v0).setCell ⟨q,1,none⟩ v1).setCell ⟨q,2,none⟩ v2).setCell ⟨q,3,none⟩ v3).setCell ⟨q,4,none⟩ v4).setCell ⟨q,5,none⟩ v5).setCell ⟨q,6,none⟩ v6).setCell ⟨q,7,none⟩ v7).setCell ⟨q,8,none⟩ v8).setCell ⟨q,9,none⟩ v9):=((((((((((Kz.refl q w).set 0 _).set 1 _).set 2 _).set 3 _).set 4 _).set 5 _).set 6 _).set 7 _).set 8 _).set 9 _
def DrE (b:Nat) (p:Option Addr) (c m B:Nat) (W:World) (e:Ending) (w':World):Prop:=∃ (op n:Nat) (nm tx:ByteArray),e = .returned (.agg #[.int .i64 (op:Int),.int .i64 (n:Int),.int .i64 0,.string nm,.string tx,.int .i64 0,.int .i64 0,.int .i64 0,.string ⟨#[]⟩,.slice none 0 0])∧EvD op n nm tx∧CU b p c m B w'∧Kg b W w'
def o1 (x:Nat):ByteArray:=⟨[UInt8.ofNat x].toArray⟩
theorem o1_size (x:Nat):(o1 x).size≤4:=by show 1≤4;omega
theorem dr_conv {w:World} {Z x:Nat} (hx:x < 256) (h:w.heap[Z]? = some (.cells #[.int .u8 (x:Int)] 5 (0,0))):(convert 22 9 (.slice (some ⟨Z,0,none⟩) 1 1)).run Try.prog w = .ok (.string (o1 x)) w:=by
 exact run_convert_bytes_back (P:=Try.prog) w 22 9 5 ⟨Z,0,none⟩ 1 [UInt8.ofNat x] Try.underlying22 Try.underlying5 Try.underlying9 (fun j hj=>by
  have hj0:j=0:=by simp at hj;omega
  subst hj0
  have h0:w.cell? ⟨Z,0,none⟩=some (.int .u8 (x:Int)):=cell_of h rfl
  rw [addr0]
  simpa [Nat.mod_eq_of_lt hx] using h0)
end Go.Proofs.Ytamcnmnaadpfoaa.Fo
