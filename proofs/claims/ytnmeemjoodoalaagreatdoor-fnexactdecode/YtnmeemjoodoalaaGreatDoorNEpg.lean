import Derived.Test.YtnmeemjoodoalaaGreatDoorNEpb
set_option maxHeartbeats 8000000
namespace Go.Proofs.YtnmeemjoodoalaaGreatDoor.Fo
open Go.ChangeShapes Go.WideShapes Go.ChangeAt Go.RowKit
set_option linter.unusedVariables false
set_option maxRecDepth 100000
theorem im_up {w0 W : World} {l : List UInt8} (u : Bool × Int) (hr : Rn u.2) (hw : WS w0 l W) :
    Calls Tryz.prog 58 #[.pointer (some ⟨w0.heap.size,0,none⟩),.agg #[.bool u.1,.int .i64 u.2]] W (WP w0 W (l ++ ub u)):=by
  obtain ⟨w9,hw9⟩ : ∃ w9,w9 = W.alloc (.cells #[.bool u.1,.int .i64 u.2] 89):=⟨_,rfl⟩
  obtain ⟨g9,hg9⟩ : ∃ g9,g9 = W.heap.size:=⟨_,rfl⟩
  have k9 : Kb 0 W w9:=by rw [hw9];exact kb_alloc _ _ _
  have b9 : w9.heap[g9]? = some (.cells #[.bool u.1,.int .i64 u.2] 89 (0,0)):=by rw [hw9,hg9];exact alloc_new _ _ _
  have hgb : g9 ≠ w0.heap.size:=by have:=hw.lt;omega
  have HB9 : Hid (∀ W',Lib.OthersKept 5 (some w0.heap.size) w9 W' → W'.heap[g9]? = some (.cells #[.bool u.1,.int .i64 u.2] 89 (0,0))):=(fun W' k=>ok_cells k b9 (by simpa using hgb) (by decide) : ∀ W',_)
  have HW9 : Hid (w9 = W.alloc (.cells #[.bool u.1,.int .i64 u.2] 89) ∧ g9 = W.heap.size):=(⟨hw9,hg9⟩ : _ ∧ _)
  have HOI : Hid (Lib.OthersKept 5 (some w0.heap.size) W w9):=ok_kb k9 _
  have HE0 : Hid (WS w0 l w9 ∧ Lib.OthersKept 5 (some w0.heap.size) w9 w9):=(⟨hw.call k9,Lib.OthersKept.refl _ _ _⟩ : _ ∧ _)
  obtain ⟨M0,hM0⟩ : ∃ M0,M0 = l:=⟨_,rfl⟩
  rw [← hM0] at HE0
  have HM0 : Hid (M0 = l):=hM0
  clear hw9 hg9 k9 b9 hw hgb hM0
  go_enter Tryz.func58,Tryz.ntmps58
  go_upto_region 1 with fail
  rw [← (show w9 = _ ∧ _ from HW9).1]
  try rw [← (show w9 = _ ∧ _ from HW9).2]
  clear HW9
  obtain ⟨q0,o0⟩:=(show _ ∧ _ from HE0)
  have bx:=(show ∀ W',Lib.OthersKept 5 (some w0.heap.size) w9 W' → _ from HB9) w9 o0
  have c0 : w9.cell? ⟨g9,0,none⟩ = some (.bool u.1):=cell_of bx rfl
  have HC:=im_flag u.1 q0
  clear bx
  go_upto_region 2 with (go_at_call 56;refine HC.mono ?_;rintro e x1 ⟨rfl,qq,oo⟩)
  obtain ⟨M1,hM1⟩ : ∃ M1,M1 = M0 ++ fb u.1:=⟨_,rfl⟩
  rw [← hM1] at qq
  have HM1 : Hid (M1 = M0 ++ fb u.1):=hM1
  have HE1 : Hid (WS w0 M1 x1 ∧ Lib.OthersKept 5 (some w0.heap.size) w9 x1):=(⟨qq,o0.trans oo⟩ : _ ∧ _)
  clear HC q0 o0 qq oo hM1 HE0
  clear c0
  obtain ⟨q1,o1⟩:=(show _ ∧ _ from HE1)
  have bx:=(show ∀ W',Lib.OthersKept 5 (some w0.heap.size) w9 W' → _ from HB9) x1 o1
  have c1 : x1.cell? ⟨g9,1,none⟩ = some (.int .i64 u.2):=cell_of bx rfl
  have HC:=im_num1 q1 [u.2] #[.int .i64 u.2] 1 rfl rfl (fun y hy=>by rw [List.mem_singleton] at hy;subst hy;exact hr) (by simp)
  clear bx
  go_wp2_with (go_at_call 53;refine HC.mono ?_;rintro e x2 ⟨rfl,qq,oo⟩)
  obtain ⟨M2,hM2⟩ : ∃ M2,M2 = M1 ++ nbs [u.2]:=⟨_,rfl⟩
  rw [← hM2] at qq
  have HM2 : Hid (M2 = M1 ++ nbs [u.2]):=hM2
  have HE2 : Hid (WS w0 M2 x2 ∧ Lib.OthersKept 5 (some w0.heap.size) w9 x2):=(⟨qq,o1.trans oo⟩ : _ ∧ _)
  clear HC q1 o1 qq oo hM2 HE1
  clear c1
  have HN : Hid (WS w0 (l ++ ub u) x2 ∧ Lib.OthersKept 5 (some w0.heap.size) W x2):=(⟨by
    have e : l ++ ub u = M2:=by
      rw [show M2 = _ from HM2,show M1 = _ from HM1,show M0 = _ from HM0]
      unfold ub;simp only [List.append_assoc,nbs,List.append_nil]
    rw [e];exact (show _ ∧ _ from HE2).1,(show Lib.OthersKept 5 (some w0.heap.size) W w9 from HOI).trans (show _ ∧ _ from HE2).2⟩ : _ ∧ _)
  clear HE2 HOI HB9
  try go_wp2_with fail
  exact ⟨rfl,.tuple #[],by simp [results,Tryz.results58],rfl,(show _ ∧ _ from HN).1,(show _ ∧ _ from HN).2⟩
theorem im_ins {w0 W : World} {l : List UInt8} (a : Iv) (hr : Rn a.o ∧ Rn a.a ∧ Rn a.b ∧ Rn a.c ∧ Rn a.d) (hw : WS w0 l W) :
    Calls Tryz.prog 62 #[.pointer (some ⟨w0.heap.size,0,none⟩),.agg #[.int .i64 a.o,.int .i64 a.a,.int .i64 a.b,.int .i64 a.c,.int .i64 a.d]] W (WP w0 W (l ++ ib a)):=by
  obtain ⟨w9,hw9⟩ : ∃ w9,w9 = W.alloc (.cells #[.int .i64 a.o,.int .i64 a.a,.int .i64 a.b,.int .i64 a.c,.int .i64 a.d] 81):=⟨_,rfl⟩
  obtain ⟨g9,hg9⟩ : ∃ g9,g9 = W.heap.size:=⟨_,rfl⟩
  have k9 : Kb 0 W w9:=by rw [hw9];exact kb_alloc _ _ _
  have b9 : w9.heap[g9]? = some (.cells #[.int .i64 a.o,.int .i64 a.a,.int .i64 a.b,.int .i64 a.c,.int .i64 a.d] 81 (0,0)):=by rw [hw9,hg9];exact alloc_new _ _ _
  have hgb : g9 ≠ w0.heap.size:=by have:=hw.lt;omega
  have HB9 : Hid (∀ W',Lib.OthersKept 5 (some w0.heap.size) w9 W' → W'.heap[g9]? = some (.cells #[.int .i64 a.o,.int .i64 a.a,.int .i64 a.b,.int .i64 a.c,.int .i64 a.d] 81 (0,0))):=(fun W' k=>ok_cells k b9 (by simpa using hgb) (by decide) : ∀ W',_)
  have HW9 : Hid (w9 = W.alloc (.cells #[.int .i64 a.o,.int .i64 a.a,.int .i64 a.b,.int .i64 a.c,.int .i64 a.d] 81) ∧ g9 = W.heap.size):=(⟨hw9,hg9⟩ : _ ∧ _)
  have HOI : Hid (Lib.OthersKept 5 (some w0.heap.size) W w9):=ok_kb k9 _
  have HE0 : Hid (WS w0 l w9 ∧ Lib.OthersKept 5 (some w0.heap.size) w9 w9):=(⟨hw.call k9,Lib.OthersKept.refl _ _ _⟩ : _ ∧ _)
  obtain ⟨M0,hM0⟩ : ∃ M0,M0 = l:=⟨_,rfl⟩
  rw [← hM0] at HE0
  have HM0 : Hid (M0 = l):=hM0
  clear hw9 hg9 k9 b9 hw hgb hM0
  go_enter Tryz.func62,Tryz.ntmps62
  go_upto_region 1 with fail
  rw [← (show w9 = _ ∧ _ from HW9).1]
  try rw [← (show w9 = _ ∧ _ from HW9).2]
  clear HW9
  obtain ⟨q0,o0⟩:=(show _ ∧ _ from HE0)
  have bx:=(show ∀ W',Lib.OthersKept 5 (some w0.heap.size) w9 W' → _ from HB9) w9 o0
  have c0 : w9.cell? ⟨g9,0,none⟩ = some (.int .i64 a.o):=cell_of bx rfl
  have c1 : w9.cell? ⟨g9,1,none⟩ = some (.int .i64 a.a):=cell_of bx rfl
  have c2 : w9.cell? ⟨g9,2,none⟩ = some (.int .i64 a.b):=cell_of bx rfl
  have c3 : w9.cell? ⟨g9,3,none⟩ = some (.int .i64 a.c):=cell_of bx rfl
  have c4 : w9.cell? ⟨g9,4,none⟩ = some (.int .i64 a.d):=cell_of bx rfl
  have HC:=im_num1 q0 [a.o,a.a,a.b,a.c,a.d] #[.int .i64 a.o,.int .i64 a.a,.int .i64 a.b,.int .i64 a.c,.int .i64 a.d] 5 rfl rfl (fun y hy=>by simp only [List.mem_cons,List.not_mem_nil,or_false] at hy;rcases hy with h | h | h | h | h <;> (rw [h];first | exact hr.1 | exact hr.2.1 | exact hr.2.2.1 | exact hr.2.2.2.1 | exact hr.2.2.2.2)) (by simp)
  clear bx
  go_wp2_with (go_at_call 53;refine HC.mono ?_;rintro e x1 ⟨rfl,qq,oo⟩)
  obtain ⟨M1,hM1⟩ : ∃ M1,M1 = M0 ++ nbs [a.o,a.a,a.b,a.c,a.d]:=⟨_,rfl⟩
  rw [← hM1] at qq
  have HM1 : Hid (M1 = M0 ++ nbs [a.o,a.a,a.b,a.c,a.d]):=hM1
  have HE1 : Hid (WS w0 M1 x1 ∧ Lib.OthersKept 5 (some w0.heap.size) w9 x1):=(⟨qq,o0.trans oo⟩ : _ ∧ _)
  clear HC q0 o0 qq oo hM1 HE0
  clear c0
  clear c1
  clear c2
  clear c3
  clear c4
  have HN : Hid (WS w0 (l ++ ib a) x1 ∧ Lib.OthersKept 5 (some w0.heap.size) W x1):=(⟨by
    have e : l ++ ib a = M1:=by
      rw [show M1 = _ from HM1,show M0 = _ from HM0]
      unfold ib;simp only [List.append_assoc,nbs,List.append_nil]
    rw [e];exact (show _ ∧ _ from HE1).1,(show Lib.OthersKept 5 (some w0.heap.size) W w9 from HOI).trans (show _ ∧ _ from HE1).2⟩ : _ ∧ _)
  clear HE1 HOI HB9
  try go_wp2_with fail
  exact ⟨rfl,.tuple #[],by simp [results,Tryz.results62],rfl,(show _ ∧ _ from HN).1,(show _ ∧ _ from HN).2⟩
theorem im_named {w0 W : World} {l : List UInt8} (a : Mv) (hr : (a.x.size : Int) ≤ 1048576 ∧ Rn a.g ∧ Rn a.f ∧ Rn a.t) (hw : WS w0 l W) :
    Calls Tryz.prog 64 #[.pointer (some ⟨w0.heap.size,0,none⟩),.agg #[.string a.x,.int .i64 a.g,.int .i64 a.f,.int .i64 a.t]] W (WP w0 W (l ++ mb a)):=by
  obtain ⟨w9,hw9⟩ : ∃ w9,w9 = W.alloc (.cells #[.string a.x,.int .i64 a.g,.int .i64 a.f,.int .i64 a.t] 97):=⟨_,rfl⟩
  obtain ⟨g9,hg9⟩ : ∃ g9,g9 = W.heap.size:=⟨_,rfl⟩
  have k9 : Kb 0 W w9:=by rw [hw9];exact kb_alloc _ _ _
  have b9 : w9.heap[g9]? = some (.cells #[.string a.x,.int .i64 a.g,.int .i64 a.f,.int .i64 a.t] 97 (0,0)):=by rw [hw9,hg9];exact alloc_new _ _ _
  have hgb : g9 ≠ w0.heap.size:=by have:=hw.lt;omega
  have HB9 : Hid (∀ W',Lib.OthersKept 5 (some w0.heap.size) w9 W' → W'.heap[g9]? = some (.cells #[.string a.x,.int .i64 a.g,.int .i64 a.f,.int .i64 a.t] 97 (0,0))):=(fun W' k=>ok_cells k b9 (by simpa using hgb) (by decide) : ∀ W',_)
  have HW9 : Hid (w9 = W.alloc (.cells #[.string a.x,.int .i64 a.g,.int .i64 a.f,.int .i64 a.t] 97) ∧ g9 = W.heap.size):=(⟨hw9,hg9⟩ : _ ∧ _)
  have HOI : Hid (Lib.OthersKept 5 (some w0.heap.size) W w9):=ok_kb k9 _
  have HE0 : Hid (WS w0 l w9 ∧ Lib.OthersKept 5 (some w0.heap.size) w9 w9):=(⟨hw.call k9,Lib.OthersKept.refl _ _ _⟩ : _ ∧ _)
  obtain ⟨M0,hM0⟩ : ∃ M0,M0 = l:=⟨_,rfl⟩
  rw [← hM0] at HE0
  have HM0 : Hid (M0 = l):=hM0
  clear hw9 hg9 k9 b9 hw hgb hM0
  go_enter Tryz.func64,Tryz.ntmps64
  go_upto_region 1 with fail
  rw [← (show w9 = _ ∧ _ from HW9).1]
  try rw [← (show w9 = _ ∧ _ from HW9).2]
  clear HW9
  obtain ⟨q0,o0⟩:=(show _ ∧ _ from HE0)
  have bx:=(show ∀ W',Lib.OthersKept 5 (some w0.heap.size) w9 W' → _ from HB9) w9 o0
  have c0 : w9.cell? ⟨g9,0,none⟩ = some (.string a.x):=cell_of bx rfl
  have HC:=im_text a.x hr.1 q0
  clear bx
  go_upto_region 2 with (go_at_call 55;refine HC.mono ?_;rintro e x1 ⟨rfl,qq,oo⟩)
  obtain ⟨M1,hM1⟩ : ∃ M1,M1 = M0 ++ tb a.x:=⟨_,rfl⟩
  rw [← hM1] at qq
  have HM1 : Hid (M1 = M0 ++ tb a.x):=hM1
  have HE1 : Hid (WS w0 M1 x1 ∧ Lib.OthersKept 5 (some w0.heap.size) w9 x1):=(⟨qq,o0.trans oo⟩ : _ ∧ _)
  clear HC q0 o0 qq oo hM1 HE0
  clear c0
  obtain ⟨q1,o1⟩:=(show _ ∧ _ from HE1)
  have bx:=(show ∀ W',Lib.OthersKept 5 (some w0.heap.size) w9 W' → _ from HB9) x1 o1
  have c1 : x1.cell? ⟨g9,1,none⟩ = some (.int .i64 a.g):=cell_of bx rfl
  have c2 : x1.cell? ⟨g9,2,none⟩ = some (.int .i64 a.f):=cell_of bx rfl
  have c3 : x1.cell? ⟨g9,3,none⟩ = some (.int .i64 a.t):=cell_of bx rfl
  have HC:=im_num1 q1 [a.g,a.f,a.t] #[.int .i64 a.g,.int .i64 a.f,.int .i64 a.t] 3 rfl rfl (fun y hy=>by simp only [List.mem_cons,List.not_mem_nil,or_false] at hy;rcases hy with h | h | h <;> (rw [h];first | exact hr.2.1 | exact hr.2.2.1 | exact hr.2.2.2)) (by simp)
  clear bx
  go_wp2_with (go_at_call 53;refine HC.mono ?_;rintro e x2 ⟨rfl,qq,oo⟩)
  obtain ⟨M2,hM2⟩ : ∃ M2,M2 = M1 ++ nbs [a.g,a.f,a.t]:=⟨_,rfl⟩
  rw [← hM2] at qq
  have HM2 : Hid (M2 = M1 ++ nbs [a.g,a.f,a.t]):=hM2
  have HE2 : Hid (WS w0 M2 x2 ∧ Lib.OthersKept 5 (some w0.heap.size) w9 x2):=(⟨qq,o1.trans oo⟩ : _ ∧ _)
  clear HC q1 o1 qq oo hM2 HE1
  clear c1
  clear c2
  clear c3
  have HN : Hid (WS w0 (l ++ mb a) x2 ∧ Lib.OthersKept 5 (some w0.heap.size) W x2):=(⟨by
    have e : l ++ mb a = M2:=by
      rw [show M2 = _ from HM2,show M1 = _ from HM1,show M0 = _ from HM0]
      unfold mb;simp only [List.append_assoc,nbs,List.append_nil]
    rw [e];exact (show _ ∧ _ from HE2).1,(show Lib.OthersKept 5 (some w0.heap.size) W w9 from HOI).trans (show _ ∧ _ from HE2).2⟩ : _ ∧ _)
  clear HE2 HOI HB9
  try go_wp2_with fail
  exact ⟨rfl,.tuple #[],by simp [results,Tryz.results64],rfl,(show _ ∧ _ from HN).1,(show _ ∧ _ from HN).2⟩
theorem im_value0 {w0 W : World} {l : List UInt8} (v : Vv) (hk : v.k = 0) (hr : Rn v.m ∧ (v.x.size : Int) ≤ 1048576 ∧ v.g < 18446744073709551616 ∧ FloatKind.f64.format.order v.g v.g = some .eq) (hw : WS w0 l W) :
    Calls Tryz.prog 60 #[.pointer (some ⟨w0.heap.size,0,none⟩),.agg #[.int .i64 0,.int .i64 v.m,.float .f64 v.g,.string v.x,.int .i64 v.r]] W (WP w0 W (l ++ cb v)):=by
  obtain ⟨w9,hw9⟩ : ∃ w9,w9 = W.alloc (.cells #[.int .i64 0,.int .i64 v.m,.float .f64 v.g,.string v.x,.int .i64 v.r] 92):=⟨_,rfl⟩
  obtain ⟨g9,hg9⟩ : ∃ g9,g9 = W.heap.size:=⟨_,rfl⟩
  have k9 : Kb 0 W w9:=by rw [hw9];exact kb_alloc _ _ _
  have b9 : w9.heap[g9]? = some (.cells #[.int .i64 0,.int .i64 v.m,.float .f64 v.g,.string v.x,.int .i64 v.r] 92 (0,0)):=by rw [hw9,hg9];exact alloc_new _ _ _
  have hgb : g9 ≠ w0.heap.size:=by have:=hw.lt;omega
  have HB9 : Hid (∀ W',Lib.OthersKept 5 (some w0.heap.size) w9 W' → W'.heap[g9]? = some (.cells #[.int .i64 0,.int .i64 v.m,.float .f64 v.g,.string v.x,.int .i64 v.r] 92 (0,0))):=(fun W' k=>ok_cells k b9 (by simpa using hgb) (by decide) : ∀ W',_)
  have HW9 : Hid (w9 = W.alloc (.cells #[.int .i64 0,.int .i64 v.m,.float .f64 v.g,.string v.x,.int .i64 v.r] 92) ∧ g9 = W.heap.size):=(⟨hw9,hg9⟩ : _ ∧ _)
  have HOI : Hid (Lib.OthersKept 5 (some w0.heap.size) W w9):=ok_kb k9 _
  have HE0 : Hid (WS w0 l w9 ∧ Lib.OthersKept 5 (some w0.heap.size) w9 w9):=(⟨hw.call k9,Lib.OthersKept.refl _ _ _⟩ : _ ∧ _)
  obtain ⟨M0,hM0⟩ : ∃ M0,M0 = l:=⟨_,rfl⟩
  rw [← hM0] at HE0
  have HM0 : Hid (M0 = l):=hM0
  clear hw9 hg9 k9 b9 hw hgb hM0
  have hu8 : IntKind.u8.wrap 0 = 0:=by rw [wrap_u8];rfl
  go_enter Tryz.func60,Tryz.ntmps60
  go_upto_region 1 with fail
  rw [← (show w9 = _ ∧ _ from HW9).1]
  try rw [← (show w9 = _ ∧ _ from HW9).2]
  clear HW9
  obtain ⟨q0,o0⟩:=(show _ ∧ _ from HE0)
  have bx:=(show ∀ W',Lib.OthersKept 5 (some w0.heap.size) w9 W' → _ from HB9) w9 o0
  have c0 : w9.cell? ⟨g9,0,none⟩ = some (.int .i64 0):=cell_of bx rfl
  have HC:=im_put1 q0 0 0 rfl
  clear bx
  go_upto_region 2 with (go_at_call 24;refine HC.mono ?_;rintro e x1 ⟨rfl,qq,oo⟩)
  obtain ⟨M1,hM1⟩ : ∃ M1,M1 = M0 ++ [0]:=⟨_,rfl⟩
  rw [← hM1] at qq
  have HM1 : Hid (M1 = M0 ++ [0]):=hM1
  have HE1 : Hid (WS w0 M1 x1 ∧ Lib.OthersKept 5 (some w0.heap.size) w9 x1):=(⟨qq,o0.trans oo⟩ : _ ∧ _)
  clear HC q0 o0 qq oo hM1 HE0
  clear c0
  have bx:=(show ∀ W',Lib.OthersKept 5 (some w0.heap.size) w9 W' → _ from HB9) x1 (show _ ∧ _ from HE1).2
  have c0 : x1.cell? ⟨g9,0,none⟩ = some (.int .i64 0):=cell_of bx rfl
  clear bx
  have HN : Hid (WS w0 (l ++ cb v) x1 ∧ Lib.OthersKept 5 (some w0.heap.size) W x1):=(⟨by
    have e : l ++ cb v = M1:=by
      rw [show M1 = _ from HM1,show M0 = _ from HM0]
      unfold cb;rw [hk];simp
    rw [e];exact (show _ ∧ _ from HE1).1,(show Lib.OthersKept 5 (some w0.heap.size) W w9 from HOI).trans (show _ ∧ _ from HE1).2⟩ : _ ∧ _)
  clear HE1 HOI HB9
  try go_wp2_with fail
  exact ⟨rfl,.tuple #[],by simp [results,Tryz.results60],rfl,(show _ ∧ _ from HN).1,(show _ ∧ _ from HN).2⟩
theorem im_value1 {w0 W : World} {l : List UInt8} (v : Vv) (hk : v.k = 1) (hr : Rn v.m ∧ (v.x.size : Int) ≤ 1048576 ∧ v.g < 18446744073709551616 ∧ FloatKind.f64.format.order v.g v.g = some .eq) (hw : WS w0 l W) :
    Calls Tryz.prog 60 #[.pointer (some ⟨w0.heap.size,0,none⟩),.agg #[.int .i64 1,.int .i64 v.m,.float .f64 v.g,.string v.x,.int .i64 v.r]] W (WP w0 W (l ++ cb v)):=by
  obtain ⟨w9,hw9⟩ : ∃ w9,w9 = W.alloc (.cells #[.int .i64 1,.int .i64 v.m,.float .f64 v.g,.string v.x,.int .i64 v.r] 92):=⟨_,rfl⟩
  obtain ⟨g9,hg9⟩ : ∃ g9,g9 = W.heap.size:=⟨_,rfl⟩
  have k9 : Kb 0 W w9:=by rw [hw9];exact kb_alloc _ _ _
  have b9 : w9.heap[g9]? = some (.cells #[.int .i64 1,.int .i64 v.m,.float .f64 v.g,.string v.x,.int .i64 v.r] 92 (0,0)):=by rw [hw9,hg9];exact alloc_new _ _ _
  have hgb : g9 ≠ w0.heap.size:=by have:=hw.lt;omega
  have HB9 : Hid (∀ W',Lib.OthersKept 5 (some w0.heap.size) w9 W' → W'.heap[g9]? = some (.cells #[.int .i64 1,.int .i64 v.m,.float .f64 v.g,.string v.x,.int .i64 v.r] 92 (0,0))):=(fun W' k=>ok_cells k b9 (by simpa using hgb) (by decide) : ∀ W',_)
  have HW9 : Hid (w9 = W.alloc (.cells #[.int .i64 1,.int .i64 v.m,.float .f64 v.g,.string v.x,.int .i64 v.r] 92) ∧ g9 = W.heap.size):=(⟨hw9,hg9⟩ : _ ∧ _)
  have HOI : Hid (Lib.OthersKept 5 (some w0.heap.size) W w9):=ok_kb k9 _
  have HE0 : Hid (WS w0 l w9 ∧ Lib.OthersKept 5 (some w0.heap.size) w9 w9):=(⟨hw.call k9,Lib.OthersKept.refl _ _ _⟩ : _ ∧ _)
  obtain ⟨M0,hM0⟩ : ∃ M0,M0 = l:=⟨_,rfl⟩
  rw [← hM0] at HE0
  have HM0 : Hid (M0 = l):=hM0
  clear hw9 hg9 k9 b9 hw hgb hM0
  have hu8 : IntKind.u8.wrap 1 = 1:=by rw [wrap_u8];rfl
  go_enter Tryz.func60,Tryz.ntmps60
  go_upto_region 1 with fail
  rw [← (show w9 = _ ∧ _ from HW9).1]
  try rw [← (show w9 = _ ∧ _ from HW9).2]
  clear HW9
  obtain ⟨q0,o0⟩:=(show _ ∧ _ from HE0)
  have bx:=(show ∀ W',Lib.OthersKept 5 (some w0.heap.size) w9 W' → _ from HB9) w9 o0
  have c0 : w9.cell? ⟨g9,0,none⟩ = some (.int .i64 1):=cell_of bx rfl
  have HC:=im_put1 q0 1 1 rfl
  clear bx
  go_upto_region 2 with (go_at_call 24;refine HC.mono ?_;rintro e x1 ⟨rfl,qq,oo⟩)
  obtain ⟨M1,hM1⟩ : ∃ M1,M1 = M0 ++ [1]:=⟨_,rfl⟩
  rw [← hM1] at qq
  have HM1 : Hid (M1 = M0 ++ [1]):=hM1
  have HE1 : Hid (WS w0 M1 x1 ∧ Lib.OthersKept 5 (some w0.heap.size) w9 x1):=(⟨qq,o0.trans oo⟩ : _ ∧ _)
  clear HC q0 o0 qq oo hM1 HE0
  clear c0
  obtain ⟨q1,o1⟩:=(show _ ∧ _ from HE1)
  have bx:=(show ∀ W',Lib.OthersKept 5 (some w0.heap.size) w9 W' → _ from HB9) x1 o1
  have c0 : x1.cell? ⟨g9,0,none⟩ = some (.int .i64 1):=cell_of bx rfl
  have c1 : x1.cell? ⟨g9,1,none⟩ = some (.int .i64 v.m):=cell_of bx rfl
  have HC:=im_num1 q1 [v.m] #[.int .i64 v.m] 1 rfl rfl (fun y hy=>by rw [List.mem_singleton] at hy;subst hy;exact hr.1) (by simp)
  clear bx
  go_wp2_with (go_at_call 53;refine HC.mono ?_;rintro e x2 ⟨rfl,qq,oo⟩)
  obtain ⟨M2,hM2⟩ : ∃ M2,M2 = M1 ++ nbs [v.m]:=⟨_,rfl⟩
  rw [← hM2] at qq
  have HM2 : Hid (M2 = M1 ++ nbs [v.m]):=hM2
  have HE2 : Hid (WS w0 M2 x2 ∧ Lib.OthersKept 5 (some w0.heap.size) w9 x2):=(⟨qq,o1.trans oo⟩ : _ ∧ _)
  clear HC q1 o1 qq oo hM2 HE1
  clear c0
  clear c1
  have HN : Hid (WS w0 (l ++ cb v) x2 ∧ Lib.OthersKept 5 (some w0.heap.size) W x2):=(⟨by
    have e : l ++ cb v = M2:=by
      rw [show M2 = _ from HM2,show M1 = _ from HM1,show M0 = _ from HM0]
      unfold cb;rw [hk];simp [nbs]
    rw [e];exact (show _ ∧ _ from HE2).1,(show Lib.OthersKept 5 (some w0.heap.size) W w9 from HOI).trans (show _ ∧ _ from HE2).2⟩ : _ ∧ _)
  clear HE2 HOI HB9
  try go_wp2_with fail
  exact ⟨rfl,.tuple #[],by simp [results,Tryz.results60],rfl,(show _ ∧ _ from HN).1,(show _ ∧ _ from HN).2⟩
theorem im_value2 {w0 W : World} {l : List UInt8} (v : Vv) (hk : v.k = 2) (hr : Rn v.m ∧ (v.x.size : Int) ≤ 1048576 ∧ v.g < 18446744073709551616 ∧ FloatKind.f64.format.order v.g v.g = some .eq) (hw : WS w0 l W) :
    Calls Tryz.prog 60 #[.pointer (some ⟨w0.heap.size,0,none⟩),.agg #[.int .i64 2,.int .i64 v.m,.float .f64 v.g,.string v.x,.int .i64 v.r]] W (WP w0 W (l ++ cb v)):=by
  obtain ⟨w9,hw9⟩ : ∃ w9,w9 = W.alloc (.cells #[.int .i64 2,.int .i64 v.m,.float .f64 v.g,.string v.x,.int .i64 v.r] 92):=⟨_,rfl⟩
  obtain ⟨g9,hg9⟩ : ∃ g9,g9 = W.heap.size:=⟨_,rfl⟩
  have k9 : Kb 0 W w9:=by rw [hw9];exact kb_alloc _ _ _
  have b9 : w9.heap[g9]? = some (.cells #[.int .i64 2,.int .i64 v.m,.float .f64 v.g,.string v.x,.int .i64 v.r] 92 (0,0)):=by rw [hw9,hg9];exact alloc_new _ _ _
  have hgb : g9 ≠ w0.heap.size:=by have:=hw.lt;omega
  have HB9 : Hid (∀ W',Lib.OthersKept 5 (some w0.heap.size) w9 W' → W'.heap[g9]? = some (.cells #[.int .i64 2,.int .i64 v.m,.float .f64 v.g,.string v.x,.int .i64 v.r] 92 (0,0))):=(fun W' k=>ok_cells k b9 (by simpa using hgb) (by decide) : ∀ W',_)
  have HW9 : Hid (w9 = W.alloc (.cells #[.int .i64 2,.int .i64 v.m,.float .f64 v.g,.string v.x,.int .i64 v.r] 92) ∧ g9 = W.heap.size):=(⟨hw9,hg9⟩ : _ ∧ _)
  have HOI : Hid (Lib.OthersKept 5 (some w0.heap.size) W w9):=ok_kb k9 _
  have HE0 : Hid (WS w0 l w9 ∧ Lib.OthersKept 5 (some w0.heap.size) w9 w9):=(⟨hw.call k9,Lib.OthersKept.refl _ _ _⟩ : _ ∧ _)
  obtain ⟨M0,hM0⟩ : ∃ M0,M0 = l:=⟨_,rfl⟩
  rw [← hM0] at HE0
  have HM0 : Hid (M0 = l):=hM0
  clear hw9 hg9 k9 b9 hw hgb hM0
  have hu8 : IntKind.u8.wrap 2 = 2:=by rw [wrap_u8];rfl
  go_enter Tryz.func60,Tryz.ntmps60
  go_upto_region 1 with fail
  rw [← (show w9 = _ ∧ _ from HW9).1]
  try rw [← (show w9 = _ ∧ _ from HW9).2]
  clear HW9
  obtain ⟨q0,o0⟩:=(show _ ∧ _ from HE0)
  have bx:=(show ∀ W',Lib.OthersKept 5 (some w0.heap.size) w9 W' → _ from HB9) w9 o0
  have c0 : w9.cell? ⟨g9,0,none⟩ = some (.int .i64 2):=cell_of bx rfl
  have HC:=im_put1 q0 2 2 rfl
  clear bx
  go_upto_region 2 with (go_at_call 24;refine HC.mono ?_;rintro e x1 ⟨rfl,qq,oo⟩)
  obtain ⟨M1,hM1⟩ : ∃ M1,M1 = M0 ++ [2]:=⟨_,rfl⟩
  rw [← hM1] at qq
  have HM1 : Hid (M1 = M0 ++ [2]):=hM1
  have HE1 : Hid (WS w0 M1 x1 ∧ Lib.OthersKept 5 (some w0.heap.size) w9 x1):=(⟨qq,o0.trans oo⟩ : _ ∧ _)
  clear HC q0 o0 qq oo hM1 HE0
  clear c0
  obtain ⟨q1,o1⟩:=(show _ ∧ _ from HE1)
  have bx:=(show ∀ W',Lib.OthersKept 5 (some w0.heap.size) w9 W' → _ from HB9) x1 o1
  have c0 : x1.cell? ⟨g9,0,none⟩ = some (.int .i64 2):=cell_of bx rfl
  have c1 : x1.cell? ⟨g9,1,none⟩ = some (.int .i64 v.m):=cell_of bx rfl
  have HC:=im_num1 q1 [v.m] #[.int .i64 v.m] 1 rfl rfl (fun y hy=>by rw [List.mem_singleton] at hy;subst hy;exact hr.1) (by simp)
  clear bx
  go_wp2_with (go_at_call 53;refine HC.mono ?_;rintro e x2 ⟨rfl,qq,oo⟩)
  obtain ⟨M2,hM2⟩ : ∃ M2,M2 = M1 ++ nbs [v.m]:=⟨_,rfl⟩
  rw [← hM2] at qq
  have HM2 : Hid (M2 = M1 ++ nbs [v.m]):=hM2
  have HE2 : Hid (WS w0 M2 x2 ∧ Lib.OthersKept 5 (some w0.heap.size) w9 x2):=(⟨qq,o1.trans oo⟩ : _ ∧ _)
  clear HC q1 o1 qq oo hM2 HE1
  clear c0
  clear c1
  have HN : Hid (WS w0 (l ++ cb v) x2 ∧ Lib.OthersKept 5 (some w0.heap.size) W x2):=(⟨by
    have e : l ++ cb v = M2:=by
      rw [show M2 = _ from HM2,show M1 = _ from HM1,show M0 = _ from HM0]
      unfold cb;rw [hk];simp [nbs]
    rw [e];exact (show _ ∧ _ from HE2).1,(show Lib.OthersKept 5 (some w0.heap.size) W w9 from HOI).trans (show _ ∧ _ from HE2).2⟩ : _ ∧ _)
  clear HE2 HOI HB9
  try go_wp2_with fail
  exact ⟨rfl,.tuple #[],by simp [results,Tryz.results60],rfl,(show _ ∧ _ from HN).1,(show _ ∧ _ from HN).2⟩
theorem im_value3 {w0 W : World} {l : List UInt8} (v : Vv) (hk : v.k = 3) (hr : Rn v.m ∧ (v.x.size : Int) ≤ 1048576 ∧ v.g < 18446744073709551616 ∧ FloatKind.f64.format.order v.g v.g = some .eq) (hw : WS w0 l W) :
    Calls Tryz.prog 60 #[.pointer (some ⟨w0.heap.size,0,none⟩),.agg #[.int .i64 3,.int .i64 v.m,.float .f64 v.g,.string v.x,.int .i64 v.r]] W (WP w0 W (l ++ cb v)):=by
  obtain ⟨w9,hw9⟩ : ∃ w9,w9 = W.alloc (.cells #[.int .i64 3,.int .i64 v.m,.float .f64 v.g,.string v.x,.int .i64 v.r] 92):=⟨_,rfl⟩
  obtain ⟨g9,hg9⟩ : ∃ g9,g9 = W.heap.size:=⟨_,rfl⟩
  have k9 : Kb 0 W w9:=by rw [hw9];exact kb_alloc _ _ _
  have b9 : w9.heap[g9]? = some (.cells #[.int .i64 3,.int .i64 v.m,.float .f64 v.g,.string v.x,.int .i64 v.r] 92 (0,0)):=by rw [hw9,hg9];exact alloc_new _ _ _
  have hgb : g9 ≠ w0.heap.size:=by have:=hw.lt;omega
  have HB9 : Hid (∀ W',Lib.OthersKept 5 (some w0.heap.size) w9 W' → W'.heap[g9]? = some (.cells #[.int .i64 3,.int .i64 v.m,.float .f64 v.g,.string v.x,.int .i64 v.r] 92 (0,0))):=(fun W' k=>ok_cells k b9 (by simpa using hgb) (by decide) : ∀ W',_)
  have HW9 : Hid (w9 = W.alloc (.cells #[.int .i64 3,.int .i64 v.m,.float .f64 v.g,.string v.x,.int .i64 v.r] 92) ∧ g9 = W.heap.size):=(⟨hw9,hg9⟩ : _ ∧ _)
  have HOI : Hid (Lib.OthersKept 5 (some w0.heap.size) W w9):=ok_kb k9 _
  have HE0 : Hid (WS w0 l w9 ∧ Lib.OthersKept 5 (some w0.heap.size) w9 w9):=(⟨hw.call k9,Lib.OthersKept.refl _ _ _⟩ : _ ∧ _)
  obtain ⟨M0,hM0⟩ : ∃ M0,M0 = l:=⟨_,rfl⟩
  rw [← hM0] at HE0
  have HM0 : Hid (M0 = l):=hM0
  clear hw9 hg9 k9 b9 hw hgb hM0
  have hu8 : IntKind.u8.wrap 3 = 3:=by rw [wrap_u8];rfl
  go_enter Tryz.func60,Tryz.ntmps60
  go_upto_region 1 with fail
  rw [← (show w9 = _ ∧ _ from HW9).1]
  try rw [← (show w9 = _ ∧ _ from HW9).2]
  clear HW9
  obtain ⟨q0,o0⟩:=(show _ ∧ _ from HE0)
  have bx:=(show ∀ W',Lib.OthersKept 5 (some w0.heap.size) w9 W' → _ from HB9) w9 o0
  have c0 : w9.cell? ⟨g9,0,none⟩ = some (.int .i64 3):=cell_of bx rfl
  have HC:=im_put1 q0 3 3 rfl
  clear bx
  go_upto_region 2 with (go_at_call 24;refine HC.mono ?_;rintro e x1 ⟨rfl,qq,oo⟩)
  obtain ⟨M1,hM1⟩ : ∃ M1,M1 = M0 ++ [3]:=⟨_,rfl⟩
  rw [← hM1] at qq
  have HM1 : Hid (M1 = M0 ++ [3]):=hM1
  have HE1 : Hid (WS w0 M1 x1 ∧ Lib.OthersKept 5 (some w0.heap.size) w9 x1):=(⟨qq,o0.trans oo⟩ : _ ∧ _)
  clear HC q0 o0 qq oo hM1 HE0
  clear c0
  obtain ⟨q1,o1⟩:=(show _ ∧ _ from HE1)
  have bx:=(show ∀ W',Lib.OthersKept 5 (some w0.heap.size) w9 W' → _ from HB9) x1 o1
  have c0 : x1.cell? ⟨g9,0,none⟩ = some (.int .i64 3):=cell_of bx rfl
  have c2 : x1.cell? ⟨g9,2,none⟩ = some (.float .f64 v.g):=cell_of bx rfl
  have HC:=im_float v.g hr.2.2.2 hr.2.2.1 q1
  clear bx
  go_wp2_with (go_at_call 115;refine HC.mono ?_;rintro e x2 ⟨rfl,qq,oo⟩)
  obtain ⟨M2,hM2⟩ : ∃ M2,M2 = M1 ++ db v.g 8:=⟨_,rfl⟩
  rw [← hM2] at qq
  have HM2 : Hid (M2 = M1 ++ db v.g 8):=hM2
  have HE2 : Hid (WS w0 M2 x2 ∧ Lib.OthersKept 5 (some w0.heap.size) w9 x2):=(⟨qq,o1.trans oo⟩ : _ ∧ _)
  clear HC q1 o1 qq oo hM2 HE1
  clear c0
  clear c2
  have HN : Hid (WS w0 (l ++ cb v) x2 ∧ Lib.OthersKept 5 (some w0.heap.size) W x2):=(⟨by
    have e : l ++ cb v = M2:=by
      rw [show M2 = _ from HM2,show M1 = _ from HM1,show M0 = _ from HM0]
      unfold cb;rw [hk];simp
    rw [e];exact (show _ ∧ _ from HE2).1,(show Lib.OthersKept 5 (some w0.heap.size) W w9 from HOI).trans (show _ ∧ _ from HE2).2⟩ : _ ∧ _)
  clear HE2 HOI HB9
  try go_wp2_with fail
  exact ⟨rfl,.tuple #[],by simp [results,Tryz.results60],rfl,(show _ ∧ _ from HN).1,(show _ ∧ _ from HN).2⟩
theorem im_value4 {w0 W : World} {l : List UInt8} (v : Vv) (hk : v.k = 4) (hr : Rn v.m ∧ (v.x.size : Int) ≤ 1048576 ∧ v.g < 18446744073709551616 ∧ FloatKind.f64.format.order v.g v.g = some .eq) (hw : WS w0 l W) :
    Calls Tryz.prog 60 #[.pointer (some ⟨w0.heap.size,0,none⟩),.agg #[.int .i64 4,.int .i64 v.m,.float .f64 v.g,.string v.x,.int .i64 v.r]] W (WP w0 W (l ++ cb v)):=by
  obtain ⟨w9,hw9⟩ : ∃ w9,w9 = W.alloc (.cells #[.int .i64 4,.int .i64 v.m,.float .f64 v.g,.string v.x,.int .i64 v.r] 92):=⟨_,rfl⟩
  obtain ⟨g9,hg9⟩ : ∃ g9,g9 = W.heap.size:=⟨_,rfl⟩
  have k9 : Kb 0 W w9:=by rw [hw9];exact kb_alloc _ _ _
  have b9 : w9.heap[g9]? = some (.cells #[.int .i64 4,.int .i64 v.m,.float .f64 v.g,.string v.x,.int .i64 v.r] 92 (0,0)):=by rw [hw9,hg9];exact alloc_new _ _ _
  have hgb : g9 ≠ w0.heap.size:=by have:=hw.lt;omega
  have HB9 : Hid (∀ W',Lib.OthersKept 5 (some w0.heap.size) w9 W' → W'.heap[g9]? = some (.cells #[.int .i64 4,.int .i64 v.m,.float .f64 v.g,.string v.x,.int .i64 v.r] 92 (0,0))):=(fun W' k=>ok_cells k b9 (by simpa using hgb) (by decide) : ∀ W',_)
  have HW9 : Hid (w9 = W.alloc (.cells #[.int .i64 4,.int .i64 v.m,.float .f64 v.g,.string v.x,.int .i64 v.r] 92) ∧ g9 = W.heap.size):=(⟨hw9,hg9⟩ : _ ∧ _)
  have HOI : Hid (Lib.OthersKept 5 (some w0.heap.size) W w9):=ok_kb k9 _
  have HE0 : Hid (WS w0 l w9 ∧ Lib.OthersKept 5 (some w0.heap.size) w9 w9):=(⟨hw.call k9,Lib.OthersKept.refl _ _ _⟩ : _ ∧ _)
  obtain ⟨M0,hM0⟩ : ∃ M0,M0 = l:=⟨_,rfl⟩
  rw [← hM0] at HE0
  have HM0 : Hid (M0 = l):=hM0
  clear hw9 hg9 k9 b9 hw hgb hM0
  have hu8 : IntKind.u8.wrap 4 = 4:=by rw [wrap_u8];rfl
  go_enter Tryz.func60,Tryz.ntmps60
  go_upto_region 1 with fail
  rw [← (show w9 = _ ∧ _ from HW9).1]
  try rw [← (show w9 = _ ∧ _ from HW9).2]
  clear HW9
  obtain ⟨q0,o0⟩:=(show _ ∧ _ from HE0)
  have bx:=(show ∀ W',Lib.OthersKept 5 (some w0.heap.size) w9 W' → _ from HB9) w9 o0
  have c0 : w9.cell? ⟨g9,0,none⟩ = some (.int .i64 4):=cell_of bx rfl
  have HC:=im_put1 q0 4 4 rfl
  clear bx
  go_upto_region 2 with (go_at_call 24;refine HC.mono ?_;rintro e x1 ⟨rfl,qq,oo⟩)
  obtain ⟨M1,hM1⟩ : ∃ M1,M1 = M0 ++ [4]:=⟨_,rfl⟩
  rw [← hM1] at qq
  have HM1 : Hid (M1 = M0 ++ [4]):=hM1
  have HE1 : Hid (WS w0 M1 x1 ∧ Lib.OthersKept 5 (some w0.heap.size) w9 x1):=(⟨qq,o0.trans oo⟩ : _ ∧ _)
  clear HC q0 o0 qq oo hM1 HE0
  clear c0
  obtain ⟨q1,o1⟩:=(show _ ∧ _ from HE1)
  have bx:=(show ∀ W',Lib.OthersKept 5 (some w0.heap.size) w9 W' → _ from HB9) x1 o1
  have c0 : x1.cell? ⟨g9,0,none⟩ = some (.int .i64 4):=cell_of bx rfl
  have c3 : x1.cell? ⟨g9,3,none⟩ = some (.string v.x):=cell_of bx rfl
  have HC:=im_text v.x hr.2.1 q1
  clear bx
  go_wp2_with (go_at_call 55;refine HC.mono ?_;rintro e x2 ⟨rfl,qq,oo⟩)
  obtain ⟨M2,hM2⟩ : ∃ M2,M2 = M1 ++ tb v.x:=⟨_,rfl⟩
  rw [← hM2] at qq
  have HM2 : Hid (M2 = M1 ++ tb v.x):=hM2
  have HE2 : Hid (WS w0 M2 x2 ∧ Lib.OthersKept 5 (some w0.heap.size) w9 x2):=(⟨qq,o1.trans oo⟩ : _ ∧ _)
  clear HC q1 o1 qq oo hM2 HE1
  clear c0
  clear c3
  have HN : Hid (WS w0 (l ++ cb v) x2 ∧ Lib.OthersKept 5 (some w0.heap.size) W x2):=(⟨by
    have e : l ++ cb v = M2:=by
      rw [show M2 = _ from HM2,show M1 = _ from HM1,show M0 = _ from HM0]
      unfold cb;rw [hk];simp
    rw [e];exact (show _ ∧ _ from HE2).1,(show Lib.OthersKept 5 (some w0.heap.size) W w9 from HOI).trans (show _ ∧ _ from HE2).2⟩ : _ ∧ _)
  clear HE2 HOI HB9
  try go_wp2_with fail
  exact ⟨rfl,.tuple #[],by simp [results,Tryz.results60],rfl,(show _ ∧ _ from HN).1,(show _ ∧ _ from HN).2⟩
theorem im_value8 {w0 W : World} {l : List UInt8} (v : Vv) (hk : v.k = 8) (hr : Rn v.m ∧ (v.x.size : Int) ≤ 1048576 ∧ v.g < 18446744073709551616 ∧ FloatKind.f64.format.order v.g v.g = some .eq) (hw : WS w0 l W) :
    Calls Tryz.prog 60 #[.pointer (some ⟨w0.heap.size,0,none⟩),.agg #[.int .i64 8,.int .i64 v.m,.float .f64 v.g,.string v.x,.int .i64 v.r]] W (WP w0 W (l ++ cb v)):=by
  obtain ⟨w9,hw9⟩ : ∃ w9,w9 = W.alloc (.cells #[.int .i64 8,.int .i64 v.m,.float .f64 v.g,.string v.x,.int .i64 v.r] 92):=⟨_,rfl⟩
  obtain ⟨g9,hg9⟩ : ∃ g9,g9 = W.heap.size:=⟨_,rfl⟩
  have k9 : Kb 0 W w9:=by rw [hw9];exact kb_alloc _ _ _
  have b9 : w9.heap[g9]? = some (.cells #[.int .i64 8,.int .i64 v.m,.float .f64 v.g,.string v.x,.int .i64 v.r] 92 (0,0)):=by rw [hw9,hg9];exact alloc_new _ _ _
  have hgb : g9 ≠ w0.heap.size:=by have:=hw.lt;omega
  have HB9 : Hid (∀ W',Lib.OthersKept 5 (some w0.heap.size) w9 W' → W'.heap[g9]? = some (.cells #[.int .i64 8,.int .i64 v.m,.float .f64 v.g,.string v.x,.int .i64 v.r] 92 (0,0))):=(fun W' k=>ok_cells k b9 (by simpa using hgb) (by decide) : ∀ W',_)
  have HW9 : Hid (w9 = W.alloc (.cells #[.int .i64 8,.int .i64 v.m,.float .f64 v.g,.string v.x,.int .i64 v.r] 92) ∧ g9 = W.heap.size):=(⟨hw9,hg9⟩ : _ ∧ _)
  have HOI : Hid (Lib.OthersKept 5 (some w0.heap.size) W w9):=ok_kb k9 _
  have HE0 : Hid (WS w0 l w9 ∧ Lib.OthersKept 5 (some w0.heap.size) w9 w9):=(⟨hw.call k9,Lib.OthersKept.refl _ _ _⟩ : _ ∧ _)
  obtain ⟨M0,hM0⟩ : ∃ M0,M0 = l:=⟨_,rfl⟩
  rw [← hM0] at HE0
  have HM0 : Hid (M0 = l):=hM0
  clear hw9 hg9 k9 b9 hw hgb hM0
  have hu8 : IntKind.u8.wrap 8 = 8:=by rw [wrap_u8];rfl
  go_enter Tryz.func60,Tryz.ntmps60
  go_upto_region 1 with fail
  rw [← (show w9 = _ ∧ _ from HW9).1]
  try rw [← (show w9 = _ ∧ _ from HW9).2]
  clear HW9
  obtain ⟨q0,o0⟩:=(show _ ∧ _ from HE0)
  have bx:=(show ∀ W',Lib.OthersKept 5 (some w0.heap.size) w9 W' → _ from HB9) w9 o0
  have c0 : w9.cell? ⟨g9,0,none⟩ = some (.int .i64 8):=cell_of bx rfl
  have HC:=im_put1 q0 8 8 rfl
  clear bx
  go_upto_region 2 with (go_at_call 24;refine HC.mono ?_;rintro e x1 ⟨rfl,qq,oo⟩)
  obtain ⟨M1,hM1⟩ : ∃ M1,M1 = M0 ++ [8]:=⟨_,rfl⟩
  rw [← hM1] at qq
  have HM1 : Hid (M1 = M0 ++ [8]):=hM1
  have HE1 : Hid (WS w0 M1 x1 ∧ Lib.OthersKept 5 (some w0.heap.size) w9 x1):=(⟨qq,o0.trans oo⟩ : _ ∧ _)
  clear HC q0 o0 qq oo hM1 HE0
  clear c0
  obtain ⟨q1,o1⟩:=(show _ ∧ _ from HE1)
  have bx:=(show ∀ W',Lib.OthersKept 5 (some w0.heap.size) w9 W' → _ from HB9) x1 o1
  have c0 : x1.cell? ⟨g9,0,none⟩ = some (.int .i64 8):=cell_of bx rfl
  have c1 : x1.cell? ⟨g9,1,none⟩ = some (.int .i64 v.m):=cell_of bx rfl
  have HC:=im_num1 q1 [v.m] #[.int .i64 v.m] 1 rfl rfl (fun y hy=>by rw [List.mem_singleton] at hy;subst hy;exact hr.1) (by simp)
  clear bx
  go_wp2_with (go_at_call 53;refine HC.mono ?_;rintro e x2 ⟨rfl,qq,oo⟩)
  obtain ⟨M2,hM2⟩ : ∃ M2,M2 = M1 ++ nbs [v.m]:=⟨_,rfl⟩
  rw [← hM2] at qq
  have HM2 : Hid (M2 = M1 ++ nbs [v.m]):=hM2
  have HE2 : Hid (WS w0 M2 x2 ∧ Lib.OthersKept 5 (some w0.heap.size) w9 x2):=(⟨qq,o1.trans oo⟩ : _ ∧ _)
  clear HC q1 o1 qq oo hM2 HE1
  clear c0
  clear c1
  have HN : Hid (WS w0 (l ++ cb v) x2 ∧ Lib.OthersKept 5 (some w0.heap.size) W x2):=(⟨by
    have e : l ++ cb v = M2:=by
      rw [show M2 = _ from HM2,show M1 = _ from HM1,show M0 = _ from HM0]
      unfold cb;rw [hk];simp [nbs]
    rw [e];exact (show _ ∧ _ from HE2).1,(show Lib.OthersKept 5 (some w0.heap.size) W w9 from HOI).trans (show _ ∧ _ from HE2).2⟩ : _ ∧ _)
  clear HE2 HOI HB9
  try go_wp2_with fail
  exact ⟨rfl,.tuple #[],by simp [results,Tryz.results60],rfl,(show _ ∧ _ from HN).1,(show _ ∧ _ from HN).2⟩
theorem im_value {w0 W : World} {l : List UInt8} (v : Vv) (hc : Cok v) (hm : Rn v.m) (hx : (v.x.size : Int) ≤ 1048576) (hg : v.g < 18446744073709551616) (hw : WS w0 l W) :
    Calls Tryz.prog 60 #[.pointer (some ⟨w0.heap.size,0,none⟩),.agg #[.int .i64 v.k,.int .i64 v.m,.float .f64 v.g,.string v.x,.int .i64 v.r]] W (WP w0 W (l ++ cb v)):=by
  obtain ⟨h1,⟨n5,n6,n7⟩,h3,h4⟩:=hc
  have ho : FloatKind.f64.format.order v.g v.g = some .eq:=by
    by_cases k3 : v.k = 3
    · exact h3 k3
    · rw [h4 k3];decide
  rcases (by rcases h1 with h | h | h | h | h | h | h | h | h <;> omega : v.k = 0 ∨ v.k = 1 ∨ v.k = 2 ∨ v.k = 3 ∨ v.k = 4 ∨ v.k = 8) with h | h | h | h | h | h
  · rw [h];exact im_value0 v h ⟨hm,hx,hg,ho⟩ hw
  · rw [h];exact im_value1 v h ⟨hm,hx,hg,ho⟩ hw
  · rw [h];exact im_value2 v h ⟨hm,hx,hg,ho⟩ hw
  · rw [h];exact im_value3 v h ⟨hm,hx,hg,ho⟩ hw
  · rw [h];exact im_value4 v h ⟨hm,hx,hg,ho⟩ hw
  · rw [h];exact im_value8 v h ⟨hm,hx,hg,ho⟩ hw
end Go.Proofs.YtnmeemjoodoalaaGreatDoor.Fo
