import Derived.Test.YtnmeemjoodoalaaGreatDoorMEgf
set_option maxHeartbeats 8000000
namespace Go.Proofs.YtnmeemjoodoalaaGreatDoor.Fo
open Go.ChangeShapes Go.WideShapes Go.ChangeAt Go.RowKit
set_option linter.unusedVariables false
set_option maxRecDepth 100000
theorem sp_const0 {w0 W : World} {l : List UInt8} {vo : Value} (v : Vv) (hk : v.k = 0) (hm : -9223372036854775808 ≤ v.m ∧ v.m ≤ 9223372036854775807) (hx : (v.x.size : Int) ≤ 1048576) (hbits : ∀ W : World, Calls Tryz.prog 100 #[.float .f64 v.g] W fun e w' => e = .returned (.int .u64 (v.g : Int)) ∧ Kb 0 W w') (hg : v.g < 18446744073709551616) (hq : QK w0 l vo W) (hl : l.length ≤ 80000000000000) :
    Calls Tryz.prog 42 #[vo,.agg #[.int .i64 0,.int .i64 v.m,.float .f64 v.g,.string v.x,.int .i64 v.r]] W (AP w0 W (l ++ cb v)):=by
  obtain ⟨i0,hi0,hz0,hz1,hz2⟩:=info_parts info5
  have HI0 : Hid (Tryz.prog.info? 5 = some i0):=hi0
  obtain ⟨w1,hw1⟩ : ∃ w1,w1 = W.alloc (.cells #[.int .i64 0,.int .i64 v.m,.float .f64 v.g,.string v.x,.int .i64 v.r] 92):=⟨_,rfl⟩
  have k1 : Kb 0 W w1:=by rw [hw1];exact kb_alloc _ _ _
  obtain ⟨g1,hg1⟩ : ∃ g1,g1 = W.heap.size:=⟨_,rfl⟩
  have b1 : w1.heap[g1]? = some (.cells #[.int .i64 0,.int .i64 v.m,.float .f64 v.g,.string v.x,.int .i64 v.r] 92 (0,0)):=by rw [hw1,hg1];exact alloc_new _ _ _
  have hq1:=hq.call k1
  have HW1 : Hid (w1 = W.alloc (.cells #[.int .i64 0,.int .i64 v.m,.float .f64 v.g,.string v.x,.int .i64 v.r] 92) ∧ g1 = W.heap.size):=(⟨hw1,hg1⟩ : _ ∧ _)
  have howna : ∀ o : Obj,(w1.alloc o).ownsRow w0.heap.size 5 1 vo l.length (Lib.byteCells l):=fun o=>hq1.1.alloc o
  have hsz:=hq1.2.size
  have HADD : Hid (∀ (o : Obj) (v2 : Value) (w5 : World),w5.ownsRow w0.heap.size 5 1 v2 (l.length + 1) (Lib.byteCells l ++ [.int .u8 0]) → (w1.alloc o).grownBy w5 vo.ownBlock → (QK w0 (l ++ [0]) v2 w5 ∧ Lib.OthersKept 5 none W w5) ∧ w5.heap[g1]? = some (.cells #[.int .i64 0,.int .i64 v.m,.float .f64 v.g,.string v.x,.int .i64 v.r] 92 (0,0))):=(fun o v2 w5 ho hg=>by
    have h1:=qk_push hq1 (Lib.OthersKept.refl _ _ w1) 0 0 rfl o v2 w5 ho hg
    exact ⟨⟨h1.1,(ok_kb k1 none).trans h1.2⟩,ok_cells h1.2 b1 (by simp) (by decide)⟩ : ∀ (o : Obj),_)
  have c0 : w1.cell? ⟨g1,0,none⟩ = some (.int .i64 0):=cell_of b1 rfl
  have HV : Hid (v.k = 0 ∧ (-9223372036854775808 ≤ v.m ∧ v.m ≤ 9223372036854775807) ∧ (v.x.size : Int) ≤ 1048576 ∧ (∀ W : World,Calls Tryz.prog 100 #[.float .f64 v.g] W fun e w'=>e = .returned (.int .u64 (v.g : Int)) ∧ Kb 0 W w') ∧ v.g < 18446744073709551616 ∧ l.length ≤ 80000000000000):=(⟨hk,hm,hx,hbits,hg,hl⟩ : _ ∧ _)
  have hu8 : IntKind.u8.wrap 0 = 0:=by rw [wrap_u8];rfl
  clear hi0 hq hq1 hw1 hg1 b1 k1 hk hm hx hbits hg
  go_enter Tryz.func42,Tryz.ntmps42
  go_upto_region 1 with fail
  rw [← (show w1 = _ ∧ _ from HW1).1]
  try rw [← (show w1 = _ ∧ _ from HW1).2]
  clear HW1
  go_upto_region 2 with (at_builtin;refine wpList_append_own _ rfl (.tmp 7) (.tmp 11) 26 rfl w0.heap.size 5 i0 (.int .u8 0) 1 1 Tryz.underlying26 HI0 hz0 hz1 hz2 rfl (by decide) _ _ _ rfl (howna _) ⟨w1.heap.size,0,none⟩ 1 1 [.int .u8 0] rfl rfl (qr_cells w1 #[.int .u8 0] 5 _ rfl) (bc_lit _) (by unfold maxLen;omega) (by omega) (by simp;omega) ?_;intro v2 w5 hown1 hgrow1 _)
  obtain ⟨⟨q2,o2⟩,b5⟩:=(show ∀ (o : Obj) (v2 : Value) (w5 : World),_ → _ → _ from HADD) _ _ _ hown1 hgrow1
  clear HADD hown1 hgrow1 howna c0 hu8
  obtain ⟨hk,hm,hx,hbits,hg,hl⟩:=(show _ ∧ _ ∧ _ ∧ _ ∧ _ ∧ _ from HV)
  have c0 : w5.cell? ⟨g1,0,none⟩ = some (.int .i64 0):=cell_of b5 rfl
  have c1 : w5.cell? ⟨g1,1,none⟩ = some (.int .i64 v.m):=cell_of b5 rfl
  have c2 : w5.cell? ⟨g1,2,none⟩ = some (.float .f64 v.g):=cell_of b5 rfl
  have c3 : w5.cell? ⟨g1,3,none⟩ = some (.string v.x):=cell_of b5 rfl
  have hle : (l ++ [(0 : UInt8)]).length ≤ 80000000000001:=by rw [List.length_append];simp;omega
  have HN : Hid (QK w0 (l ++ cb v) v2 w5 ∧ Lib.OthersKept 5 none W w5):=(⟨by rw [show cb v = [0] by unfold cb;rw [hk];rfl];exact q2,o2⟩ : _ ∧ _)
  clear HV hk hm hx hbits hg hl q2 o2 hle b5 c1 c2 c3
  go_wp2_with fail
  go_ret
  exact ⟨v2,rfl,HN.1,HN.2⟩
theorem sp_const1 {w0 W : World} {l : List UInt8} {vo : Value} (v : Vv) (hk : v.k = 1) (hm : -9223372036854775808 ≤ v.m ∧ v.m ≤ 9223372036854775807) (hx : (v.x.size : Int) ≤ 1048576) (hbits : ∀ W : World, Calls Tryz.prog 100 #[.float .f64 v.g] W fun e w' => e = .returned (.int .u64 (v.g : Int)) ∧ Kb 0 W w') (hg : v.g < 18446744073709551616) (hq : QK w0 l vo W) (hl : l.length ≤ 80000000000000) :
    Calls Tryz.prog 42 #[vo,.agg #[.int .i64 1,.int .i64 v.m,.float .f64 v.g,.string v.x,.int .i64 v.r]] W (AP w0 W (l ++ cb v)):=by
  obtain ⟨i0,hi0,hz0,hz1,hz2⟩:=info_parts info5
  have HI0 : Hid (Tryz.prog.info? 5 = some i0):=hi0
  obtain ⟨w1,hw1⟩ : ∃ w1,w1 = W.alloc (.cells #[.int .i64 1,.int .i64 v.m,.float .f64 v.g,.string v.x,.int .i64 v.r] 92):=⟨_,rfl⟩
  have k1 : Kb 0 W w1:=by rw [hw1];exact kb_alloc _ _ _
  obtain ⟨g1,hg1⟩ : ∃ g1,g1 = W.heap.size:=⟨_,rfl⟩
  have b1 : w1.heap[g1]? = some (.cells #[.int .i64 1,.int .i64 v.m,.float .f64 v.g,.string v.x,.int .i64 v.r] 92 (0,0)):=by rw [hw1,hg1];exact alloc_new _ _ _
  have hq1:=hq.call k1
  have HW1 : Hid (w1 = W.alloc (.cells #[.int .i64 1,.int .i64 v.m,.float .f64 v.g,.string v.x,.int .i64 v.r] 92) ∧ g1 = W.heap.size):=(⟨hw1,hg1⟩ : _ ∧ _)
  have howna : ∀ o : Obj,(w1.alloc o).ownsRow w0.heap.size 5 1 vo l.length (Lib.byteCells l):=fun o=>hq1.1.alloc o
  have hsz:=hq1.2.size
  have HADD : Hid (∀ (o : Obj) (v2 : Value) (w5 : World),w5.ownsRow w0.heap.size 5 1 v2 (l.length + 1) (Lib.byteCells l ++ [.int .u8 1]) → (w1.alloc o).grownBy w5 vo.ownBlock → (QK w0 (l ++ [1]) v2 w5 ∧ Lib.OthersKept 5 none W w5) ∧ w5.heap[g1]? = some (.cells #[.int .i64 1,.int .i64 v.m,.float .f64 v.g,.string v.x,.int .i64 v.r] 92 (0,0))):=(fun o v2 w5 ho hg=>by
    have h1:=qk_push hq1 (Lib.OthersKept.refl _ _ w1) 1 1 rfl o v2 w5 ho hg
    exact ⟨⟨h1.1,(ok_kb k1 none).trans h1.2⟩,ok_cells h1.2 b1 (by simp) (by decide)⟩ : ∀ (o : Obj),_)
  have c0 : w1.cell? ⟨g1,0,none⟩ = some (.int .i64 1):=cell_of b1 rfl
  have HV : Hid (v.k = 1 ∧ (-9223372036854775808 ≤ v.m ∧ v.m ≤ 9223372036854775807) ∧ (v.x.size : Int) ≤ 1048576 ∧ (∀ W : World,Calls Tryz.prog 100 #[.float .f64 v.g] W fun e w'=>e = .returned (.int .u64 (v.g : Int)) ∧ Kb 0 W w') ∧ v.g < 18446744073709551616 ∧ l.length ≤ 80000000000000):=(⟨hk,hm,hx,hbits,hg,hl⟩ : _ ∧ _)
  have hu8 : IntKind.u8.wrap 1 = 1:=by rw [wrap_u8];rfl
  clear hi0 hq hq1 hw1 hg1 b1 k1 hk hm hx hbits hg
  go_enter Tryz.func42,Tryz.ntmps42
  go_upto_region 1 with fail
  rw [← (show w1 = _ ∧ _ from HW1).1]
  try rw [← (show w1 = _ ∧ _ from HW1).2]
  clear HW1
  go_upto_region 2 with (at_builtin;refine wpList_append_own _ rfl (.tmp 7) (.tmp 11) 26 rfl w0.heap.size 5 i0 (.int .u8 0) 1 1 Tryz.underlying26 HI0 hz0 hz1 hz2 rfl (by decide) _ _ _ rfl (howna _) ⟨w1.heap.size,0,none⟩ 1 1 [.int .u8 1] rfl rfl (qr_cells w1 #[.int .u8 1] 5 _ rfl) (bc_lit _) (by unfold maxLen;omega) (by omega) (by simp;omega) ?_;intro v2 w5 hown1 hgrow1 _)
  obtain ⟨⟨q2,o2⟩,b5⟩:=(show ∀ (o : Obj) (v2 : Value) (w5 : World),_ → _ → _ from HADD) _ _ _ hown1 hgrow1
  clear HADD hown1 hgrow1 howna c0 hu8
  obtain ⟨hk,hm,hx,hbits,hg,hl⟩:=(show _ ∧ _ ∧ _ ∧ _ ∧ _ ∧ _ from HV)
  have c0 : w5.cell? ⟨g1,0,none⟩ = some (.int .i64 1):=cell_of b5 rfl
  have c1 : w5.cell? ⟨g1,1,none⟩ = some (.int .i64 v.m):=cell_of b5 rfl
  have c2 : w5.cell? ⟨g1,2,none⟩ = some (.float .f64 v.g):=cell_of b5 rfl
  have c3 : w5.cell? ⟨g1,3,none⟩ = some (.string v.x):=cell_of b5 rfl
  have hle : (l ++ [(1 : UInt8)]).length ≤ 80000000000001:=by rw [List.length_append];simp;omega
  have HC:=sp_num v.m hm.1 hm.2 q2 (by omega)
  have HE : Hid (cb v = [1] ++ nb v.m ∧ Lib.OthersKept 5 none W w5):=(⟨by unfold cb;rw [hk];rfl,o2⟩ : _ ∧ _)
  clear HV hk hm hx hbits hg hl q2 o2 hle b5
  go_wp2_with fail
  refine HC.mono ?_
  rintro e w6 ⟨v6,rfl,q6,o6⟩
  obtain ⟨he,o2⟩:=(show _ ∧ _ from HE)
  have HN : Hid (QK w0 (l ++ cb v) v6 w6 ∧ Lib.OthersKept 5 none W w6):=(⟨by rw [he,← List.append_assoc];exact q6,o2.trans o6⟩ : _ ∧ _)
  clear HC q6 o6 HE he o2 c0 c1 c2 c3
  go_wp2_with fail
  go_ret
  exact ⟨v6,rfl,HN.1,HN.2⟩
theorem sp_const2 {w0 W : World} {l : List UInt8} {vo : Value} (v : Vv) (hk : v.k = 2) (hm : -9223372036854775808 ≤ v.m ∧ v.m ≤ 9223372036854775807) (hx : (v.x.size : Int) ≤ 1048576) (hbits : ∀ W : World, Calls Tryz.prog 100 #[.float .f64 v.g] W fun e w' => e = .returned (.int .u64 (v.g : Int)) ∧ Kb 0 W w') (hg : v.g < 18446744073709551616) (hq : QK w0 l vo W) (hl : l.length ≤ 80000000000000) :
    Calls Tryz.prog 42 #[vo,.agg #[.int .i64 2,.int .i64 v.m,.float .f64 v.g,.string v.x,.int .i64 v.r]] W (AP w0 W (l ++ cb v)):=by
  obtain ⟨i0,hi0,hz0,hz1,hz2⟩:=info_parts info5
  have HI0 : Hid (Tryz.prog.info? 5 = some i0):=hi0
  obtain ⟨w1,hw1⟩ : ∃ w1,w1 = W.alloc (.cells #[.int .i64 2,.int .i64 v.m,.float .f64 v.g,.string v.x,.int .i64 v.r] 92):=⟨_,rfl⟩
  have k1 : Kb 0 W w1:=by rw [hw1];exact kb_alloc _ _ _
  obtain ⟨g1,hg1⟩ : ∃ g1,g1 = W.heap.size:=⟨_,rfl⟩
  have b1 : w1.heap[g1]? = some (.cells #[.int .i64 2,.int .i64 v.m,.float .f64 v.g,.string v.x,.int .i64 v.r] 92 (0,0)):=by rw [hw1,hg1];exact alloc_new _ _ _
  have hq1:=hq.call k1
  have HW1 : Hid (w1 = W.alloc (.cells #[.int .i64 2,.int .i64 v.m,.float .f64 v.g,.string v.x,.int .i64 v.r] 92) ∧ g1 = W.heap.size):=(⟨hw1,hg1⟩ : _ ∧ _)
  have howna : ∀ o : Obj,(w1.alloc o).ownsRow w0.heap.size 5 1 vo l.length (Lib.byteCells l):=fun o=>hq1.1.alloc o
  have hsz:=hq1.2.size
  have HADD : Hid (∀ (o : Obj) (v2 : Value) (w5 : World),w5.ownsRow w0.heap.size 5 1 v2 (l.length + 1) (Lib.byteCells l ++ [.int .u8 2]) → (w1.alloc o).grownBy w5 vo.ownBlock → (QK w0 (l ++ [2]) v2 w5 ∧ Lib.OthersKept 5 none W w5) ∧ w5.heap[g1]? = some (.cells #[.int .i64 2,.int .i64 v.m,.float .f64 v.g,.string v.x,.int .i64 v.r] 92 (0,0))):=(fun o v2 w5 ho hg=>by
    have h1:=qk_push hq1 (Lib.OthersKept.refl _ _ w1) 2 2 rfl o v2 w5 ho hg
    exact ⟨⟨h1.1,(ok_kb k1 none).trans h1.2⟩,ok_cells h1.2 b1 (by simp) (by decide)⟩ : ∀ (o : Obj),_)
  have c0 : w1.cell? ⟨g1,0,none⟩ = some (.int .i64 2):=cell_of b1 rfl
  have HV : Hid (v.k = 2 ∧ (-9223372036854775808 ≤ v.m ∧ v.m ≤ 9223372036854775807) ∧ (v.x.size : Int) ≤ 1048576 ∧ (∀ W : World,Calls Tryz.prog 100 #[.float .f64 v.g] W fun e w'=>e = .returned (.int .u64 (v.g : Int)) ∧ Kb 0 W w') ∧ v.g < 18446744073709551616 ∧ l.length ≤ 80000000000000):=(⟨hk,hm,hx,hbits,hg,hl⟩ : _ ∧ _)
  have hu8 : IntKind.u8.wrap 2 = 2:=by rw [wrap_u8];rfl
  clear hi0 hq hq1 hw1 hg1 b1 k1 hk hm hx hbits hg
  go_enter Tryz.func42,Tryz.ntmps42
  go_upto_region 1 with fail
  rw [← (show w1 = _ ∧ _ from HW1).1]
  try rw [← (show w1 = _ ∧ _ from HW1).2]
  clear HW1
  go_upto_region 2 with (at_builtin;refine wpList_append_own _ rfl (.tmp 7) (.tmp 11) 26 rfl w0.heap.size 5 i0 (.int .u8 0) 1 1 Tryz.underlying26 HI0 hz0 hz1 hz2 rfl (by decide) _ _ _ rfl (howna _) ⟨w1.heap.size,0,none⟩ 1 1 [.int .u8 2] rfl rfl (qr_cells w1 #[.int .u8 2] 5 _ rfl) (bc_lit _) (by unfold maxLen;omega) (by omega) (by simp;omega) ?_;intro v2 w5 hown1 hgrow1 _)
  obtain ⟨⟨q2,o2⟩,b5⟩:=(show ∀ (o : Obj) (v2 : Value) (w5 : World),_ → _ → _ from HADD) _ _ _ hown1 hgrow1
  clear HADD hown1 hgrow1 howna c0 hu8
  obtain ⟨hk,hm,hx,hbits,hg,hl⟩:=(show _ ∧ _ ∧ _ ∧ _ ∧ _ ∧ _ from HV)
  have c0 : w5.cell? ⟨g1,0,none⟩ = some (.int .i64 2):=cell_of b5 rfl
  have c1 : w5.cell? ⟨g1,1,none⟩ = some (.int .i64 v.m):=cell_of b5 rfl
  have c2 : w5.cell? ⟨g1,2,none⟩ = some (.float .f64 v.g):=cell_of b5 rfl
  have c3 : w5.cell? ⟨g1,3,none⟩ = some (.string v.x):=cell_of b5 rfl
  have hle : (l ++ [(2 : UInt8)]).length ≤ 80000000000001:=by rw [List.length_append];simp;omega
  have HC:=sp_num v.m hm.1 hm.2 q2 (by omega)
  have HE : Hid (cb v = [2] ++ nb v.m ∧ Lib.OthersKept 5 none W w5):=(⟨by unfold cb;rw [hk];rfl,o2⟩ : _ ∧ _)
  clear HV hk hm hx hbits hg hl q2 o2 hle b5
  go_wp2_with fail
  refine HC.mono ?_
  rintro e w6 ⟨v6,rfl,q6,o6⟩
  obtain ⟨he,o2⟩:=(show _ ∧ _ from HE)
  have HN : Hid (QK w0 (l ++ cb v) v6 w6 ∧ Lib.OthersKept 5 none W w6):=(⟨by rw [he,← List.append_assoc];exact q6,o2.trans o6⟩ : _ ∧ _)
  clear HC q6 o6 HE he o2 c0 c1 c2 c3
  go_wp2_with fail
  go_ret
  exact ⟨v6,rfl,HN.1,HN.2⟩
theorem sp_const4 {w0 W : World} {l : List UInt8} {vo : Value} (v : Vv) (hk : v.k = 4) (hm : -9223372036854775808 ≤ v.m ∧ v.m ≤ 9223372036854775807) (hx : (v.x.size : Int) ≤ 1048576) (hbits : ∀ W : World, Calls Tryz.prog 100 #[.float .f64 v.g] W fun e w' => e = .returned (.int .u64 (v.g : Int)) ∧ Kb 0 W w') (hg : v.g < 18446744073709551616) (hq : QK w0 l vo W) (hl : l.length ≤ 80000000000000) :
    Calls Tryz.prog 42 #[vo,.agg #[.int .i64 4,.int .i64 v.m,.float .f64 v.g,.string v.x,.int .i64 v.r]] W (AP w0 W (l ++ cb v)):=by
  obtain ⟨i0,hi0,hz0,hz1,hz2⟩:=info_parts info5
  have HI0 : Hid (Tryz.prog.info? 5 = some i0):=hi0
  obtain ⟨w1,hw1⟩ : ∃ w1,w1 = W.alloc (.cells #[.int .i64 4,.int .i64 v.m,.float .f64 v.g,.string v.x,.int .i64 v.r] 92):=⟨_,rfl⟩
  have k1 : Kb 0 W w1:=by rw [hw1];exact kb_alloc _ _ _
  obtain ⟨g1,hg1⟩ : ∃ g1,g1 = W.heap.size:=⟨_,rfl⟩
  have b1 : w1.heap[g1]? = some (.cells #[.int .i64 4,.int .i64 v.m,.float .f64 v.g,.string v.x,.int .i64 v.r] 92 (0,0)):=by rw [hw1,hg1];exact alloc_new _ _ _
  have hq1:=hq.call k1
  have HW1 : Hid (w1 = W.alloc (.cells #[.int .i64 4,.int .i64 v.m,.float .f64 v.g,.string v.x,.int .i64 v.r] 92) ∧ g1 = W.heap.size):=(⟨hw1,hg1⟩ : _ ∧ _)
  have howna : ∀ o : Obj,(w1.alloc o).ownsRow w0.heap.size 5 1 vo l.length (Lib.byteCells l):=fun o=>hq1.1.alloc o
  have hsz:=hq1.2.size
  have HADD : Hid (∀ (o : Obj) (v2 : Value) (w5 : World),w5.ownsRow w0.heap.size 5 1 v2 (l.length + 1) (Lib.byteCells l ++ [.int .u8 4]) → (w1.alloc o).grownBy w5 vo.ownBlock → (QK w0 (l ++ [4]) v2 w5 ∧ Lib.OthersKept 5 none W w5) ∧ w5.heap[g1]? = some (.cells #[.int .i64 4,.int .i64 v.m,.float .f64 v.g,.string v.x,.int .i64 v.r] 92 (0,0))):=(fun o v2 w5 ho hg=>by
    have h1:=qk_push hq1 (Lib.OthersKept.refl _ _ w1) 4 4 rfl o v2 w5 ho hg
    exact ⟨⟨h1.1,(ok_kb k1 none).trans h1.2⟩,ok_cells h1.2 b1 (by simp) (by decide)⟩ : ∀ (o : Obj),_)
  have c0 : w1.cell? ⟨g1,0,none⟩ = some (.int .i64 4):=cell_of b1 rfl
  have HV : Hid (v.k = 4 ∧ (-9223372036854775808 ≤ v.m ∧ v.m ≤ 9223372036854775807) ∧ (v.x.size : Int) ≤ 1048576 ∧ (∀ W : World,Calls Tryz.prog 100 #[.float .f64 v.g] W fun e w'=>e = .returned (.int .u64 (v.g : Int)) ∧ Kb 0 W w') ∧ v.g < 18446744073709551616 ∧ l.length ≤ 80000000000000):=(⟨hk,hm,hx,hbits,hg,hl⟩ : _ ∧ _)
  have hu8 : IntKind.u8.wrap 4 = 4:=by rw [wrap_u8];rfl
  clear hi0 hq hq1 hw1 hg1 b1 k1 hk hm hx hbits hg
  go_enter Tryz.func42,Tryz.ntmps42
  go_upto_region 1 with fail
  rw [← (show w1 = _ ∧ _ from HW1).1]
  try rw [← (show w1 = _ ∧ _ from HW1).2]
  clear HW1
  go_upto_region 2 with (at_builtin;refine wpList_append_own _ rfl (.tmp 7) (.tmp 11) 26 rfl w0.heap.size 5 i0 (.int .u8 0) 1 1 Tryz.underlying26 HI0 hz0 hz1 hz2 rfl (by decide) _ _ _ rfl (howna _) ⟨w1.heap.size,0,none⟩ 1 1 [.int .u8 4] rfl rfl (qr_cells w1 #[.int .u8 4] 5 _ rfl) (bc_lit _) (by unfold maxLen;omega) (by omega) (by simp;omega) ?_;intro v2 w5 hown1 hgrow1 _)
  obtain ⟨⟨q2,o2⟩,b5⟩:=(show ∀ (o : Obj) (v2 : Value) (w5 : World),_ → _ → _ from HADD) _ _ _ hown1 hgrow1
  clear HADD hown1 hgrow1 howna c0 hu8
  obtain ⟨hk,hm,hx,hbits,hg,hl⟩:=(show _ ∧ _ ∧ _ ∧ _ ∧ _ ∧ _ from HV)
  have c0 : w5.cell? ⟨g1,0,none⟩ = some (.int .i64 4):=cell_of b5 rfl
  have c1 : w5.cell? ⟨g1,1,none⟩ = some (.int .i64 v.m):=cell_of b5 rfl
  have c2 : w5.cell? ⟨g1,2,none⟩ = some (.float .f64 v.g):=cell_of b5 rfl
  have c3 : w5.cell? ⟨g1,3,none⟩ = some (.string v.x):=cell_of b5 rfl
  have hle : (l ++ [(4 : UInt8)]).length ≤ 80000000000001:=by rw [List.length_append];simp;omega
  have HC:=sp_text v.x hx q2 (by omega)
  have HE : Hid (cb v = [4] ++ tb v.x ∧ Lib.OthersKept 5 none W w5):=(⟨by unfold cb;rw [hk];rfl,o2⟩ : _ ∧ _)
  clear HV hk hm hx hbits hg hl q2 o2 hle b5
  go_wp2_with fail
  refine HC.mono ?_
  rintro e w6 ⟨v6,rfl,q6,o6⟩
  obtain ⟨he,o2⟩:=(show _ ∧ _ from HE)
  have HN : Hid (QK w0 (l ++ cb v) v6 w6 ∧ Lib.OthersKept 5 none W w6):=(⟨by rw [he,← List.append_assoc];exact q6,o2.trans o6⟩ : _ ∧ _)
  clear HC q6 o6 HE he o2 c0 c1 c2 c3
  go_wp2_with fail
  go_ret
  exact ⟨v6,rfl,HN.1,HN.2⟩
theorem sp_const8 {w0 W : World} {l : List UInt8} {vo : Value} (v : Vv) (hk : v.k = 8) (hm : -9223372036854775808 ≤ v.m ∧ v.m ≤ 9223372036854775807) (hx : (v.x.size : Int) ≤ 1048576) (hbits : ∀ W : World, Calls Tryz.prog 100 #[.float .f64 v.g] W fun e w' => e = .returned (.int .u64 (v.g : Int)) ∧ Kb 0 W w') (hg : v.g < 18446744073709551616) (hq : QK w0 l vo W) (hl : l.length ≤ 80000000000000) :
    Calls Tryz.prog 42 #[vo,.agg #[.int .i64 8,.int .i64 v.m,.float .f64 v.g,.string v.x,.int .i64 v.r]] W (AP w0 W (l ++ cb v)):=by
  obtain ⟨i0,hi0,hz0,hz1,hz2⟩:=info_parts info5
  have HI0 : Hid (Tryz.prog.info? 5 = some i0):=hi0
  obtain ⟨w1,hw1⟩ : ∃ w1,w1 = W.alloc (.cells #[.int .i64 8,.int .i64 v.m,.float .f64 v.g,.string v.x,.int .i64 v.r] 92):=⟨_,rfl⟩
  have k1 : Kb 0 W w1:=by rw [hw1];exact kb_alloc _ _ _
  obtain ⟨g1,hg1⟩ : ∃ g1,g1 = W.heap.size:=⟨_,rfl⟩
  have b1 : w1.heap[g1]? = some (.cells #[.int .i64 8,.int .i64 v.m,.float .f64 v.g,.string v.x,.int .i64 v.r] 92 (0,0)):=by rw [hw1,hg1];exact alloc_new _ _ _
  have hq1:=hq.call k1
  have HW1 : Hid (w1 = W.alloc (.cells #[.int .i64 8,.int .i64 v.m,.float .f64 v.g,.string v.x,.int .i64 v.r] 92) ∧ g1 = W.heap.size):=(⟨hw1,hg1⟩ : _ ∧ _)
  have howna : ∀ o : Obj,(w1.alloc o).ownsRow w0.heap.size 5 1 vo l.length (Lib.byteCells l):=fun o=>hq1.1.alloc o
  have hsz:=hq1.2.size
  have HADD : Hid (∀ (o : Obj) (v2 : Value) (w5 : World),w5.ownsRow w0.heap.size 5 1 v2 (l.length + 1) (Lib.byteCells l ++ [.int .u8 8]) → (w1.alloc o).grownBy w5 vo.ownBlock → (QK w0 (l ++ [8]) v2 w5 ∧ Lib.OthersKept 5 none W w5) ∧ w5.heap[g1]? = some (.cells #[.int .i64 8,.int .i64 v.m,.float .f64 v.g,.string v.x,.int .i64 v.r] 92 (0,0))):=(fun o v2 w5 ho hg=>by
    have h1:=qk_push hq1 (Lib.OthersKept.refl _ _ w1) 8 8 rfl o v2 w5 ho hg
    exact ⟨⟨h1.1,(ok_kb k1 none).trans h1.2⟩,ok_cells h1.2 b1 (by simp) (by decide)⟩ : ∀ (o : Obj),_)
  have c0 : w1.cell? ⟨g1,0,none⟩ = some (.int .i64 8):=cell_of b1 rfl
  have HV : Hid (v.k = 8 ∧ (-9223372036854775808 ≤ v.m ∧ v.m ≤ 9223372036854775807) ∧ (v.x.size : Int) ≤ 1048576 ∧ (∀ W : World,Calls Tryz.prog 100 #[.float .f64 v.g] W fun e w'=>e = .returned (.int .u64 (v.g : Int)) ∧ Kb 0 W w') ∧ v.g < 18446744073709551616 ∧ l.length ≤ 80000000000000):=(⟨hk,hm,hx,hbits,hg,hl⟩ : _ ∧ _)
  have hu8 : IntKind.u8.wrap 8 = 8:=by rw [wrap_u8];rfl
  clear hi0 hq hq1 hw1 hg1 b1 k1 hk hm hx hbits hg
  go_enter Tryz.func42,Tryz.ntmps42
  go_upto_region 1 with fail
  rw [← (show w1 = _ ∧ _ from HW1).1]
  try rw [← (show w1 = _ ∧ _ from HW1).2]
  clear HW1
  go_upto_region 2 with (at_builtin;refine wpList_append_own _ rfl (.tmp 7) (.tmp 11) 26 rfl w0.heap.size 5 i0 (.int .u8 0) 1 1 Tryz.underlying26 HI0 hz0 hz1 hz2 rfl (by decide) _ _ _ rfl (howna _) ⟨w1.heap.size,0,none⟩ 1 1 [.int .u8 8] rfl rfl (qr_cells w1 #[.int .u8 8] 5 _ rfl) (bc_lit _) (by unfold maxLen;omega) (by omega) (by simp;omega) ?_;intro v2 w5 hown1 hgrow1 _)
  obtain ⟨⟨q2,o2⟩,b5⟩:=(show ∀ (o : Obj) (v2 : Value) (w5 : World),_ → _ → _ from HADD) _ _ _ hown1 hgrow1
  clear HADD hown1 hgrow1 howna c0 hu8
  obtain ⟨hk,hm,hx,hbits,hg,hl⟩:=(show _ ∧ _ ∧ _ ∧ _ ∧ _ ∧ _ from HV)
  have c0 : w5.cell? ⟨g1,0,none⟩ = some (.int .i64 8):=cell_of b5 rfl
  have c1 : w5.cell? ⟨g1,1,none⟩ = some (.int .i64 v.m):=cell_of b5 rfl
  have c2 : w5.cell? ⟨g1,2,none⟩ = some (.float .f64 v.g):=cell_of b5 rfl
  have c3 : w5.cell? ⟨g1,3,none⟩ = some (.string v.x):=cell_of b5 rfl
  have hle : (l ++ [(8 : UInt8)]).length ≤ 80000000000001:=by rw [List.length_append];simp;omega
  have HC:=sp_num v.m hm.1 hm.2 q2 (by omega)
  have HE : Hid (cb v = [8] ++ nb v.m ∧ Lib.OthersKept 5 none W w5):=(⟨by unfold cb;rw [hk];rfl,o2⟩ : _ ∧ _)
  clear HV hk hm hx hbits hg hl q2 o2 hle b5
  go_wp2_with fail
  refine HC.mono ?_
  rintro e w6 ⟨v6,rfl,q6,o6⟩
  obtain ⟨he,o2⟩:=(show _ ∧ _ from HE)
  have HN : Hid (QK w0 (l ++ cb v) v6 w6 ∧ Lib.OthersKept 5 none W w6):=(⟨by rw [he,← List.append_assoc];exact q6,o2.trans o6⟩ : _ ∧ _)
  clear HC q6 o6 HE he o2 c0 c1 c2 c3
  go_wp2_with fail
  go_ret
  exact ⟨v6,rfl,HN.1,HN.2⟩
end Go.Proofs.YtnmeemjoodoalaaGreatDoor.Fo
