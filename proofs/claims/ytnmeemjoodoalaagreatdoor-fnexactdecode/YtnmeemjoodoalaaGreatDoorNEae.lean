import Derived.Test.YtnmeemjoodoalaaGreatDoorNQka
set_option maxHeartbeats 8000000
namespace Go.Proofs.YtnmeemjoodoalaaGreatDoor.Fo
open Go.ChangeShapes Go.WideShapes Go.ChangeAt Go.RowKit
set_option linter.unusedVariables false
set_option maxRecDepth 100000
theorem sp_const0 {w0 W : World} {l : List UInt8} {vo : Value} (v : Vv) (hk : v.k = 0) (hm : -9223372036854775808 ≤ v.m ∧ v.m ≤ 9223372036854775807) (hx : (v.x.size : Int) ≤ 1048576) (hbits : ∀ W : World, Calls Tryz.prog 100 #[.float .f64 v.g] W fun e w' => e = .returned (.int .u64 (v.g : Int)) ∧ Kb 0 W w') (hg : v.g < 18446744073709551616) (hq : QK w0 l vo W) (hl : l.length ≤ 80000000000000) :
    Calls Tryz.prog 42 #[vo,.agg #[.int .i64 0,.int .i64 v.m,.float .f64 v.g,.string v.x,.int .i64 v.r]] W (AP w0 W (l ++ cb v)):=by
  obtain ⟨i0,hi0,hz0,hz1,hz2⟩:=info_parts info5
  have HI0 : Hid (Tryz.prog.info? 5 = some i0):=hi0
  obtain ⟨w1,hw1⟩ : ∃ w1,w1 = W.alloc (.cells #[.int .i64 0,.int .i64 v.m,.float .f64 v.g,.string v.x,.int .i64 v.r] 92):=⟨_,rfl⟩
  have k1 : Kb 0 W w1:=by rw [hw1];exact kb_alloc _ _ _
  obtain ⟨g1,hg1⟩ : ∃ g1,g1 = W.heap.size:=⟨_,rfl⟩
  have b1 : w1.heap[g1]? = some (.cells #[.int .i64 0,.int .i64 v.m,.float .f64 v.g,.string v.x,.int .i64 v.r] 92 (0,0)):=by rw [hw1,hg1];exact alloc_new _ _ _
  have hq1:=hq.call k1
  have HW1 : Hid (w1 = W.alloc (.cells #[.int .i64 0,.int .i64 v.m,.float .f64 v.g,.string v.x,.int .i64 v.r] 92) ∧ g1 = W.heap.size):=(⟨hw1,hg1⟩ : _ ∧ _)
  have howna : ∀ o : Obj,(w1.alloc o).ownsRow w0.heap.size 5 1 vo l.length (Lib.byteCells l):=fun o=>hq1.1.alloc o
  have hsz:=hq1.2.size
  have HADD : Hid (∀ (o : Obj) (v2 : Value) (w5 : World),w5.ownsRow w0.heap.size 5 1 v2 (l.length + 1) (Lib.byteCells l ++ [.int .u8 0]) → (w1.alloc o).grownBy w5 vo.ownBlock → (QK w0 (l ++ [0]) v2 w5 ∧ Lib.OthersKept 5 none W w5) ∧ w5.heap[g1]? = some (.cells #[.int .i64 0,.int .i64 v.m,.float .f64 v.g,.string v.x,.int .i64 v.r] 92 (0,0))):=(fun o v2 w5 ho hg=>by
    have h1:=qk_push hq1 (Lib.OthersKept.refl _ _ w1) 0 0 rfl o v2 w5 ho hg
    exact ⟨⟨h1.1,(ok_kb k1 none).trans h1.2⟩,ok_cells h1.2 b1 (by simp) (by decide)⟩ : ∀ (o : Obj),_)
  have c0 : w1.cell? ⟨g1,0,none⟩ = some (.int .i64 0):=cell_of b1 rfl
  have HV : Hid (v.k = 0 ∧ (-9223372036854775808 ≤ v.m ∧ v.m ≤ 9223372036854775807) ∧ (v.x.size : Int) ≤ 1048576 ∧ (∀ W : World,Calls Tryz.prog 100 #[.float .f64 v.g] W fun e w'=>e = .returned (.int .u64 (v.g : Int)) ∧ Kb 0 W w') ∧ v.g < 18446744073709551616 ∧ l.length ≤ 80000000000000):=(⟨hk,hm,hx,hbits,hg,hl⟩ : _ ∧ _)
  have hu8 : IntKind.u8.wrap 0 = 0:=by rw [wrap_u8];rfl
  clear hi0 hq hq1 hw1 hg1 b1 k1 hk hm hx hbits hg
  go_enter Tryz.func42,Tryz.ntmps42
  go_upto_region 1 with fail
  rw [← (show w1 = _ ∧ _ from HW1).1]
  try rw [← (show w1 = _ ∧ _ from HW1).2]
  clear HW1
  go_upto_region 2 with (at_builtin;refine wpList_append_own _ rfl (.tmp 7) (.tmp 11) 26 rfl w0.heap.size 5 i0 (.int .u8 0) 1 1 Tryz.underlying26 HI0 hz0 hz1 hz2 rfl (by decide) _ _ _ rfl (howna _) ⟨w1.heap.size,0,none⟩ 1 1 [.int .u8 0] rfl rfl (qr_cells w1 #[.int .u8 0] 5 _ rfl) (bc_lit _) (by unfold maxLen;omega) (by omega) (by simp;omega) ?_;intro v2 w5 hown1 hgrow1 _)
  obtain ⟨⟨q2,o2⟩,b5⟩:=(show ∀ (o : Obj) (v2 : Value) (w5 : World),_ → _ → _ from HADD) _ _ _ hown1 hgrow1
  clear HADD hown1 hgrow1 howna c0 hu8
  obtain ⟨hk,hm,hx,hbits,hg,hl⟩:=(show _ ∧ _ ∧ _ ∧ _ ∧ _ ∧ _ from HV)
  have c0 : w5.cell? ⟨g1,0,none⟩ = some (.int .i64 0):=cell_of b5 rfl
  have c1 : w5.cell? ⟨g1,1,none⟩ = some (.int .i64 v.m):=cell_of b5 rfl
  have c2 : w5.cell? ⟨g1,2,none⟩ = some (.float .f64 v.g):=cell_of b5 rfl
  have c3 : w5.cell? ⟨g1,3,none⟩ = some (.string v.x):=cell_of b5 rfl
  have hle : (l ++ [(0 : UInt8)]).length ≤ 80000000000001:=by rw [List.length_append];simp;omega
  have HN : Hid (QK w0 (l ++ cb v) v2 w5 ∧ Lib.OthersKept 5 none W w5):=(⟨by rw [show cb v = [0] by unfold cb;rw [hk];rfl];exact q2,o2⟩ : _ ∧ _)
  clear HV hk hm hx hbits hg hl q2 o2 hle b5 c1 c2 c3
  go_wp2_with fail
  go_ret
  exact ⟨v2,rfl,HN.1,HN.2⟩
theorem sp_const1 {w0 W : World} {l : List UInt8} {vo : Value} (v : Vv) (hk : v.k = 1) (hm : -9223372036854775808 ≤ v.m ∧ v.m ≤ 9223372036854775807) (hx : (v.x.size : Int) ≤ 1048576) (hbits : ∀ W : World, Calls Tryz.prog 100 #[.float .f64 v.g] W fun e w' => e = .returned (.int .u64 (v.g : Int)) ∧ Kb 0 W w') (hg : v.g < 18446744073709551616) (hq : QK w0 l vo W) (hl : l.length ≤ 80000000000000) :
    Calls Tryz.prog 42 #[vo,.agg #[.int .i64 1,.int .i64 v.m,.float .f64 v.g,.string v.x,.int .i64 v.r]] W (AP w0 W (l ++ cb v)):=by
  obtain ⟨i0,hi0,hz0,hz1,hz2⟩:=info_parts info5
  have HI0 : Hid (Tryz.prog.info? 5 = some i0):=hi0
  obtain ⟨w1,hw1⟩ : ∃ w1,w1 = W.alloc (.cells #[.int .i64 1,.int .i64 v.m,.float .f64 v.g,.string v.x,.int .i64 v.r] 92):=⟨_,rfl⟩
  have k1 : Kb 0 W w1:=by rw [hw1];exact kb_alloc _ _ _
  obtain ⟨g1,hg1⟩ : ∃ g1,g1 = W.heap.size:=⟨_,rfl⟩
  have b1 : w1.heap[g1]? = some (.cells #[.int .i64 1,.int .i64 v.m,.float .f64 v.g,.string v.x,.int .i64 v.r] 92 (0,0)):=by rw [hw1,hg1];exact alloc_new _ _ _
  have hq1:=hq.call k1
  have HW1 : Hid (w1 = W.alloc (.cells #[.int .i64 1,.int .i64 v.m,.float .f64 v.g,.string v.x,.int .i64 v.r] 92) ∧ g1 = W.heap.size):=(⟨hw1,hg1⟩ : _ ∧ _)
  have howna : ∀ o : Obj,(w1.alloc o).ownsRow w0.heap.size 5 1 vo l.length (Lib.byteCells l):=fun o=>hq1.1.alloc o
  have hsz:=hq1.2.size
  have HADD : Hid (∀ (o : Obj) (v2 : Value) (w5 : World),w5.ownsRow w0.heap.size 5 1 v2 (l.length + 1) (Lib.byteCells l ++ [.int .u8 1]) → (w1.alloc o).grownBy w5 vo.ownBlock → (QK w0 (l ++ [1]) v2 w5 ∧ Lib.OthersKept 5 none W w5) ∧ w5.heap[g1]? = some (.cells #[.int .i64 1,.int .i64 v.m,.float .f64 v.g,.string v.x,.int .i64 v.r] 92 (0,0))):=(fun o v2 w5 ho hg=>by
    have h1:=qk_push hq1 (Lib.OthersKept.refl _ _ w1) 1 1 rfl o v2 w5 ho hg
    exact ⟨⟨h1.1,(ok_kb k1 none).trans h1.2⟩,ok_cells h1.2 b1 (by simp) (by decide)⟩ : ∀ (o : Obj),_)
  have c0 : w1.cell? ⟨g1,0,none⟩ = some (.int .i64 1):=cell_of b1 rfl
  have HV : Hid (v.k = 1 ∧ (-9223372036854775808 ≤ v.m ∧ v.m ≤ 9223372036854775807) ∧ (v.x.size : Int) ≤ 1048576 ∧ (∀ W : World,Calls Tryz.prog 100 #[.float .f64 v.g] W fun e w'=>e = .returned (.int .u64 (v.g : Int)) ∧ Kb 0 W w') ∧ v.g < 18446744073709551616 ∧ l.length ≤ 80000000000000):=(⟨hk,hm,hx,hbits,hg,hl⟩ : _ ∧ _)
  have hu8 : IntKind.u8.wrap 1 = 1:=by rw [wrap_u8];rfl
  clear hi0 hq hq1 hw1 hg1 b1 k1 hk hm hx hbits hg
  go_enter Tryz.func42,Tryz.ntmps42
  go_upto_region 1 with fail
  rw [← (show w1 = _ ∧ _ from HW1).1]
  try rw [← (show w1 = _ ∧ _ from HW1).2]
  clear HW1
  go_upto_region 2 with (at_builtin;refine wpList_append_own _ rfl (.tmp 7) (.tmp 11) 26 rfl w0.heap.size 5 i0 (.int .u8 0) 1 1 Tryz.underlying26 HI0 hz0 hz1 hz2 rfl (by decide) _ _ _ rfl (howna _) ⟨w1.heap.size,0,none⟩ 1 1 [.int .u8 1] rfl rfl (qr_cells w1 #[.int .u8 1] 5 _ rfl) (bc_lit _) (by unfold maxLen;omega) (by omega) (by simp;omega) ?_;intro v2 w5 hown1 hgrow1 _)
  obtain ⟨⟨q2,o2⟩,b5⟩:=(show ∀ (o : Obj) (v2 : Value) (w5 : World),_ → _ → _ from HADD) _ _ _ hown1 hgrow1
  clear HADD hown1 hgrow1 howna c0 hu8
  obtain ⟨hk,hm,hx,hbits,hg,hl⟩:=(show _ ∧ _ ∧ _ ∧ _ ∧ _ ∧ _ from HV)
  have c0 : w5.cell? ⟨g1,0,none⟩ = some (.int .i64 1):=cell_of b5 rfl
  have c1 : w5.cell? ⟨g1,1,none⟩ = some (.int .i64 v.m):=cell_of b5 rfl
  have c2 : w5.cell? ⟨g1,2,none⟩ = some (.float .f64 v.g):=cell_of b5 rfl
  have c3 : w5.cell? ⟨g1,3,none⟩ = some (.string v.x):=cell_of b5 rfl
  have hle : (l ++ [(1 : UInt8)]).length ≤ 80000000000001:=by rw [List.length_append];simp;omega
  have HC:=sp_num v.m hm.1 hm.2 q2 (by omega)
  have HE : Hid (cb v = [1] ++ nb v.m ∧ Lib.OthersKept 5 none W w5):=(⟨by unfold cb;rw [hk];rfl,o2⟩ : _ ∧ _)
  clear HV hk hm hx hbits hg hl q2 o2 hle b5
  go_wp2_with fail
  refine HC.mono ?_
  rintro e w6 ⟨v6,rfl,q6,o6⟩
  obtain ⟨he,o2⟩:=(show _ ∧ _ from HE)
  have HN : Hid (QK w0 (l ++ cb v) v6 w6 ∧ Lib.OthersKept 5 none W w6):=(⟨by rw [he,← List.append_assoc];exact q6,o2.trans o6⟩ : _ ∧ _)
  clear HC q6 o6 HE he o2 c0 c1 c2 c3
  go_wp2_with fail
  go_ret
  exact ⟨v6,rfl,HN.1,HN.2⟩
theorem sp_const2 {w0 W : World} {l : List UInt8} {vo : Value} (v : Vv) (hk : v.k = 2) (hm : -9223372036854775808 ≤ v.m ∧ v.m ≤ 9223372036854775807) (hx : (v.x.size : Int) ≤ 1048576) (hbits : ∀ W : World, Calls Tryz.prog 100 #[.float .f64 v.g] W fun e w' => e = .returned (.int .u64 (v.g : Int)) ∧ Kb 0 W w') (hg : v.g < 18446744073709551616) (hq : QK w0 l vo W) (hl : l.length ≤ 80000000000000) :
    Calls Tryz.prog 42 #[vo,.agg #[.int .i64 2,.int .i64 v.m,.float .f64 v.g,.string v.x,.int .i64 v.r]] W (AP w0 W (l ++ cb v)):=by
  obtain ⟨i0,hi0,hz0,hz1,hz2⟩:=info_parts info5
  have HI0 : Hid (Tryz.prog.info? 5 = some i0):=hi0
  obtain ⟨w1,hw1⟩ : ∃ w1,w1 = W.alloc (.cells #[.int .i64 2,.int .i64 v.m,.float .f64 v.g,.string v.x,.int .i64 v.r] 92):=⟨_,rfl⟩
  have k1 : Kb 0 W w1:=by rw [hw1];exact kb_alloc _ _ _
  obtain ⟨g1,hg1⟩ : ∃ g1,g1 = W.heap.size:=⟨_,rfl⟩
  have b1 : w1.heap[g1]? = some (.cells #[.int .i64 2,.int .i64 v.m,.float .f64 v.g,.string v.x,.int .i64 v.r] 92 (0,0)):=by rw [hw1,hg1];exact alloc_new _ _ _
  have hq1:=hq.call k1
  have HW1 : Hid (w1 = W.alloc (.cells #[.int .i64 2,.int .i64 v.m,.float .f64 v.g,.string v.x,.int .i64 v.r] 92) ∧ g1 = W.heap.size):=(⟨hw1,hg1⟩ : _ ∧ _)
  have howna : ∀ o : Obj,(w1.alloc o).ownsRow w0.heap.size 5 1 vo l.length (Lib.byteCells l):=fun o=>hq1.1.alloc o
  have hsz:=hq1.2.size
  have HADD : Hid (∀ (o : Obj) (v2 : Value) (w5 : World),w5.ownsRow w0.heap.size 5 1 v2 (l.length + 1) (Lib.byteCells l ++ [.int .u8 2]) → (w1.alloc o).grownBy w5 vo.ownBlock → (QK w0 (l ++ [2]) v2 w5 ∧ Lib.OthersKept 5 none W w5) ∧ w5.heap[g1]? = some (.cells #[.int .i64 2,.int .i64 v.m,.float .f64 v.g,.string v.x,.int .i64 v.r] 92 (0,0))):=(fun o v2 w5 ho hg=>by
    have h1:=qk_push hq1 (Lib.OthersKept.refl _ _ w1) 2 2 rfl o v2 w5 ho hg
    exact ⟨⟨h1.1,(ok_kb k1 none).trans h1.2⟩,ok_cells h1.2 b1 (by simp) (by decide)⟩ : ∀ (o : Obj),_)
  have c0 : w1.cell? ⟨g1,0,none⟩ = some (.int .i64 2):=cell_of b1 rfl
  have HV : Hid (v.k = 2 ∧ (-9223372036854775808 ≤ v.m ∧ v.m ≤ 9223372036854775807) ∧ (v.x.size : Int) ≤ 1048576 ∧ (∀ W : World,Calls Tryz.prog 100 #[.float .f64 v.g] W fun e w'=>e = .returned (.int .u64 (v.g : Int)) ∧ Kb 0 W w') ∧ v.g < 18446744073709551616 ∧ l.length ≤ 80000000000000):=(⟨hk,hm,hx,hbits,hg,hl⟩ : _ ∧ _)
  have hu8 : IntKind.u8.wrap 2 = 2:=by rw [wrap_u8];rfl
  clear hi0 hq hq1 hw1 hg1 b1 k1 hk hm hx hbits hg
  go_enter Tryz.func42,Tryz.ntmps42
  go_upto_region 1 with fail
  rw [← (show w1 = _ ∧ _ from HW1).1]
  try rw [← (show w1 = _ ∧ _ from HW1).2]
  clear HW1
  go_upto_region 2 with (at_builtin;refine wpList_append_own _ rfl (.tmp 7) (.tmp 11) 26 rfl w0.heap.size 5 i0 (.int .u8 0) 1 1 Tryz.underlying26 HI0 hz0 hz1 hz2 rfl (by decide) _ _ _ rfl (howna _) ⟨w1.heap.size,0,none⟩ 1 1 [.int .u8 2] rfl rfl (qr_cells w1 #[.int .u8 2] 5 _ rfl) (bc_lit _) (by unfold maxLen;omega) (by omega) (by simp;omega) ?_;intro v2 w5 hown1 hgrow1 _)
  obtain ⟨⟨q2,o2⟩,b5⟩:=(show ∀ (o : Obj) (v2 : Value) (w5 : World),_ → _ → _ from HADD) _ _ _ hown1 hgrow1
  clear HADD hown1 hgrow1 howna c0 hu8
  obtain ⟨hk,hm,hx,hbits,hg,hl⟩:=(show _ ∧ _ ∧ _ ∧ _ ∧ _ ∧ _ from HV)
  have c0 : w5.cell? ⟨g1,0,none⟩ = some (.int .i64 2):=cell_of b5 rfl
  have c1 : w5.cell? ⟨g1,1,none⟩ = some (.int .i64 v.m):=cell_of b5 rfl
  have c2 : w5.cell? ⟨g1,2,none⟩ = some (.float .f64 v.g):=cell_of b5 rfl
  have c3 : w5.cell? ⟨g1,3,none⟩ = some (.string v.x):=cell_of b5 rfl
  have hle : (l ++ [(2 : UInt8)]).length ≤ 80000000000001:=by rw [List.length_append];simp;omega
  have HC:=sp_num v.m hm.1 hm.2 q2 (by omega)
  have HE : Hid (cb v = [2] ++ nb v.m ∧ Lib.OthersKept 5 none W w5):=(⟨by unfold cb;rw [hk];rfl,o2⟩ : _ ∧ _)
  clear HV hk hm hx hbits hg hl q2 o2 hle b5
  go_wp2_with fail
  refine HC.mono ?_
  rintro e w6 ⟨v6,rfl,q6,o6⟩
  obtain ⟨he,o2⟩:=(show _ ∧ _ from HE)
  have HN : Hid (QK w0 (l ++ cb v) v6 w6 ∧ Lib.OthersKept 5 none W w6):=(⟨by rw [he,← List.append_assoc];exact q6,o2.trans o6⟩ : _ ∧ _)
  clear HC q6 o6 HE he o2 c0 c1 c2 c3
  go_wp2_with fail
  go_ret
  exact ⟨v6,rfl,HN.1,HN.2⟩
theorem sp_const4 {w0 W : World} {l : List UInt8} {vo : Value} (v : Vv) (hk : v.k = 4) (hm : -9223372036854775808 ≤ v.m ∧ v.m ≤ 9223372036854775807) (hx : (v.x.size : Int) ≤ 1048576) (hbits : ∀ W : World, Calls Tryz.prog 100 #[.float .f64 v.g] W fun e w' => e = .returned (.int .u64 (v.g : Int)) ∧ Kb 0 W w') (hg : v.g < 18446744073709551616) (hq : QK w0 l vo W) (hl : l.length ≤ 80000000000000) :
    Calls Tryz.prog 42 #[vo,.agg #[.int .i64 4,.int .i64 v.m,.float .f64 v.g,.string v.x,.int .i64 v.r]] W (AP w0 W (l ++ cb v)):=by
  obtain ⟨i0,hi0,hz0,hz1,hz2⟩:=info_parts info5
  have HI0 : Hid (Tryz.prog.info? 5 = some i0):=hi0
  obtain ⟨w1,hw1⟩ : ∃ w1,w1 = W.alloc (.cells #[.int .i64 4,.int .i64 v.m,.float .f64 v.g,.string v.x,.int .i64 v.r] 92):=⟨_,rfl⟩
  have k1 : Kb 0 W w1:=by rw [hw1];exact kb_alloc _ _ _
  obtain ⟨g1,hg1⟩ : ∃ g1,g1 = W.heap.size:=⟨_,rfl⟩
  have b1 : w1.heap[g1]? = some (.cells #[.int .i64 4,.int .i64 v.m,.float .f64 v.g,.string v.x,.int .i64 v.r] 92 (0,0)):=by rw [hw1,hg1];exact alloc_new _ _ _
  have hq1:=hq.call k1
  have HW1 : Hid (w1 = W.alloc (.cells #[.int .i64 4,.int .i64 v.m,.float .f64 v.g,.string v.x,.int .i64 v.r] 92) ∧ g1 = W.heap.size):=(⟨hw1,hg1⟩ : _ ∧ _)
  have howna : ∀ o : Obj,(w1.alloc o).ownsRow w0.heap.size 5 1 vo l.length (Lib.byteCells l):=fun o=>hq1.1.alloc o
  have hsz:=hq1.2.size
  have HADD : Hid (∀ (o : Obj) (v2 : Value) (w5 : World),w5.ownsRow w0.heap.size 5 1 v2 (l.length + 1) (Lib.byteCells l ++ [.int .u8 4]) → (w1.alloc o).grownBy w5 vo.ownBlock → (QK w0 (l ++ [4]) v2 w5 ∧ Lib.OthersKept 5 none W w5) ∧ w5.heap[g1]? = some (.cells #[.int .i64 4,.int .i64 v.m,.float .f64 v.g,.string v.x,.int .i64 v.r] 92 (0,0))):=(fun o v2 w5 ho hg=>by
    have h1:=qk_push hq1 (Lib.OthersKept.refl _ _ w1) 4 4 rfl o v2 w5 ho hg
    exact ⟨⟨h1.1,(ok_kb k1 none).trans h1.2⟩,ok_cells h1.2 b1 (by simp) (by decide)⟩ : ∀ (o : Obj),_)
  have c0 : w1.cell? ⟨g1,0,none⟩ = some (.int .i64 4):=cell_of b1 rfl
  have HV : Hid (v.k = 4 ∧ (-9223372036854775808 ≤ v.m ∧ v.m ≤ 9223372036854775807) ∧ (v.x.size : Int) ≤ 1048576 ∧ (∀ W : World,Calls Tryz.prog 100 #[.float .f64 v.g] W fun e w'=>e = .returned (.int .u64 (v.g : Int)) ∧ Kb 0 W w') ∧ v.g < 18446744073709551616 ∧ l.length ≤ 80000000000000):=(⟨hk,hm,hx,hbits,hg,hl⟩ : _ ∧ _)
  have hu8 : IntKind.u8.wrap 4 = 4:=by rw [wrap_u8];rfl
  clear hi0 hq hq1 hw1 hg1 b1 k1 hk hm hx hbits hg
  go_enter Tryz.func42,Tryz.ntmps42
  go_upto_region 1 with fail
  rw [← (show w1 = _ ∧ _ from HW1).1]
  try rw [← (show w1 = _ ∧ _ from HW1).2]
  clear HW1
  go_upto_region 2 with (at_builtin;refine wpList_append_own _ rfl (.tmp 7) (.tmp 11) 26 rfl w0.heap.size 5 i0 (.int .u8 0) 1 1 Tryz.underlying26 HI0 hz0 hz1 hz2 rfl (by decide) _ _ _ rfl (howna _) ⟨w1.heap.size,0,none⟩ 1 1 [.int .u8 4] rfl rfl (qr_cells w1 #[.int .u8 4] 5 _ rfl) (bc_lit _) (by unfold maxLen;omega) (by omega) (by simp;omega) ?_;intro v2 w5 hown1 hgrow1 _)
  obtain ⟨⟨q2,o2⟩,b5⟩:=(show ∀ (o : Obj) (v2 : Value) (w5 : World),_ → _ → _ from HADD) _ _ _ hown1 hgrow1
  clear HADD hown1 hgrow1 howna c0 hu8
  obtain ⟨hk,hm,hx,hbits,hg,hl⟩:=(show _ ∧ _ ∧ _ ∧ _ ∧ _ ∧ _ from HV)
  have c0 : w5.cell? ⟨g1,0,none⟩ = some (.int .i64 4):=cell_of b5 rfl
  have c1 : w5.cell? ⟨g1,1,none⟩ = some (.int .i64 v.m):=cell_of b5 rfl
  have c2 : w5.cell? ⟨g1,2,none⟩ = some (.float .f64 v.g):=cell_of b5 rfl
  have c3 : w5.cell? ⟨g1,3,none⟩ = some (.string v.x):=cell_of b5 rfl
  have hle : (l ++ [(4 : UInt8)]).length ≤ 80000000000001:=by rw [List.length_append];simp;omega
  have HC:=sp_text v.x hx q2 (by omega)
  have HE : Hid (cb v = [4] ++ tb v.x ∧ Lib.OthersKept 5 none W w5):=(⟨by unfold cb;rw [hk];rfl,o2⟩ : _ ∧ _)
  clear HV hk hm hx hbits hg hl q2 o2 hle b5
  go_wp2_with fail
  refine HC.mono ?_
  rintro e w6 ⟨v6,rfl,q6,o6⟩
  obtain ⟨he,o2⟩:=(show _ ∧ _ from HE)
  have HN : Hid (QK w0 (l ++ cb v) v6 w6 ∧ Lib.OthersKept 5 none W w6):=(⟨by rw [he,← List.append_assoc];exact q6,o2.trans o6⟩ : _ ∧ _)
  clear HC q6 o6 HE he o2 c0 c1 c2 c3
  go_wp2_with fail
  go_ret
  exact ⟨v6,rfl,HN.1,HN.2⟩
theorem sp_const8 {w0 W : World} {l : List UInt8} {vo : Value} (v : Vv) (hk : v.k = 8) (hm : -9223372036854775808 ≤ v.m ∧ v.m ≤ 9223372036854775807) (hx : (v.x.size : Int) ≤ 1048576) (hbits : ∀ W : World, Calls Tryz.prog 100 #[.float .f64 v.g] W fun e w' => e = .returned (.int .u64 (v.g : Int)) ∧ Kb 0 W w') (hg : v.g < 18446744073709551616) (hq : QK w0 l vo W) (hl : l.length ≤ 80000000000000) :
    Calls Tryz.prog 42 #[vo,.agg #[.int .i64 8,.int .i64 v.m,.float .f64 v.g,.string v.x,.int .i64 v.r]] W (AP w0 W (l ++ cb v)):=by
  obtain ⟨i0,hi0,hz0,hz1,hz2⟩:=info_parts info5
  have HI0 : Hid (Tryz.prog.info? 5 = some i0):=hi0
  obtain ⟨w1,hw1⟩ : ∃ w1,w1 = W.alloc (.cells #[.int .i64 8,.int .i64 v.m,.float .f64 v.g,.string v.x,.int .i64 v.r] 92):=⟨_,rfl⟩
  have k1 : Kb 0 W w1:=by rw [hw1];exact kb_alloc _ _ _
  obtain ⟨g1,hg1⟩ : ∃ g1,g1 = W.heap.size:=⟨_,rfl⟩
  have b1 : w1.heap[g1]? = some (.cells #[.int .i64 8,.int .i64 v.m,.float .f64 v.g,.string v.x,.int .i64 v.r] 92 (0,0)):=by rw [hw1,hg1];exact alloc_new _ _ _
  have hq1:=hq.call k1
  have HW1 : Hid (w1 = W.alloc (.cells #[.int .i64 8,.int .i64 v.m,.float .f64 v.g,.string v.x,.int .i64 v.r] 92) ∧ g1 = W.heap.size):=(⟨hw1,hg1⟩ : _ ∧ _)
  have howna : ∀ o : Obj,(w1.alloc o).ownsRow w0.heap.size 5 1 vo l.length (Lib.byteCells l):=fun o=>hq1.1.alloc o
  have hsz:=hq1.2.size
  have HADD : Hid (∀ (o : Obj) (v2 : Value) (w5 : World),w5.ownsRow w0.heap.size 5 1 v2 (l.length + 1) (Lib.byteCells l ++ [.int .u8 8]) → (w1.alloc o).grownBy w5 vo.ownBlock → (QK w0 (l ++ [8]) v2 w5 ∧ Lib.OthersKept 5 none W w5) ∧ w5.heap[g1]? = some (.cells #[.int .i64 8,.int .i64 v.m,.float .f64 v.g,.string v.x,.int .i64 v.r] 92 (0,0))):=(fun o v2 w5 ho hg=>by
    have h1:=qk_push hq1 (Lib.OthersKept.refl _ _ w1) 8 8 rfl o v2 w5 ho hg
    exact ⟨⟨h1.1,(ok_kb k1 none).trans h1.2⟩,ok_cells h1.2 b1 (by simp) (by decide)⟩ : ∀ (o : Obj),_)
  have c0 : w1.cell? ⟨g1,0,none⟩ = some (.int .i64 8):=cell_of b1 rfl
  have HV : Hid (v.k = 8 ∧ (-9223372036854775808 ≤ v.m ∧ v.m ≤ 9223372036854775807) ∧ (v.x.size : Int) ≤ 1048576 ∧ (∀ W : World,Calls Tryz.prog 100 #[.float .f64 v.g] W fun e w'=>e = .returned (.int .u64 (v.g : Int)) ∧ Kb 0 W w') ∧ v.g < 18446744073709551616 ∧ l.length ≤ 80000000000000):=(⟨hk,hm,hx,hbits,hg,hl⟩ : _ ∧ _)
  have hu8 : IntKind.u8.wrap 8 = 8:=by rw [wrap_u8];rfl
  clear hi0 hq hq1 hw1 hg1 b1 k1 hk hm hx hbits hg
  go_enter Tryz.func42,Tryz.ntmps42
  go_upto_region 1 with fail
  rw [← (show w1 = _ ∧ _ from HW1).1]
  try rw [← (show w1 = _ ∧ _ from HW1).2]
  clear HW1
  go_upto_region 2 with (at_builtin;refine wpList_append_own _ rfl (.tmp 7) (.tmp 11) 26 rfl w0.heap.size 5 i0 (.int .u8 0) 1 1 Tryz.underlying26 HI0 hz0 hz1 hz2 rfl (by decide) _ _ _ rfl (howna _) ⟨w1.heap.size,0,none⟩ 1 1 [.int .u8 8] rfl rfl (qr_cells w1 #[.int .u8 8] 5 _ rfl) (bc_lit _) (by unfold maxLen;omega) (by omega) (by simp;omega) ?_;intro v2 w5 hown1 hgrow1 _)
  obtain ⟨⟨q2,o2⟩,b5⟩:=(show ∀ (o : Obj) (v2 : Value) (w5 : World),_ → _ → _ from HADD) _ _ _ hown1 hgrow1
  clear HADD hown1 hgrow1 howna c0 hu8
  obtain ⟨hk,hm,hx,hbits,hg,hl⟩:=(show _ ∧ _ ∧ _ ∧ _ ∧ _ ∧ _ from HV)
  have c0 : w5.cell? ⟨g1,0,none⟩ = some (.int .i64 8):=cell_of b5 rfl
  have c1 : w5.cell? ⟨g1,1,none⟩ = some (.int .i64 v.m):=cell_of b5 rfl
  have c2 : w5.cell? ⟨g1,2,none⟩ = some (.float .f64 v.g):=cell_of b5 rfl
  have c3 : w5.cell? ⟨g1,3,none⟩ = some (.string v.x):=cell_of b5 rfl
  have hle : (l ++ [(8 : UInt8)]).length ≤ 80000000000001:=by rw [List.length_append];simp;omega
  have HC:=sp_num v.m hm.1 hm.2 q2 (by omega)
  have HE : Hid (cb v = [8] ++ nb v.m ∧ Lib.OthersKept 5 none W w5):=(⟨by unfold cb;rw [hk];rfl,o2⟩ : _ ∧ _)
  clear HV hk hm hx hbits hg hl q2 o2 hle b5
  go_wp2_with fail
  refine HC.mono ?_
  rintro e w6 ⟨v6,rfl,q6,o6⟩
  obtain ⟨he,o2⟩:=(show _ ∧ _ from HE)
  have HN : Hid (QK w0 (l ++ cb v) v6 w6 ∧ Lib.OthersKept 5 none W w6):=(⟨by rw [he,← List.append_assoc];exact q6,o2.trans o6⟩ : _ ∧ _)
  clear HC q6 o6 HE he o2 c0 c1 c2 c3
  go_wp2_with fail
  go_ret
  exact ⟨v6,rfl,HN.1,HN.2⟩
theorem sp_const3 {w0 W : World} {l : List UInt8} {vo : Value} (v : Vv) (hk : v.k = 3) (hm : -9223372036854775808 ≤ v.m ∧ v.m ≤ 9223372036854775807) (hx : (v.x.size : Int) ≤ 1048576) (hbits : ∀ W : World, Calls Tryz.prog 100 #[.float .f64 v.g] W fun e w' => e = .returned (.int .u64 (v.g : Int)) ∧ Kb 0 W w') (hg : v.g < 18446744073709551616) (hq : QK w0 l vo W) (hl : l.length ≤ 80000000000000) :
    Calls Tryz.prog 42 #[vo,.agg #[.int .i64 3,.int .i64 v.m,.float .f64 v.g,.string v.x,.int .i64 v.r]] W (AP w0 W (l ++ cb v)):=by
  obtain ⟨i0,hi0,hz0,hz1,hz2⟩:=info_parts info5
  have HI0 : Hid (Tryz.prog.info? 5 = some i0):=hi0
  obtain ⟨w1,hw1⟩ : ∃ w1,w1 = W.alloc (.cells #[.int .i64 3,.int .i64 v.m,.float .f64 v.g,.string v.x,.int .i64 v.r] 92):=⟨_,rfl⟩
  have k1 : Kb 0 W w1:=by rw [hw1];exact kb_alloc _ _ _
  obtain ⟨g1,hg1⟩ : ∃ g1,g1 = W.heap.size:=⟨_,rfl⟩
  have b1 : w1.heap[g1]? = some (.cells #[.int .i64 3,.int .i64 v.m,.float .f64 v.g,.string v.x,.int .i64 v.r] 92 (0,0)):=by rw [hw1,hg1];exact alloc_new _ _ _
  have hq1:=hq.call k1
  have HW1 : Hid (w1 = W.alloc (.cells #[.int .i64 3,.int .i64 v.m,.float .f64 v.g,.string v.x,.int .i64 v.r] 92) ∧ g1 = W.heap.size):=(⟨hw1,hg1⟩ : _ ∧ _)
  have howna : ∀ o : Obj,(w1.alloc o).ownsRow w0.heap.size 5 1 vo l.length (Lib.byteCells l):=fun o=>hq1.1.alloc o
  have hsz:=hq1.2.size
  have HADD : Hid (∀ (o : Obj) (v2 : Value) (w5 : World),w5.ownsRow w0.heap.size 5 1 v2 (l.length + 1) (Lib.byteCells l ++ [.int .u8 3]) → (w1.alloc o).grownBy w5 vo.ownBlock → (QK w0 (l ++ [3]) v2 w5 ∧ Lib.OthersKept 5 none W w5) ∧ w5.heap[g1]? = some (.cells #[.int .i64 3,.int .i64 v.m,.float .f64 v.g,.string v.x,.int .i64 v.r] 92 (0,0))):=(fun o v2 w5 ho hg=>by
    have h1:=qk_push hq1 (Lib.OthersKept.refl _ _ w1) 3 3 rfl o v2 w5 ho hg
    exact ⟨⟨h1.1,(ok_kb k1 none).trans h1.2⟩,ok_cells h1.2 b1 (by simp) (by decide)⟩ : ∀ (o : Obj),_)
  have c0 : w1.cell? ⟨g1,0,none⟩ = some (.int .i64 3):=cell_of b1 rfl
  have HV : Hid (v.k = 3 ∧ (-9223372036854775808 ≤ v.m ∧ v.m ≤ 9223372036854775807) ∧ (v.x.size : Int) ≤ 1048576 ∧ (∀ W : World,Calls Tryz.prog 100 #[.float .f64 v.g] W fun e w'=>e = .returned (.int .u64 (v.g : Int)) ∧ Kb 0 W w') ∧ v.g < 18446744073709551616 ∧ l.length ≤ 80000000000000):=(⟨hk,hm,hx,hbits,hg,hl⟩ : _ ∧ _)
  have hu8 : IntKind.u8.wrap 3 = 3:=by rw [wrap_u8];rfl
  clear hi0 hq hq1 hw1 hg1 b1 k1 hk hm hx hbits hg
  go_enter Tryz.func42,Tryz.ntmps42
  go_upto_region 1 with fail
  rw [← (show w1 = _ ∧ _ from HW1).1]
  try rw [← (show w1 = _ ∧ _ from HW1).2]
  clear HW1
  go_upto_region 2 with (at_builtin;refine wpList_append_own _ rfl (.tmp 7) (.tmp 11) 26 rfl w0.heap.size 5 i0 (.int .u8 0) 1 1 Tryz.underlying26 HI0 hz0 hz1 hz2 rfl (by decide) _ _ _ rfl (howna _) ⟨w1.heap.size,0,none⟩ 1 1 [.int .u8 3] rfl rfl (qr_cells w1 #[.int .u8 3] 5 _ rfl) (bc_lit _) (by unfold maxLen;omega) (by omega) (by simp;omega) ?_;intro v2 w5 hown1 hgrow1 _)
  obtain ⟨⟨q2,o2⟩,b5⟩:=(show ∀ (o : Obj) (v2 : Value) (w5 : World),_ → _ → _ from HADD) _ _ _ hown1 hgrow1
  clear HADD hown1 hgrow1 howna c0 hu8
  obtain ⟨hk,hm,hx,hbits,hg,hl⟩:=(show _ ∧ _ ∧ _ ∧ _ ∧ _ ∧ _ from HV)
  have c0 : w5.cell? ⟨g1,0,none⟩ = some (.int .i64 3):=cell_of b5 rfl
  have c1 : w5.cell? ⟨g1,1,none⟩ = some (.int .i64 v.m):=cell_of b5 rfl
  have c2 : w5.cell? ⟨g1,2,none⟩ = some (.float .f64 v.g):=cell_of b5 rfl
  have c3 : w5.cell? ⟨g1,3,none⟩ = some (.string v.x):=cell_of b5 rfl
  have hle : (l ++ [(3 : UInt8)]).length ≤ 80000000000001:=by rw [List.length_append];simp;omega
  have HC:=hbits w5
  have HE : Hid (cb v = [3] ++ db v.g 8 ∧ v.g < 18446744073709551616 ∧ l.length ≤ 80000000000000):=(⟨by unfold cb;rw [hk];rfl,hg,hl⟩ : _ ∧ _)
  have HB : Hid (QK w0 (l ++ [3]) v2 w5 ∧ Lib.OthersKept 5 none W w5):=(⟨q2,o2⟩ : _ ∧ _)
  clear HV hk hm hx hbits hg hl q2 o2 hle b5
  go_wp2_with fail
  refine HC.mono ?_
  rintro e w6 ⟨rfl,k6⟩
  have HS : Hid (QK w0 ((l ++ [3]) ++ db v.g 0) v2 w6 ∧ Lib.OthersKept 5 none W w6):=(⟨by rw [show db v.g 0 = [] from rfl,List.append_nil];exact HB.1.call k6,HB.2.trans (ok_kb k6 none)⟩ : _ ∧ _)
  clear HC k6 HB c0 c1 c2 c3
  go_wp2_with fail
  go_loopw [0,6] (fun s0 s6 wr=>∃ (i : Nat) (v' : Value),i ≤ 8 ∧ s6 = .int .i64 (i : Int) ∧ v' = s0 ∧ Hid (QK w0 ((l ++ [3]) ++ db v.g i) v' wr ∧ Lib.OthersKept 5 none W wr)) (fun _ s6 _=>8 - (intOf s6).toNat)
  case atStart=>exact ⟨0,_,by omega,rfl,rfl,HS⟩
  case round =>
    clear HS
    obtain ⟨i,v',hi,rfl,hv,HX⟩:=hrel
    subst hv
    obtain ⟨hq,hok⟩:=(show _ ∧ _ from HX)
    obtain ⟨he,hgl,hl⟩:=(show _ ∧ _ ∧ _ from HE)
    by_cases h8 : i < 8
    · have hlen : ((l ++ [3]) ++ db v.g i).length ≤ 80000000000010:=by rw [List.length_append,List.length_append,db_len];simp;omega
      have hsh : ((UInt8.ofNat (v.g / 2 ^ (56 - 8 * i))).toNat : Int) = ((v.g : Int) / 2 ^ (56 - 8 * i)) % 256:=by
        rw [UInt8.toNat_ofNat']
        push_cast
        rfl
      have HADD : Hid (∀ (o : Obj) (v2 : Value) (w5 : World),w5.ownsRow w0.heap.size 5 1 v2 (((l ++ [3]) ++ db v.g i).length + 1) (Lib.byteCells ((l ++ [3]) ++ db v.g i) ++ [.int .u8 (((v.g : Int) / 2 ^ (56 - 8 * i)) % 256)]) → (wr.alloc o).grownBy w5 v'.ownBlock → QK w0 ((l ++ [3]) ++ db v.g (i + 1)) v2 w5 ∧ Lib.OthersKept 5 none W w5):=(fun o v2 w5 ho hg=>by
        rw [show db v.g (i + 1) = db v.g i ++ [UInt8.ofNat (v.g / 2 ^ (56 - 8 * i))] from rfl,← List.append_assoc]
        exact qk_push hq hok _ _ hsh o v2 w5 ho hg : ∀ (o : Obj),_)
      have howna : ∀ o : Obj,(wr.alloc o).ownsRow w0.heap.size 5 1 v' ((l ++ [3]) ++ db v.g i).length (Lib.byteCells ((l ++ [3]) ++ db v.g i)):=fun o=>hq.1.alloc o
      have hsz:=hq.2.size
      obtain ⟨pre,hpre⟩ : ∃ pre,pre = (l ++ [3]) ++ db v.g i:=⟨_,rfl⟩
      rw [← hpre] at HADD hlen howna
      have hwr : ∀ x : Int,IntKind.u8.wrap x = x % 256:=wrap_u8
      clear hq hok HX he hgl hl hsh hpre HE hi
      rcases (by omega : i = 0 ∨ i = 1 ∨ i = 2 ∨ i = 3 ∨ i = 4 ∨ i = 5 ∨ i = 6 ∨ i = 7) with rfl | rfl | rfl | rfl | rfl | rfl | rfl | rfl
      · have ee : (((v.g : Int) / 2 ^ (56 - 8 * 0)) % 256) = (((v.g : Int) / 72057594037927936) % 256):=by simp
        rw [ee] at HADD
        clear ee h8
        obtain ⟨bi,hbi⟩ : ∃ bi,bi = (((v.g : Int) / 72057594037927936) % 256):=⟨_,rfl⟩
        rw [← hbi] at HADD
        have hbi2 : (((v.g : Int) / 72057594037927936) % 256) = bi:=hbi.symm
        clear hbi
        go_wp2_with (at_builtin;refine wpList_append_own _ rfl (.tmp 38) (.tmp 46) 26 rfl w0.heap.size 5 i0 (.int .u8 0) 1 1 Tryz.underlying26 HI0 hz0 hz1 hz2 rfl (by decide) _ _ _ rfl (howna _) ⟨wr.heap.size,0,none⟩ 1 1 [.int .u8 bi] rfl rfl (qr_cells wr #[.int .u8 bi] 5 _ rfl) (bc_lit _) (by unfold maxLen;omega) (by omega) (by simp;omega) ?_;intro v2 w5 hown1 hgrow1 _)
        have HN : Hid _:=(show ∀ (o : Obj) (v2 : Value) (w5 : World),_ → _ → _ from HADD) _ _ _ hown1 hgrow1
        clear HADD hown1 hgrow1 howna hwr hbi2
        go_wp2_with fail
        go_roundw
        case rel=>exact ⟨0 + 1,v2,by omega,by go_num,rfl,HN⟩
        case measure=>simp [intOf]
      · have ee : (((v.g : Int) / 2 ^ (56 - 8 * 1)) % 256) = (((v.g : Int) / 281474976710656) % 256):=by simp
        rw [ee] at HADD
        clear ee h8
        obtain ⟨bi,hbi⟩ : ∃ bi,bi = (((v.g : Int) / 281474976710656) % 256):=⟨_,rfl⟩
        rw [← hbi] at HADD
        have hbi2 : (((v.g : Int) / 281474976710656) % 256) = bi:=hbi.symm
        clear hbi
        go_wp2_with (at_builtin;refine wpList_append_own _ rfl (.tmp 38) (.tmp 46) 26 rfl w0.heap.size 5 i0 (.int .u8 0) 1 1 Tryz.underlying26 HI0 hz0 hz1 hz2 rfl (by decide) _ _ _ rfl (howna _) ⟨wr.heap.size,0,none⟩ 1 1 [.int .u8 bi] rfl rfl (qr_cells wr #[.int .u8 bi] 5 _ rfl) (bc_lit _) (by unfold maxLen;omega) (by omega) (by simp;omega) ?_;intro v2 w5 hown1 hgrow1 _)
        have HN : Hid _:=(show ∀ (o : Obj) (v2 : Value) (w5 : World),_ → _ → _ from HADD) _ _ _ hown1 hgrow1
        clear HADD hown1 hgrow1 howna hwr hbi2
        go_wp2_with fail
        go_roundw
        case rel=>exact ⟨1 + 1,v2,by omega,by go_num,rfl,HN⟩
        case measure=>simp [intOf]
      · have ee : (((v.g : Int) / 2 ^ (56 - 8 * 2)) % 256) = (((v.g : Int) / 1099511627776) % 256):=by simp
        rw [ee] at HADD
        clear ee h8
        obtain ⟨bi,hbi⟩ : ∃ bi,bi = (((v.g : Int) / 1099511627776) % 256):=⟨_,rfl⟩
        rw [← hbi] at HADD
        have hbi2 : (((v.g : Int) / 1099511627776) % 256) = bi:=hbi.symm
        clear hbi
        go_wp2_with (at_builtin;refine wpList_append_own _ rfl (.tmp 38) (.tmp 46) 26 rfl w0.heap.size 5 i0 (.int .u8 0) 1 1 Tryz.underlying26 HI0 hz0 hz1 hz2 rfl (by decide) _ _ _ rfl (howna _) ⟨wr.heap.size,0,none⟩ 1 1 [.int .u8 bi] rfl rfl (qr_cells wr #[.int .u8 bi] 5 _ rfl) (bc_lit _) (by unfold maxLen;omega) (by omega) (by simp;omega) ?_;intro v2 w5 hown1 hgrow1 _)
        have HN : Hid _:=(show ∀ (o : Obj) (v2 : Value) (w5 : World),_ → _ → _ from HADD) _ _ _ hown1 hgrow1
        clear HADD hown1 hgrow1 howna hwr hbi2
        go_wp2_with fail
        go_roundw
        case rel=>exact ⟨2 + 1,v2,by omega,by go_num,rfl,HN⟩
        case measure=>simp [intOf]
      · have ee : (((v.g : Int) / 2 ^ (56 - 8 * 3)) % 256) = (((v.g : Int) / 4294967296) % 256):=by simp
        rw [ee] at HADD
        clear ee h8
        obtain ⟨bi,hbi⟩ : ∃ bi,bi = (((v.g : Int) / 4294967296) % 256):=⟨_,rfl⟩
        rw [← hbi] at HADD
        have hbi2 : (((v.g : Int) / 4294967296) % 256) = bi:=hbi.symm
        clear hbi
        go_wp2_with (at_builtin;refine wpList_append_own _ rfl (.tmp 38) (.tmp 46) 26 rfl w0.heap.size 5 i0 (.int .u8 0) 1 1 Tryz.underlying26 HI0 hz0 hz1 hz2 rfl (by decide) _ _ _ rfl (howna _) ⟨wr.heap.size,0,none⟩ 1 1 [.int .u8 bi] rfl rfl (qr_cells wr #[.int .u8 bi] 5 _ rfl) (bc_lit _) (by unfold maxLen;omega) (by omega) (by simp;omega) ?_;intro v2 w5 hown1 hgrow1 _)
        have HN : Hid _:=(show ∀ (o : Obj) (v2 : Value) (w5 : World),_ → _ → _ from HADD) _ _ _ hown1 hgrow1
        clear HADD hown1 hgrow1 howna hwr hbi2
        go_wp2_with fail
        go_roundw
        case rel=>exact ⟨3 + 1,v2,by omega,by go_num,rfl,HN⟩
        case measure=>simp [intOf]
      · have ee : (((v.g : Int) / 2 ^ (56 - 8 * 4)) % 256) = (((v.g : Int) / 16777216) % 256):=by simp
        rw [ee] at HADD
        clear ee h8
        obtain ⟨bi,hbi⟩ : ∃ bi,bi = (((v.g : Int) / 16777216) % 256):=⟨_,rfl⟩
        rw [← hbi] at HADD
        have hbi2 : (((v.g : Int) / 16777216) % 256) = bi:=hbi.symm
        clear hbi
        go_wp2_with (at_builtin;refine wpList_append_own _ rfl (.tmp 38) (.tmp 46) 26 rfl w0.heap.size 5 i0 (.int .u8 0) 1 1 Tryz.underlying26 HI0 hz0 hz1 hz2 rfl (by decide) _ _ _ rfl (howna _) ⟨wr.heap.size,0,none⟩ 1 1 [.int .u8 bi] rfl rfl (qr_cells wr #[.int .u8 bi] 5 _ rfl) (bc_lit _) (by unfold maxLen;omega) (by omega) (by simp;omega) ?_;intro v2 w5 hown1 hgrow1 _)
        have HN : Hid _:=(show ∀ (o : Obj) (v2 : Value) (w5 : World),_ → _ → _ from HADD) _ _ _ hown1 hgrow1
        clear HADD hown1 hgrow1 howna hwr hbi2
        go_wp2_with fail
        go_roundw
        case rel=>exact ⟨4 + 1,v2,by omega,by go_num,rfl,HN⟩
        case measure=>simp [intOf]
      · have ee : (((v.g : Int) / 2 ^ (56 - 8 * 5)) % 256) = (((v.g : Int) / 65536) % 256):=by simp
        rw [ee] at HADD
        clear ee h8
        obtain ⟨bi,hbi⟩ : ∃ bi,bi = (((v.g : Int) / 65536) % 256):=⟨_,rfl⟩
        rw [← hbi] at HADD
        have hbi2 : (((v.g : Int) / 65536) % 256) = bi:=hbi.symm
        clear hbi
        go_wp2_with (at_builtin;refine wpList_append_own _ rfl (.tmp 38) (.tmp 46) 26 rfl w0.heap.size 5 i0 (.int .u8 0) 1 1 Tryz.underlying26 HI0 hz0 hz1 hz2 rfl (by decide) _ _ _ rfl (howna _) ⟨wr.heap.size,0,none⟩ 1 1 [.int .u8 bi] rfl rfl (qr_cells wr #[.int .u8 bi] 5 _ rfl) (bc_lit _) (by unfold maxLen;omega) (by omega) (by simp;omega) ?_;intro v2 w5 hown1 hgrow1 _)
        have HN : Hid _:=(show ∀ (o : Obj) (v2 : Value) (w5 : World),_ → _ → _ from HADD) _ _ _ hown1 hgrow1
        clear HADD hown1 hgrow1 howna hwr hbi2
        go_wp2_with fail
        go_roundw
        case rel=>exact ⟨5 + 1,v2,by omega,by go_num,rfl,HN⟩
        case measure=>simp [intOf]
      · have ee : (((v.g : Int) / 2 ^ (56 - 8 * 6)) % 256) = (((v.g : Int) / 256) % 256):=by simp
        rw [ee] at HADD
        clear ee h8
        obtain ⟨bi,hbi⟩ : ∃ bi,bi = (((v.g : Int) / 256) % 256):=⟨_,rfl⟩
        rw [← hbi] at HADD
        have hbi2 : (((v.g : Int) / 256) % 256) = bi:=hbi.symm
        clear hbi
        go_wp2_with (at_builtin;refine wpList_append_own _ rfl (.tmp 38) (.tmp 46) 26 rfl w0.heap.size 5 i0 (.int .u8 0) 1 1 Tryz.underlying26 HI0 hz0 hz1 hz2 rfl (by decide) _ _ _ rfl (howna _) ⟨wr.heap.size,0,none⟩ 1 1 [.int .u8 bi] rfl rfl (qr_cells wr #[.int .u8 bi] 5 _ rfl) (bc_lit _) (by unfold maxLen;omega) (by omega) (by simp;omega) ?_;intro v2 w5 hown1 hgrow1 _)
        have HN : Hid _:=(show ∀ (o : Obj) (v2 : Value) (w5 : World),_ → _ → _ from HADD) _ _ _ hown1 hgrow1
        clear HADD hown1 hgrow1 howna hwr hbi2
        go_wp2_with fail
        go_roundw
        case rel=>exact ⟨6 + 1,v2,by omega,by go_num,rfl,HN⟩
        case measure=>simp [intOf]
      · have ee : (((v.g : Int) / 2 ^ (56 - 8 * 7)) % 256) = ((v.g : Int) % 256):=by simp
        rw [ee] at HADD
        clear ee h8
        obtain ⟨bi,hbi⟩ : ∃ bi,bi = ((v.g : Int) % 256):=⟨_,rfl⟩
        rw [← hbi] at HADD
        have hbi2 : ((v.g : Int) % 256) = bi:=hbi.symm
        clear hbi
        go_wp2_with (at_builtin;refine wpList_append_own _ rfl (.tmp 38) (.tmp 46) 26 rfl w0.heap.size 5 i0 (.int .u8 0) 1 1 Tryz.underlying26 HI0 hz0 hz1 hz2 rfl (by decide) _ _ _ rfl (howna _) ⟨wr.heap.size,0,none⟩ 1 1 [.int .u8 bi] rfl rfl (qr_cells wr #[.int .u8 bi] 5 _ rfl) (bc_lit _) (by unfold maxLen;omega) (by omega) (by simp;omega) ?_;intro v2 w5 hown1 hgrow1 _)
        have HN : Hid _:=(show ∀ (o : Obj) (v2 : Value) (w5 : World),_ → _ → _ from HADD) _ _ _ hown1 hgrow1
        clear HADD hown1 hgrow1 howna hwr hbi2
        go_wp2_with fail
        go_roundw
        case rel=>exact ⟨7 + 1,v2,by omega,by go_num,rfl,HN⟩
        case measure=>simp [intOf]
    · obtain rfl : i = 8:=by omega
      have HN : Hid (QK w0 (l ++ cb v) v' wr ∧ Lib.OthersKept 5 none W wr):=by
        rw [List.append_assoc,← he] at hq
        exact (⟨hq,hok⟩ : _ ∧ _)
      clear hq hok HX he hgl hl HE h8
      go_wp2_with fail
      go_ret
      exact ⟨v',rfl,HN.1,HN.2⟩
end Go.Proofs.YtnmeemjoodoalaaGreatDoor.Fo
