import Derived.Test.YtnmeemjoodoalaaGreatDoorMEgf
import Derived.Test.YtnmeemjoodoalaaGreatDoorMEae
import Derived.Test.YtnmeemjoodoalaaGreatDoorMCfb
set_option maxHeartbeats 8000000
namespace Go.Proofs.YtnmeemjoodoalaaGreatDoor.Fo
open Go.ChangeShapes Go.WideShapes Go.ChangeAt Go.RowKit
set_option linter.unusedVariables false
set_option maxRecDepth 100000
theorem sp_const3 {w0 W : World} {l : List UInt8} {vo : Value} (v : Vv) (hk : v.k = 3) (hm : -9223372036854775808 ≤ v.m ∧ v.m ≤ 9223372036854775807) (hx : (v.x.size : Int) ≤ 1048576) (hbits : ∀ W : World, Calls Tryz.prog 100 #[.float .f64 v.g] W fun e w' => e = .returned (.int .u64 (v.g : Int)) ∧ Kb 0 W w') (hg : v.g < 18446744073709551616) (hq : QK w0 l vo W) (hl : l.length ≤ 80000000000000) :
    Calls Tryz.prog 42 #[vo,.agg #[.int .i64 3,.int .i64 v.m,.float .f64 v.g,.string v.x,.int .i64 v.r]] W (AP w0 W (l ++ cb v)):=by
  obtain ⟨i0,hi0,hz0,hz1,hz2⟩:=info_parts info5
  have HI0 : Hid (Tryz.prog.info? 5 = some i0):=hi0
  obtain ⟨w1,hw1⟩ : ∃ w1,w1 = W.alloc (.cells #[.int .i64 3,.int .i64 v.m,.float .f64 v.g,.string v.x,.int .i64 v.r] 92):=⟨_,rfl⟩
  have k1 : Kb 0 W w1:=by rw [hw1];exact kb_alloc _ _ _
  obtain ⟨g1,hg1⟩ : ∃ g1,g1 = W.heap.size:=⟨_,rfl⟩
  have b1 : w1.heap[g1]? = some (.cells #[.int .i64 3,.int .i64 v.m,.float .f64 v.g,.string v.x,.int .i64 v.r] 92 (0,0)):=by rw [hw1,hg1];exact alloc_new _ _ _
  have hq1:=hq.call k1
  have HW1 : Hid (w1 = W.alloc (.cells #[.int .i64 3,.int .i64 v.m,.float .f64 v.g,.string v.x,.int .i64 v.r] 92) ∧ g1 = W.heap.size):=(⟨hw1,hg1⟩ : _ ∧ _)
  have howna : ∀ o : Obj,(w1.alloc o).ownsRow w0.heap.size 5 1 vo l.length (Lib.byteCells l):=fun o=>hq1.1.alloc o
  have hsz:=hq1.2.size
  have HADD : Hid (∀ (o : Obj) (v2 : Value) (w5 : World),w5.ownsRow w0.heap.size 5 1 v2 (l.length + 1) (Lib.byteCells l ++ [.int .u8 3]) → (w1.alloc o).grownBy w5 vo.ownBlock → (QK w0 (l ++ [3]) v2 w5 ∧ Lib.OthersKept 5 none W w5) ∧ w5.heap[g1]? = some (.cells #[.int .i64 3,.int .i64 v.m,.float .f64 v.g,.string v.x,.int .i64 v.r] 92 (0,0))):=(fun o v2 w5 ho hg=>by
    have h1:=qk_push hq1 (Lib.OthersKept.refl _ _ w1) 3 3 rfl o v2 w5 ho hg
    exact ⟨⟨h1.1,(ok_kb k1 none).trans h1.2⟩,ok_cells h1.2 b1 (by simp) (by decide)⟩ : ∀ (o : Obj),_)
  have c0 : w1.cell? ⟨g1,0,none⟩ = some (.int .i64 3):=cell_of b1 rfl
  have HV : Hid (v.k = 3 ∧ (-9223372036854775808 ≤ v.m ∧ v.m ≤ 9223372036854775807) ∧ (v.x.size : Int) ≤ 1048576 ∧ (∀ W : World,Calls Tryz.prog 100 #[.float .f64 v.g] W fun e w'=>e = .returned (.int .u64 (v.g : Int)) ∧ Kb 0 W w') ∧ v.g < 18446744073709551616 ∧ l.length ≤ 80000000000000):=(⟨hk,hm,hx,hbits,hg,hl⟩ : _ ∧ _)
  have hu8 : IntKind.u8.wrap 3 = 3:=by rw [wrap_u8];rfl
  clear hi0 hq hq1 hw1 hg1 b1 k1 hk hm hx hbits hg
  go_enter Tryz.func42,Tryz.ntmps42
  go_upto_region 1 with fail
  rw [← (show w1 = _ ∧ _ from HW1).1]
  try rw [← (show w1 = _ ∧ _ from HW1).2]
  clear HW1
  go_upto_region 2 with (at_builtin;refine wpList_append_own _ rfl (.tmp 7) (.tmp 11) 26 rfl w0.heap.size 5 i0 (.int .u8 0) 1 1 Tryz.underlying26 HI0 hz0 hz1 hz2 rfl (by decide) _ _ _ rfl (howna _) ⟨w1.heap.size,0,none⟩ 1 1 [.int .u8 3] rfl rfl (qr_cells w1 #[.int .u8 3] 5 _ rfl) (bc_lit _) (by unfold maxLen;omega) (by omega) (by simp;omega) ?_;intro v2 w5 hown1 hgrow1 _)
  obtain ⟨⟨q2,o2⟩,b5⟩:=(show ∀ (o : Obj) (v2 : Value) (w5 : World),_ → _ → _ from HADD) _ _ _ hown1 hgrow1
  clear HADD hown1 hgrow1 howna c0 hu8
  obtain ⟨hk,hm,hx,hbits,hg,hl⟩:=(show _ ∧ _ ∧ _ ∧ _ ∧ _ ∧ _ from HV)
  have c0 : w5.cell? ⟨g1,0,none⟩ = some (.int .i64 3):=cell_of b5 rfl
  have c1 : w5.cell? ⟨g1,1,none⟩ = some (.int .i64 v.m):=cell_of b5 rfl
  have c2 : w5.cell? ⟨g1,2,none⟩ = some (.float .f64 v.g):=cell_of b5 rfl
  have c3 : w5.cell? ⟨g1,3,none⟩ = some (.string v.x):=cell_of b5 rfl
  have hle : (l ++ [(3 : UInt8)]).length ≤ 80000000000001:=by rw [List.length_append];simp;omega
  have HC:=hbits w5
  have HE : Hid (cb v = [3] ++ db v.g 8 ∧ v.g < 18446744073709551616 ∧ l.length ≤ 80000000000000):=(⟨by unfold cb;rw [hk];rfl,hg,hl⟩ : _ ∧ _)
  have HB : Hid (QK w0 (l ++ [3]) v2 w5 ∧ Lib.OthersKept 5 none W w5):=(⟨q2,o2⟩ : _ ∧ _)
  clear HV hk hm hx hbits hg hl q2 o2 hle b5
  go_wp2_with fail
  refine HC.mono ?_
  rintro e w6 ⟨rfl,k6⟩
  have HS : Hid (QK w0 ((l ++ [3]) ++ db v.g 0) v2 w6 ∧ Lib.OthersKept 5 none W w6):=(⟨by rw [show db v.g 0 = [] from rfl,List.append_nil];exact HB.1.call k6,HB.2.trans (ok_kb k6 none)⟩ : _ ∧ _)
  clear HC k6 HB c0 c1 c2 c3
  go_wp2_with fail
  go_loopw [0,6] (fun s0 s6 wr=>∃ (i : Nat) (v' : Value),i ≤ 8 ∧ s6 = .int .i64 (i : Int) ∧ v' = s0 ∧ Hid (QK w0 ((l ++ [3]) ++ db v.g i) v' wr ∧ Lib.OthersKept 5 none W wr)) (fun _ s6 _=>8 - (intOf s6).toNat)
  case atStart=>exact ⟨0,_,by omega,rfl,rfl,HS⟩
  case round =>
    clear HS
    obtain ⟨i,v',hi,rfl,hv,HX⟩:=hrel
    subst hv
    obtain ⟨hq,hok⟩:=(show _ ∧ _ from HX)
    obtain ⟨he,hgl,hl⟩:=(show _ ∧ _ ∧ _ from HE)
    by_cases h8 : i < 8
    · have hlen : ((l ++ [3]) ++ db v.g i).length ≤ 80000000000010:=by rw [List.length_append,List.length_append,db_len];simp;omega
      have hsh : ((UInt8.ofNat (v.g / 2 ^ (56 - 8 * i))).toNat : Int) = ((v.g : Int) / 2 ^ (56 - 8 * i)) % 256:=by
        rw [UInt8.toNat_ofNat']
        push_cast
        rfl
      have HADD : Hid (∀ (o : Obj) (v2 : Value) (w5 : World),w5.ownsRow w0.heap.size 5 1 v2 (((l ++ [3]) ++ db v.g i).length + 1) (Lib.byteCells ((l ++ [3]) ++ db v.g i) ++ [.int .u8 (((v.g : Int) / 2 ^ (56 - 8 * i)) % 256)]) → (wr.alloc o).grownBy w5 v'.ownBlock → QK w0 ((l ++ [3]) ++ db v.g (i + 1)) v2 w5 ∧ Lib.OthersKept 5 none W w5):=(fun o v2 w5 ho hg=>by
        rw [show db v.g (i + 1) = db v.g i ++ [UInt8.ofNat (v.g / 2 ^ (56 - 8 * i))] from rfl,← List.append_assoc]
        exact qk_push hq hok _ _ hsh o v2 w5 ho hg : ∀ (o : Obj),_)
      have howna : ∀ o : Obj,(wr.alloc o).ownsRow w0.heap.size 5 1 v' ((l ++ [3]) ++ db v.g i).length (Lib.byteCells ((l ++ [3]) ++ db v.g i)):=fun o=>hq.1.alloc o
      have hsz:=hq.2.size
      obtain ⟨pre,hpre⟩ : ∃ pre,pre = (l ++ [3]) ++ db v.g i:=⟨_,rfl⟩
      rw [← hpre] at HADD hlen howna
      have hwr : ∀ x : Int,IntKind.u8.wrap x = x % 256:=wrap_u8
      clear hq hok HX he hgl hl hsh hpre HE hi
      rcases (by omega : i = 0 ∨ i = 1 ∨ i = 2 ∨ i = 3 ∨ i = 4 ∨ i = 5 ∨ i = 6 ∨ i = 7) with rfl | rfl | rfl | rfl | rfl | rfl | rfl | rfl
      · have ee : (((v.g : Int) / 2 ^ (56 - 8 * 0)) % 256) = (((v.g : Int) / 72057594037927936) % 256):=by simp
        rw [ee] at HADD
        clear ee h8
        obtain ⟨bi,hbi⟩ : ∃ bi,bi = (((v.g : Int) / 72057594037927936) % 256):=⟨_,rfl⟩
        rw [← hbi] at HADD
        have hbi2 : (((v.g : Int) / 72057594037927936) % 256) = bi:=hbi.symm
        clear hbi
        go_wp2_with (at_builtin;refine wpList_append_own _ rfl (.tmp 38) (.tmp 46) 26 rfl w0.heap.size 5 i0 (.int .u8 0) 1 1 Tryz.underlying26 HI0 hz0 hz1 hz2 rfl (by decide) _ _ _ rfl (howna _) ⟨wr.heap.size,0,none⟩ 1 1 [.int .u8 bi] rfl rfl (qr_cells wr #[.int .u8 bi] 5 _ rfl) (bc_lit _) (by unfold maxLen;omega) (by omega) (by simp;omega) ?_;intro v2 w5 hown1 hgrow1 _)
        have HN : Hid _:=(show ∀ (o : Obj) (v2 : Value) (w5 : World),_ → _ → _ from HADD) _ _ _ hown1 hgrow1
        clear HADD hown1 hgrow1 howna hwr hbi2
        go_wp2_with fail
        go_roundw
        case rel=>exact ⟨0 + 1,v2,by omega,by go_num,rfl,HN⟩
        case measure=>simp [intOf]
      · have ee : (((v.g : Int) / 2 ^ (56 - 8 * 1)) % 256) = (((v.g : Int) / 281474976710656) % 256):=by simp
        rw [ee] at HADD
        clear ee h8
        obtain ⟨bi,hbi⟩ : ∃ bi,bi = (((v.g : Int) / 281474976710656) % 256):=⟨_,rfl⟩
        rw [← hbi] at HADD
        have hbi2 : (((v.g : Int) / 281474976710656) % 256) = bi:=hbi.symm
        clear hbi
        go_wp2_with (at_builtin;refine wpList_append_own _ rfl (.tmp 38) (.tmp 46) 26 rfl w0.heap.size 5 i0 (.int .u8 0) 1 1 Tryz.underlying26 HI0 hz0 hz1 hz2 rfl (by decide) _ _ _ rfl (howna _) ⟨wr.heap.size,0,none⟩ 1 1 [.int .u8 bi] rfl rfl (qr_cells wr #[.int .u8 bi] 5 _ rfl) (bc_lit _) (by unfold maxLen;omega) (by omega) (by simp;omega) ?_;intro v2 w5 hown1 hgrow1 _)
        have HN : Hid _:=(show ∀ (o : Obj) (v2 : Value) (w5 : World),_ → _ → _ from HADD) _ _ _ hown1 hgrow1
        clear HADD hown1 hgrow1 howna hwr hbi2
        go_wp2_with fail
        go_roundw
        case rel=>exact ⟨1 + 1,v2,by omega,by go_num,rfl,HN⟩
        case measure=>simp [intOf]
      · have ee : (((v.g : Int) / 2 ^ (56 - 8 * 2)) % 256) = (((v.g : Int) / 1099511627776) % 256):=by simp
        rw [ee] at HADD
        clear ee h8
        obtain ⟨bi,hbi⟩ : ∃ bi,bi = (((v.g : Int) / 1099511627776) % 256):=⟨_,rfl⟩
        rw [← hbi] at HADD
        have hbi2 : (((v.g : Int) / 1099511627776) % 256) = bi:=hbi.symm
        clear hbi
        go_wp2_with (at_builtin;refine wpList_append_own _ rfl (.tmp 38) (.tmp 46) 26 rfl w0.heap.size 5 i0 (.int .u8 0) 1 1 Tryz.underlying26 HI0 hz0 hz1 hz2 rfl (by decide) _ _ _ rfl (howna _) ⟨wr.heap.size,0,none⟩ 1 1 [.int .u8 bi] rfl rfl (qr_cells wr #[.int .u8 bi] 5 _ rfl) (bc_lit _) (by unfold maxLen;omega) (by omega) (by simp;omega) ?_;intro v2 w5 hown1 hgrow1 _)
        have HN : Hid _:=(show ∀ (o : Obj) (v2 : Value) (w5 : World),_ → _ → _ from HADD) _ _ _ hown1 hgrow1
        clear HADD hown1 hgrow1 howna hwr hbi2
        go_wp2_with fail
        go_roundw
        case rel=>exact ⟨2 + 1,v2,by omega,by go_num,rfl,HN⟩
        case measure=>simp [intOf]
      · have ee : (((v.g : Int) / 2 ^ (56 - 8 * 3)) % 256) = (((v.g : Int) / 4294967296) % 256):=by simp
        rw [ee] at HADD
        clear ee h8
        obtain ⟨bi,hbi⟩ : ∃ bi,bi = (((v.g : Int) / 4294967296) % 256):=⟨_,rfl⟩
        rw [← hbi] at HADD
        have hbi2 : (((v.g : Int) / 4294967296) % 256) = bi:=hbi.symm
        clear hbi
        go_wp2_with (at_builtin;refine wpList_append_own _ rfl (.tmp 38) (.tmp 46) 26 rfl w0.heap.size 5 i0 (.int .u8 0) 1 1 Tryz.underlying26 HI0 hz0 hz1 hz2 rfl (by decide) _ _ _ rfl (howna _) ⟨wr.heap.size,0,none⟩ 1 1 [.int .u8 bi] rfl rfl (qr_cells wr #[.int .u8 bi] 5 _ rfl) (bc_lit _) (by unfold maxLen;omega) (by omega) (by simp;omega) ?_;intro v2 w5 hown1 hgrow1 _)
        have HN : Hid _:=(show ∀ (o : Obj) (v2 : Value) (w5 : World),_ → _ → _ from HADD) _ _ _ hown1 hgrow1
        clear HADD hown1 hgrow1 howna hwr hbi2
        go_wp2_with fail
        go_roundw
        case rel=>exact ⟨3 + 1,v2,by omega,by go_num,rfl,HN⟩
        case measure=>simp [intOf]
      · have ee : (((v.g : Int) / 2 ^ (56 - 8 * 4)) % 256) = (((v.g : Int) / 16777216) % 256):=by simp
        rw [ee] at HADD
        clear ee h8
        obtain ⟨bi,hbi⟩ : ∃ bi,bi = (((v.g : Int) / 16777216) % 256):=⟨_,rfl⟩
        rw [← hbi] at HADD
        have hbi2 : (((v.g : Int) / 16777216) % 256) = bi:=hbi.symm
        clear hbi
        go_wp2_with (at_builtin;refine wpList_append_own _ rfl (.tmp 38) (.tmp 46) 26 rfl w0.heap.size 5 i0 (.int .u8 0) 1 1 Tryz.underlying26 HI0 hz0 hz1 hz2 rfl (by decide) _ _ _ rfl (howna _) ⟨wr.heap.size,0,none⟩ 1 1 [.int .u8 bi] rfl rfl (qr_cells wr #[.int .u8 bi] 5 _ rfl) (bc_lit _) (by unfold maxLen;omega) (by omega) (by simp;omega) ?_;intro v2 w5 hown1 hgrow1 _)
        have HN : Hid _:=(show ∀ (o : Obj) (v2 : Value) (w5 : World),_ → _ → _ from HADD) _ _ _ hown1 hgrow1
        clear HADD hown1 hgrow1 howna hwr hbi2
        go_wp2_with fail
        go_roundw
        case rel=>exact ⟨4 + 1,v2,by omega,by go_num,rfl,HN⟩
        case measure=>simp [intOf]
      · have ee : (((v.g : Int) / 2 ^ (56 - 8 * 5)) % 256) = (((v.g : Int) / 65536) % 256):=by simp
        rw [ee] at HADD
        clear ee h8
        obtain ⟨bi,hbi⟩ : ∃ bi,bi = (((v.g : Int) / 65536) % 256):=⟨_,rfl⟩
        rw [← hbi] at HADD
        have hbi2 : (((v.g : Int) / 65536) % 256) = bi:=hbi.symm
        clear hbi
        go_wp2_with (at_builtin;refine wpList_append_own _ rfl (.tmp 38) (.tmp 46) 26 rfl w0.heap.size 5 i0 (.int .u8 0) 1 1 Tryz.underlying26 HI0 hz0 hz1 hz2 rfl (by decide) _ _ _ rfl (howna _) ⟨wr.heap.size,0,none⟩ 1 1 [.int .u8 bi] rfl rfl (qr_cells wr #[.int .u8 bi] 5 _ rfl) (bc_lit _) (by unfold maxLen;omega) (by omega) (by simp;omega) ?_;intro v2 w5 hown1 hgrow1 _)
        have HN : Hid _:=(show ∀ (o : Obj) (v2 : Value) (w5 : World),_ → _ → _ from HADD) _ _ _ hown1 hgrow1
        clear HADD hown1 hgrow1 howna hwr hbi2
        go_wp2_with fail
        go_roundw
        case rel=>exact ⟨5 + 1,v2,by omega,by go_num,rfl,HN⟩
        case measure=>simp [intOf]
      · have ee : (((v.g : Int) / 2 ^ (56 - 8 * 6)) % 256) = (((v.g : Int) / 256) % 256):=by simp
        rw [ee] at HADD
        clear ee h8
        obtain ⟨bi,hbi⟩ : ∃ bi,bi = (((v.g : Int) / 256) % 256):=⟨_,rfl⟩
        rw [← hbi] at HADD
        have hbi2 : (((v.g : Int) / 256) % 256) = bi:=hbi.symm
        clear hbi
        go_wp2_with (at_builtin;refine wpList_append_own _ rfl (.tmp 38) (.tmp 46) 26 rfl w0.heap.size 5 i0 (.int .u8 0) 1 1 Tryz.underlying26 HI0 hz0 hz1 hz2 rfl (by decide) _ _ _ rfl (howna _) ⟨wr.heap.size,0,none⟩ 1 1 [.int .u8 bi] rfl rfl (qr_cells wr #[.int .u8 bi] 5 _ rfl) (bc_lit _) (by unfold maxLen;omega) (by omega) (by simp;omega) ?_;intro v2 w5 hown1 hgrow1 _)
        have HN : Hid _:=(show ∀ (o : Obj) (v2 : Value) (w5 : World),_ → _ → _ from HADD) _ _ _ hown1 hgrow1
        clear HADD hown1 hgrow1 howna hwr hbi2
        go_wp2_with fail
        go_roundw
        case rel=>exact ⟨6 + 1,v2,by omega,by go_num,rfl,HN⟩
        case measure=>simp [intOf]
      · have ee : (((v.g : Int) / 2 ^ (56 - 8 * 7)) % 256) = ((v.g : Int) % 256):=by simp
        rw [ee] at HADD
        clear ee h8
        obtain ⟨bi,hbi⟩ : ∃ bi,bi = ((v.g : Int) % 256):=⟨_,rfl⟩
        rw [← hbi] at HADD
        have hbi2 : ((v.g : Int) % 256) = bi:=hbi.symm
        clear hbi
        go_wp2_with (at_builtin;refine wpList_append_own _ rfl (.tmp 38) (.tmp 46) 26 rfl w0.heap.size 5 i0 (.int .u8 0) 1 1 Tryz.underlying26 HI0 hz0 hz1 hz2 rfl (by decide) _ _ _ rfl (howna _) ⟨wr.heap.size,0,none⟩ 1 1 [.int .u8 bi] rfl rfl (qr_cells wr #[.int .u8 bi] 5 _ rfl) (bc_lit _) (by unfold maxLen;omega) (by omega) (by simp;omega) ?_;intro v2 w5 hown1 hgrow1 _)
        have HN : Hid _:=(show ∀ (o : Obj) (v2 : Value) (w5 : World),_ → _ → _ from HADD) _ _ _ hown1 hgrow1
        clear HADD hown1 hgrow1 howna hwr hbi2
        go_wp2_with fail
        go_roundw
        case rel=>exact ⟨7 + 1,v2,by omega,by go_num,rfl,HN⟩
        case measure=>simp [intOf]
    · obtain rfl : i = 8:=by omega
      have HN : Hid (QK w0 (l ++ cb v) v' wr ∧ Lib.OthersKept 5 none W wr):=by
        rw [List.append_assoc,← he] at hq
        exact (⟨hq,hok⟩ : _ ∧ _)
      clear hq hok HX he hgl hl HE h8
      go_wp2_with fail
      go_ret
      exact ⟨v',rfl,HN.1,HN.2⟩
def BitsC : Prop:=∀ (g : Nat),g < 18446744073709551616 → FloatKind.f64.format.order g g = some .eq → ∀ W : World,Calls Tryz.prog 100 #[.float .f64 g] W fun e w'=>e = .returned (.int .u64 (g : Int)) ∧ Kb 0 W w'
def Rn (n : Int) : Prop:=-9223372036854775808 ≤ n ∧ n ≤ 9223372036854775807
structure Psh (d : Pd) : Prop where
  hx : (d.x.size : Int) ≤ 1048576
  hu : d.u ≤ 250
  hc : d.c ≤ 500
  hn : d.n ≤ 6000
  hd : d.d ≤ 500
  hl : Rn d.l
  hm : Rn d.m
  hg : Rn d.g
  hU : ∀ i,i < d.u → Rn (d.U i).2
  hC : ∀ i,i < d.c → Cok (d.C i) ∧ Rn (d.C i).m ∧ ((d.C i).x.size : Int) ≤ 1048576 ∧ (d.C i).g < 18446744073709551616
  hN : ∀ i,i < d.n → Rn (d.N i).o ∧ Rn (d.N i).a ∧ Rn (d.N i).b ∧ Rn (d.N i).c ∧ Rn (d.N i).d
  hD : ∀ i,i < d.d → ((d.D i).x.size : Int) ≤ 1048576 ∧ Rn (d.D i).g ∧ Rn (d.D i).f ∧ Rn (d.D i).t
theorem two_newE (w : World) (a b : Array Value) (t1 t2 : TypeId) (W : World) (h : W = (w.alloc (.cells a t1)).alloc (.cells b t2)) : W.heap[w.heap.size]? = some (.cells a t1 (0,0)) ∧ W.heap[w.heap.size + 1]? = some (.cells b t2 (0,0)) ∧ W.heap.size = w.heap.size + 2 ∧ Kb 0 w W:=by
  have e : (w.alloc (.cells a t1)).heap.size = w.heap.size + 1:=World.size_alloc _ _
  subst h
  refine ⟨?_,?_,by simp,kb_alloc2 _ _ _ _⟩
  · rw [(kb_alloc 0 _ _).block _ (Nat.zero_le _) (by rw [World.size_alloc];omega)]
    exact alloc_new _ _ _
  · rw [← e]
    exact alloc_new _ _ _
theorem Rn.len {n : Int} (h : Rn n) : (nb n).length ≤ 10:=nb_len h.1 h.2
theorem sp_cst {w0 W : World} {l : List UInt8} {vo : Value} (HB : BitsC) (v : Vv) (hc : Cok v) (hm : Rn v.m) (hx : (v.x.size : Int) ≤ 1048576) (hg : v.g < 18446744073709551616) (hq : QK w0 l vo W) (hl : l.length ≤ 80000000000000) :
    Calls Tryz.prog 42 #[vo,.agg #[.int .i64 v.k,.int .i64 v.m,.float .f64 v.g,.string v.x,.int .i64 v.r]] W (AP w0 W (l ++ cb v)):=by
  obtain ⟨h1,⟨n5,n6,n7⟩,h3,h4⟩:=hc
  have hb : ∀ W : World,Calls Tryz.prog 100 #[.float .f64 v.g] W fun e w'=>e = .returned (.int .u64 (v.g : Int)) ∧ Kb 0 W w':=by
    by_cases k3 : v.k = 3
    · exact HB v.g hg (h3 k3)
    · rw [h4 k3]
      exact HB 0 (by omega) (by decide)
  rcases (by rcases h1 with h | h | h | h | h | h | h | h | h <;> omega : v.k = 0 ∨ v.k = 1 ∨ v.k = 2 ∨ v.k = 3 ∨ v.k = 4 ∨ v.k = 8) with h | h | h | h | h | h
  · rw [h];exact sp_const0 v h hm hx hb hg hq hl
  · rw [h];exact sp_const1 v h hm hx hb hg hq hl
  · rw [h];exact sp_const2 v h hm hx hb hg hq hl
  · rw [h];exact sp_const3 v h hm hx hb hg hq hl
  · rw [h];exact sp_const4 v h hm hx hb hg hq hl
  · rw [h];exact sp_const8 v h hm hx hb hg hq hl
theorem cb_len {v : Vv} (hm : Rn v.m) (hx : (v.x.size : Int) ≤ 1048576) : (cb v).length ≤ 1048600:=by
  have h1:=hm.len
  have h2:=tb_len (x:=v.x) (by omega)
  have h3:=db_len v.g 8
  unfold cb
  rw [List.length_cons]
  split
  · omega
  · split
    · omega
    · split
      · omega
      · simp
theorem ub_len {u : Bool × Int} (h : Rn u.2) : (ub u).length ≤ 11:=by
  have h1:=h.len
  unfold ub fb
  rw [List.length_append,List.length_singleton]
  omega
theorem ib_len {a : Iv} (h : Rn a.o ∧ Rn a.a ∧ Rn a.b ∧ Rn a.c ∧ Rn a.d) : (ib a).length ≤ 50:=by
  obtain ⟨h1,h2,h3,h4,h5⟩:=h
  have:=h1.len;have:=h2.len;have:=h3.len;have:=h4.len;have:=h5.len
  unfold ib
  simp only [List.length_append]
  omega
theorem mb_len {a : Mv} (h : (a.x.size : Int) ≤ 1048576 ∧ Rn a.g ∧ Rn a.f ∧ Rn a.t) : (mb a).length ≤ 1048616:=by
  obtain ⟨h1,h2,h3,h4⟩:=h
  have:=tb_len (x:=a.x) (by omega);have:=h2.len;have:=h3.len;have:=h4.len
  unfold mb
  simp only [List.length_append]
  omega
structure Sok (np : Nat) (F : Nat → Pd) : Prop where
  sz : Szu np F
  hd : ∀ p,p < np → Hd p (F p)
  co : ∀ p,p < np → ∀ i,i < (F p).c → Cok ((F p).C i)
  nm : ∀ p,p < np → ∀ i,i < (F p).d → Nok (F p) i
  nz : ∀ p,p < np → (F p).n ≠ 0
  is : ∀ p,p < np → ∀ i,i < (F p).n → Iok np (F p) i
  fn : ∀ p,p < np → ∀ i,i < (F p).n → P6 F p i
  md : ∀ p,p < np → P7 np F p
theorem sok_of {np : Nat} {F : Nat → Pd} {f n : Nat} (h : Ans 7 np F 0 f n) : Sok np F:=by
  rcases h with ⟨h1,_⟩ | ⟨_,h1,_⟩ | ⟨h1,_,_,_,h5⟩
  · omega
  · omega
  · have l5 : ∀ p, p < np → (F p).n ≠ 0 := fun p hp => by
      have:=h5 5 (by omega) (by omega) p hp 0 (by show 0 < L5 F p;unfold L5;split <;> omega)
      exact this.1
    exact ⟨h1,fun p hp=>h5 2 (by omega) (by omega) p hp 0 (by show 0 < 1;omega),fun p hp i hi=>h5 3 (by omega) (by omega) p hp i hi,fun p hp i hi=>h5 4 (by omega) (by omega) p hp i hi,l5,fun p hp i hi=>(h5 5 (by omega) (by omega) p hp i (by show i < L5 F p;unfold L5;rw [if_neg (l5 p hp)];exact hi)).2,fun p hp i hi=>h5 6 (by omega) (by omega) p hp i hi,fun p hp=>h5 7 (by omega) (by omega) p hp 0 (by show 0 < 1;omega)⟩
def Img (np : Nat) (F : Nat → Pd) (R : List UInt8) : Prop:=∃ c f n,Ans 7 np F c f n ∧ R = (if c = 0 ∧ (eb F np).length ≤ 1000000 then eb F np else [])
theorem Img.uniq {np : Nat} {F : Nat → Pd} {R R' : List UInt8} (h : Img np F R) (h' : Img np F R') : R = R':=by
  obtain ⟨c,f,n,h1,h2⟩:=h
  obtain ⟨c',f',n',h1',h2'⟩:=h'
  obtain ⟨rfl,rfl,rfl⟩:=h1.uniq h1'
  rw [h2,h2']
theorem eb_eq (F : Nat → Pd) (np : Nat) : eb F np = ([72,67,1] ++ nb (np : Int)) ++ ct (fun i=>pb (F i)) np:=by
  unfold eb lb
  rw [List.append_assoc]
theorem ct_mono (f : Nat → List UInt8) {p n : Nat} (h : p ≤ n) : (ct f p).length ≤ (ct f n).length:=by
  induction n with
  | zero=>rw [Nat.le_zero.1 h];exact Nat.le_refl _
  | succ n ih =>
    rcases Nat.lt_or_ge p (n + 1) with q | q
    · have:=ih (by omega)
      show _ ≤ (ct f n ++ f n).length
      rw [List.length_append]
      omega
    · rw [show p = n + 1 by omega]
      exact Nat.le_refl _
theorem pb_len {d : Pd} (h : Psh d) : (pb d).length ≤ 1100000000:=by
  have h1:=tb_len (x:=d.x) (by have:=h.hx;omega)
  have hx:=h.hx
  have h2:=h.hl.len
  have h3:=h.hm.len
  have h4:=h.hg.len
  have u:=h.hu
  have c:=h.hc
  have n:=h.hn
  have dd:=h.hd
  have h5:=nb_len (n:=(d.u : Int)) (by omega) (by omega)
  have h6:=nb_len (n:=(d.c : Int)) (by omega) (by omega)
  have h7:=nb_len (n:=(d.n : Int)) (by omega) (by omega)
  have h8:=nb_len (n:=(d.d : Int)) (by omega) (by omega)
  have k1:=ct_len (f:=fun i=>ub (d.U i)) d.u (fun i hi=>ub_len (h.hU i hi))
  have k2:=ct_len (f:=fun i=>cb (d.C i)) d.c (fun i hi=>cb_len (h.hC i hi).2.1 (h.hC i hi).2.2.1)
  have k3:=ct_len (f:=fun i=>ib (d.N i)) d.n (fun i hi=>ib_len (h.hN i hi))
  have k4:=ct_len (f:=fun i=>mb (d.D i)) d.d (fun i hi=>mb_len (h.hD i hi))
  have f1 : (fb d.r).length = 1:=rfl
  unfold pb lb
  simp only [List.length_append]
  omega
end Go.Proofs.YtnmeemjoodoalaaGreatDoor.Fo
