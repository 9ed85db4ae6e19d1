import Derived.Test.YtomcmnompajnlaaGreatDoorBSdj
import Derived.Test.YtomcmnompajnlaaGreatDoorBSdd
import Derived.Test.YtomcmnompajnlaaGreatDoorBSbk
import Derived.Test.YtomcmnompajnlaaGreatDoorBSda
import Derived.Test.YtomcmnompajnlaaGreatDoorBScc
import Derived.Test.YtomcmnompajnlaaGreatDoorBSbd
import Derived.Test.YtomcmnompajnlaaGreatDoorBRab
import Derived.Test.YtomcmnompajnlaaGreatDoorBShc
import Derived.Test.YtomcmnompajnlaaGreatDoorBQua
import Derived.Test.YtomcmnompajnlaaGreatDoorDXQua
import Derived.Deep.QuietTactic
import Derived.BigQuiet
import Derived.Deep.MidRow
import Derived.Shelf.Strconv.Clone
import Derived.Test.YtomcmnompajnlaaGreatDoorProg
import Derived.Lib.ConvBytes
import Derived.Lib.AtoiErrMem
import Derived.Lib.AtoiAllMem
import Derived.Laws.Closers25
import Derived.Laws.Closers25b
import Derived.BigCall
import Derived.BigGuard
import Derived.Lib.IfaceNeq
import Derived.Lib.IfaceEq
import Derived.Deep.RegionWith
import Derived.RangeFuncNested
import Derived.RangeFuncBound
import Derived.RangeFuncCalls
import Derived.RangeFuncLeaves
import Derived.Shelf.Abstract
import Derived.Shelf.RegionOpen
import Derived.WalkKit
import Derived.OwnWalkIn
import Derived.TacticsInMore
import Derived.LoopNIn
import Derived.LoopIn
import Derived.Maps.AppendAt
import Derived.Lib.BufferRead
import Derived.BigRegion
import Derived.Deep.Cut
import Derived.Deep.CutBlock
import Derived.Deep.Light
import Derived.Deep.RegionHeldLaw
set_option maxRecDepth 100000
set_option maxHeartbeats 2000000
namespace Go.Proofs.YtomcmnompajnlaaGreatDoor
open Go.ChangeShapes Go.WideShapes Go.ChangeAt Go.RowKit
set_option linter.unusedVariables false
theorem conv_one (W:World) (c:UInt8):(convert 86 9 (.slice (some ⟨W.heap.size,0,none⟩) 1 1)).run Tryz.prog (W.alloc (.cells #[.int .u8 (c.toNat:Int)] 5)) = .ok (.string ⟨#[c]⟩) (W.alloc (.cells #[.int .u8 (c.toNat:Int)] 5)):=by
  have:=run_convert_bytes_back (P:=Tryz.prog) (W.alloc (.cells #[.int .u8 (c.toNat:Int)] 5)) 86 9 5 ⟨W.heap.size,0,none⟩ 1 [c] Tryz.underlying86 Tryz.underlying5 Tryz.underlying9 (fun j hj=>by
    obtain rfl:j=0:=by simp at hj;omega
    simp [Addr.add])
  simpa using this
theorem qr_cells_d (w:World) (c:Array Value) (t:TypeId) (l:List Value) (hl:c.toList=l):∀ j u,l[j]? = some u→(w.alloc (.cells c t)).drew.cell? ((⟨w.heap.size,0,none⟩:Addr).add j)=some u:=qr_cells w c t l hl
def FinQ (w wr:World) (L:List UInt8) (k:Nat) (x:UInt8) (v:Value):Prop :=
  ∀ (m:List UInt8) (o:Obj) (v':Value) (w1:World),qel x=m→w1.ownsRow w.heap.size 5 1 v' ((quo L k).length+m.length) (Lib.byteCells (quo L k) ++ Lib.byteCells m)→(wr.alloc o).grownBy w1 v.ownBlock→Hid (QR w (quo L (k+1)) v' w1)
def FinC (w wr:World) (L:List UInt8) (v:Value):Prop :=
  ∀ (o:Obj) (v':Value) (w1:World),w1.ownsRow w.heap.size 5 1 v' ((quo L L.length).length+1) (Lib.byteCells (quo L L.length) ++ Lib.byteCells [34])→(wr.alloc o).grownBy w1 v.ownBlock→(convert 86 9 v').run Tryz.prog w1 = .ok (Value.string (ByteArray.mk (quo L L.length ++ [34]).toArray)) w1∧Below w.heap.size w w1
theorem spec_quote (T : ByteArray) (L : List UInt8) (hT : T.data.toList = L) (hlen : L.length ≤ 4000) (w : World) :
    Calls Tryz.prog 78 #[.string T] w fun e w'=>e = .returned (.string ⟨(quo L L.length ++ [34]).toArray⟩)∧Below w.heap.size w w':=by
  have hsz:T.size=L.length:=by rw [← hT];simp
  have HX:=fun k c hk=>ix T L hT k c hk
  obtain ⟨i0,hi,hz0,hz1,hz2⟩:=info_parts info5
  have HI:Hid (Tryz.prog.info? 5=some i0):=hi
  have h0:QR w (quo L 0) (.slice (some ⟨w.heap.size,0,none⟩) 1 1) (w.alloc (.cells #[.int .u8 34] 5)):=by
    rw [quo_zero]
    exact ⟨World.ownsRow_lit w #[.int .u8 34] 1 (Nat.le_refl _) (by unfold maxLen;omega) (by simp),(Below.refl _ w).alloc (Nat.le_refl _) _⟩
  have H0:Hid (QR w (quo L 0) (.slice (some ⟨w.heap.size,0,none⟩) 1 1) (w.alloc (.cells #[.int .u8 34] 5))):=h0
  clear h0
  go_enter Tryz.func78,Tryz.ntmps78
  go_wp2_with fail
  go_loopw [4,5] (fun s i wr=>∃ (k:Nat) (v:Value),v=s∧k≤L.length∧i = .int .i64 k∧Hid (QR w (quo L k) v wr)) (fun _ i _=>L.length - (intOf i).toNat)
  case atStart=>exact ⟨0,_,rfl,by omega,rfl,H0⟩
  case round =>
    clear H0
    obtain ⟨k,v,hv,hk,rfl,HQ⟩:=hrel
    subst hv
    have hQ:=(show QR w (quo L k) v wr from HQ)
    have hql:=quo_len L k
    have hbs:=hQ.2.size
    have howna:=fun o:Obj=>hQ.1.alloc o
    have hownd:∀ o:Obj,((wr.drew).alloc o).ownsRow w.heap.size 5 1 v (quo L k).length (Lib.byteCells (quo L k)):=fun o=>hQ.1.alloc o
    by_cases hkn:k < L.length
    · have hxx:L[k]? = some L[k]:=List.getElem?_eq_getElem hkn
      have hgx:=HX k L[k] hxx
      have hqs:=quo_succ L k L[k] hxx
      generalize L[k]=x at hgx hqs
      have hxl:=x.toNat_lt
      clear HX hT hxx
      have fin:∀ (m:List UInt8) (o:Obj) (v':Value) (w1:World),qel x=m→w1.ownsRow w.heap.size 5 1 v' ((quo L k).length+m.length) (Lib.byteCells (quo L k) ++ Lib.byteCells m)→(wr.alloc o).grownBy w1 v.ownBlock→Hid (QR w (quo L (k+1)) v' w1):=by
        intro m o v' w1 hm ho hg
        show QR w (quo L (k+1)) v' w1
        rw [hqs,hm]
        exact qr_step hQ ho hg
      have FIN:FinQ w wr L k x v:=fin
      clear hqs fin
      have hkk:(k:Int) < 4000:=by omega
      by_cases hc:x.toNat=10
      · have hq:qel x = [92,110]:=by unfold qel;rw [if_pos hc]
        have hxi:(x.toNat:Int)=10:=by omega
        rw [hxi] at hgx
        clear hc hxi
        go_wp2_with (at_builtin;refine wpList_append_own _ rfl (.tmp 24) (.tmp 25) 86 rfl w.heap.size 5 i0 (.int .u8 0) 1 1 Tryz.underlying86 HI hz0 hz1 hz2 rfl (by decide) _ _ _ rfl (howna _) ⟨wr.heap.size,0,none⟩ 2 2 [.int .u8 92,.int .u8 110] rfl rfl (qr_cells wr #[.int .u8 92,.int .u8 110] 5 _ rfl) (bc_one [92,110]) (by unfold maxLen;omega) (by omega) (by simp;omega) ?_;intro v' w1 hown1 hgrow1 _)
        have HN:=FIN [92,110] _ _ _ hq hown1 hgrow1
        clear FIN hown1 hgrow1 HQ hQ howna
        go_wp2_with fail
        go_roundw
        case rel=>exact ⟨k+1,_,rfl,by omega,by go_num,HN⟩
        case measure=>simp [intOf];omega
      have n10:=hc
      clear hc
      by_cases hc:x.toNat=9
      · have hq:qel x = [92,116]:=by unfold qel;rw [if_neg n10,if_pos hc]
        have hxi:(x.toNat:Int)=9:=by omega
        rw [hxi] at hgx
        clear hc hxi n10
        go_wp2_with (at_builtin;refine wpList_append_own _ rfl (.tmp 30) (.tmp 31) 86 rfl w.heap.size 5 i0 (.int .u8 0) 1 1 Tryz.underlying86 HI hz0 hz1 hz2 rfl (by decide) _ _ _ rfl (howna _) ⟨wr.heap.size,0,none⟩ 2 2 [.int .u8 92,.int .u8 116] rfl rfl (qr_cells wr #[.int .u8 92,.int .u8 116] 5 _ rfl) (bc_one [92,116]) (by unfold maxLen;omega) (by omega) (by simp;omega) ?_;intro v' w1 hown1 hgrow1 _)
        have HN:=FIN [92,116] _ _ _ hq hown1 hgrow1
        clear FIN hown1 hgrow1 HQ hQ howna
        go_wp2_with fail
        go_roundw
        case rel=>exact ⟨k+1,_,rfl,by omega,by go_num,HN⟩
        case measure=>simp [intOf];omega
      have n9:=hc
      clear hc
      by_cases hc:x.toNat=34
      · have hq:qel x = [92,34]:=by unfold qel;rw [if_neg n10,if_neg n9,if_pos hc]
        have hxi:(x.toNat:Int)=34:=by omega
        rw [hxi] at hgx
        clear hc hxi n10 n9
        go_wp2_with (at_builtin;refine wpList_append_own _ rfl (.tmp 40) (.tmp 42) 86 rfl w.heap.size 5 i0 (.int .u8 0) 1 1 Tryz.underlying86 HI hz0 hz1 hz2 rfl (by decide) _ _ _ rfl (howna _) ⟨wr.heap.size,0,none⟩ 2 2 [.int .u8 92,.int .u8 34] rfl rfl (qr_cells wr #[.int .u8 92,.int .u8 34] 5 _ rfl) (bc_one [92,34]) (by unfold maxLen;omega) (by omega) (by simp;omega) ?_;intro v' w1 hown1 hgrow1 _)
        have HN:=FIN [92,34] _ _ _ hq hown1 hgrow1
        clear FIN hown1 hgrow1 HQ hQ howna
        go_wp2_with fail
        go_roundw
        case rel=>exact ⟨k+1,_,rfl,by omega,by go_num,HN⟩
        case measure=>simp [intOf];omega
      have n34:=hc
      clear hc
      by_cases hc:x.toNat=92
      · have hq:qel x = [92,92]:=by unfold qel;rw [if_neg n10,if_neg n9,if_neg n34,if_pos hc]
        have hxi:(x.toNat:Int)=92:=by omega
        rw [hxi] at hgx
        clear hc hxi n10 n9 n34
        go_wp2_with (at_builtin;refine wpList_append_own _ rfl (.tmp 40) (.tmp 42) 86 rfl w.heap.size 5 i0 (.int .u8 0) 1 1 Tryz.underlying86 HI hz0 hz1 hz2 rfl (by decide) _ _ _ rfl (howna _) ⟨wr.heap.size,0,none⟩ 2 2 [.int .u8 92,.int .u8 92] rfl rfl (qr_cells wr #[.int .u8 92,.int .u8 92] 5 _ rfl) (bc_one [92,92]) (by unfold maxLen;omega) (by omega) (by simp;omega) ?_;intro v' w1 hown1 hgrow1 _)
        have HN:=FIN [92,92] _ _ _ hq hown1 hgrow1
        clear FIN hown1 hgrow1 HQ hQ howna
        go_wp2_with fail
        go_roundw
        case rel=>exact ⟨k+1,_,rfl,by omega,by go_num,HN⟩
        case measure=>simp [intOf];omega
      have n92:=hc
      clear hc
      by_cases hc:x.toNat < 32∨126 < x.toNat
      · have hq:qel x = [92,120,hx (x.toNat / 16),hx (x.toNat % 16)]:=by unfold qel;rw [if_neg n10,if_neg n9,if_neg n34,if_neg n92,if_pos hc]
        have hi1:=ixh (x.toNat / 16) (by omega)
        have hi2:=ixh (x.toNat % 16) (by omega)
        have i1:((x.toNat:Int) == 10)=false:=by simp;omega
        have i2:((x.toNat:Int) == 9)=false:=by simp;omega
        have i3:((x.toNat:Int) == 34)=false:=by simp;omega
        have i4:((x.toNat:Int) == 92)=false:=by simp;omega
        have hcc:(x.toNat:Int) < 32∨(¬ (x.toNat:Int) < 32∧126 < (x.toNat:Int)):=by omega
        have hxe:(Lib.byteCells [92,120,hx (x.toNat / 16),hx (x.toNat % 16)]) = [.int .u8 92,.int .u8 120,.int .u8 ((hx (x.toNat / 16)).toNat:Int),.int .u8 ((hx (x.toNat % 16)).toNat:Int)]:=rfl
        have h1c:=bc_one [92,120,hx (x.toNat / 16),hx (x.toNat % 16)]
        rw [hxe] at h1c
        rw [show ((x.toNat / 16:Nat):Int)=(x.toNat:Int) / 16 by omega] at hi1
        rw [show ((x.toNat % 16:Nat):Int)=(x.toNat:Int) % 16 by omega] at hi2
        generalize hd1:((hx (x.toNat / 16)).toNat:Int)=d1 at hi1 h1c hxe
        generalize hd2:((hx (x.toNat % 16)).toNat:Int)=d2 at hi2 h1c hxe
        generalize hd0:(x.toNat:Int)=xi at hgx hi1 hi2 i1 i2 i3 i4 hcc
        have hx0 : 0≤xi:=by omega
        have hx1:xi < 256:=by omega
        have hbt:bits BinOp.and IntKind.u8 xi 15=xi % 16:=by go_bits;trivial
        generalize xi % 16=r2 at hbt hi2
        clear n10 n9 n34 n92 hc
        rcases hcc with hcc | ⟨i5,hcc⟩
        all_goals
          go_wp2_with fail
          go_region_held_law (fun _=>True) (trivial) ((refine step_append_own rfl (.tmp 51) (.tmp 60) 86 rfl w.heap.size 5 i0 (.int .u8 0) 1 1 Tryz.underlying86 HI hz0 hz1 hz2 rfl (by decide) v _ _ rfl (hownd _) ⟨wr.heap.size,0,none⟩ 4 4 [.int .u8 92,.int .u8 120,.int .u8 d1,.int .u8 d2] rfl rfl (qr_cells_d wr #[.int .u8 92,.int .u8 120,.int .u8 d1,.int .u8 d2] 5 _ rfl) h1c (by unfold maxLen;omega) (by omega) (by simp;omega) ?_;intro v' w1 hown1 hgrow1 _))
          all_goals
            have HN:=FIN [92,120,hx (x.toNat / 16),hx (x.toNat % 16)] (.cells #[.int .u8 92,.int .u8 120,.int .u8 d1,.int .u8 d2] 5) _ _ hq (by rw [hxe];exact hown1) (by obtain ⟨g1,g2,g3,g4,g5⟩:=hgrow1;exact ⟨g1,g2,g3,g4,g5⟩)
            clear FIN hown1 hgrow1 HQ hQ howna hownd
            go_wp2_with fail
            go_roundw
            case rel=>exact ⟨k+1,_,rfl,by omega,by go_num,HN⟩
            case measure=>simp [intOf];omega
      · have hq:qel x = [x]:=by unfold qel;rw [if_neg n10,if_neg n9,if_neg n34,if_neg n92,if_neg hc]
        have i1:((x.toNat:Int) == 10)=false:=by simp;omega
        have i2:((x.toNat:Int) == 9)=false:=by simp;omega
        have i3:((x.toNat:Int) == 34)=false:=by simp;omega
        have i4:((x.toNat:Int) == 92)=false:=by simp;omega
        have i5:¬ (x.toNat:Int) < 32:=by omega
        have i6:¬ 126 < (x.toNat:Int):=by omega
        clear n10 n9 n34 n92 hc
        have hxe:(Lib.byteCells [x]) = [.int .u8 (x.toNat:Int)]:=rfl
        have h1c:∀ u ∈ [Value.int .u8 (x.toNat:Int)],u.oneCell'=true:=bc_one [x]
        generalize hxi:(x.toNat:Int)=xi at hgx i1 i2 i3 i4 i5 i6 hxe h1c
        go_wp2_with (at_builtin;refine wpList_append_own _ rfl (.tmp 17) (.tmp 19) 86 rfl w.heap.size 5 i0 (.int .u8 0) 1 1 Tryz.underlying86 HI hz0 hz1 hz2 rfl (by decide) _ _ _ rfl (howna _) ⟨wr.heap.size,0,none⟩ 1 1 [.int .u8 xi] rfl rfl (qr_cells wr #[.int .u8 xi] 5 _ rfl) h1c (by unfold maxLen;omega) (by omega) (by simp;omega) ?_;intro v' w1 hown1 hgrow1 _)
        have HN:=FIN [x] _ _ _ hq (by rw [hxe];exact hown1) hgrow1
        clear FIN hown1 hgrow1 HQ hQ howna hownd
        go_wp2_with fail
        go_roundw
        case rel=>exact ⟨k+1,_,rfl,by omega,by go_num,HN⟩
        case measure=>simp [intOf];omega
    · obtain rfl:k=L.length:=by omega
      have HC:FinC w wr L v :=
        (fun o v' w1 ho hg=>by
          have hN:=qr_step (m:=[34]) hQ ho hg
          exact ⟨conv_row (by simp) hN,hN.2⟩)
      clear HX hT
      go_wp2_with (at_builtin;refine wpList_append_own _ rfl (.tmp 62) (.tmp 63) 86 rfl w.heap.size 5 i0 (.int .u8 0) 1 1 Tryz.underlying86 HI hz0 hz1 hz2 rfl (by decide) _ _ _ rfl (howna _) ⟨wr.heap.size,0,none⟩ 1 1 [.int .u8 34] rfl rfl (qr_cells wr #[.int .u8 34] 5 _ rfl) (bc_one [34]) (by unfold maxLen;omega) (by omega) (by simp;omega) ?_;intro v' w1 hown1 hgrow1 _)
      obtain ⟨hcv,hbl⟩:=HC _ _ _ hown1 hgrow1
      clear HC hown1 hgrow1 HQ hQ howna hownd
      go_wp2_with fail
      rw [hcv]
      go_wp2_with fail
      go_ret
      exact ⟨rfl,hbl⟩
end Go.Proofs.YtomcmnompajnlaaGreatDoor
