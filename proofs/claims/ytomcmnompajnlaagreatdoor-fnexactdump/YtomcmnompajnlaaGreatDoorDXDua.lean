import Derived.Test.YtomcmnompajnlaaGreatDoorBSdj
import Derived.Test.YtomcmnompajnlaaGreatDoorDXSea
import Derived.Deep.RegionHeldLaw
import Derived.Test.YtomcmnompajnlaaGreatDoorBTud
import Derived.Test.YtomcmnompajnlaaGreatDoorBQsh
import Derived.Test.YtomcmnompajnlaaGreatDoorDXQua
import Derived.Test.YtomcmnompajnlaaGreatDoorBQua
import Derived.Shelf.Strings.Builder1
import Derived.BigRegion
import Derived.Test.YtomcmnompajnlaaGreatDoorDXDsh
import Derived.Lib.ItoaLen
import Derived.Test.YtomcmnompajnlaaGreatDoorBBab
import Derived.Test.YtomcmnompajnlaaGreatDoorCSka
import Derived.Test.YtomcmnompajnlaaGreatDoorCBaf
import Derived.Test.YtomcmnompajnlaaGreatDoorDXBao
import Derived.Deep.Slices
import Derived.SizedLaws
import Derived.Carry
import Derived.Deep.QuietTactic
import Derived.BigQuiet
import Derived.Test.YtomcmnompajnlaaGreatDoorBShc
import Derived.Deep.MidRow
import Derived.Shelf.Strconv.Clone
import Derived.Test.YtomcmnompajnlaaGreatDoorProg
import Derived.Deep.Upon
import Derived.Deep.AppendLies
set_option maxRecDepth 100000
set_option maxHeartbeats 8000000
namespace Go.Proofs.YtomcmnompajnlaaGreatDoor
open Go.ChangeShapes Go.WideShapes Go.ChangeAt Go.RowKit
set_option linter.unusedVariables false
def w10 (n:Nat):List UInt8:=if n=0 then [] else Lib.decDigits n
theorem w10_zero:w10 0 = []:=rfl
theorem w10_pos (n:Nat) (h:n ≠ 0):w10 n=w10 (n / 10) ++ [UInt8.ofNat (48+n % 10)]:=by
  unfold w10
  rw [if_neg h,Lib.decDigits]
  by_cases g:n < 10
  · rw [dif_pos g,if_pos (by omega),Nat.mod_eq_of_lt g];rfl
  · rw [dif_neg g,if_neg (by omega)]
theorem w10_len:∀ (k n:Nat),n < 2 ^ k→(w10 n).length≤k:=by
  intro k
  induction k with
  | zero => intro n h; have : n = 0 := by simpa using h
            subst this;simp [w10]
  | succ k ih =>
    intro n h
    by_cases g:n=0
    · subst g;simp [w10]
    · rw [w10_pos n g,List.length_append]
      have:=ih (n / 10) (by rw [Nat.pow_succ] at h;omega)
      simpa using this
theorem dgt_nat (r:Nat) (h:r < 10):(UInt8.ofNat (48+r)).toNat=48+r:=by
  rw [UInt8.toNat_ofNat',Nat.mod_eq_of_lt (by omega)]
structure Dq (w:World) (acc:List UInt8) (v:Value) (W:World):Prop where
  bel:Below w.heap.size w W
  row:W.ownsRow w.heap.size 5 1 v acc.length (Lib.byteCells acc)
theorem Dq.add {w : World} {acc : List UInt8} {v v' : Value} {W w1 : World} {o : Obj} (b : UInt8) (h : Dq w acc v W)
    (ho:w1.ownsRow w.heap.size 5 1 v' (acc.length+1) (Lib.byteCells acc ++ Lib.byteCells [b])) (hg:(W.alloc o).grownBy w1 v.ownBlock):Dq w (acc ++ [b]) v' w1:=by
  have hb:=h.bel
  have hsz:=hb.size
  have hblk:∀ i,i < w.heap.size→w1.heap[i]? = W.heap[i]?:=fun i hi=>(hg.block i (by simp;omega) (fun e2=>by have:=(h.row.lt i e2.symm).1;omega)).trans (Below.heap_alloc _ _ _ (by omega))
  have hgs:=hg.size
  refine ⟨⟨hg.os.trans hb.os,hg.tape.trans hb.tape,hg.output.trans hb.output,?_,fun i hi=>?_⟩,?_⟩
  · simp at hgs;omega
  · rw [hblk i hi];exact hb.block i hi
  · rw [List.length_append,bc_append];exact ho
def DcI (w:World) (n j:Nat) (acc:List UInt8) (v:Value) (W:World):Prop:=Dq w acc v W∧w10 n=w10 j ++ acc.reverse∧acc.length≤64
def DcO (w:World) (acc:List UInt8) (g:Nat) (i:Nat) (W:World):Prop:=Below w.heap.size w W∧g < W.heap.size∧∀ j x,acc[j]? = some x→W.cell? ⟨g,j,none⟩=some (.int .u8 (x.toNat:Int))
theorem spec_dcp (n:Nat) (hn:(n:Int) < 9223372036854775808) (h0:n ≠ 0) (w:World):Calls Tryz.prog 77 #[.int .i64 (n:Int)] w fun e w'=>e = .returned (.string ⟨(Lib.decDigits n).toArray⟩)∧Below w.heap.size w w':=by
  have e:Lib.decDigits n=w10 n:=by unfold w10;rw [if_neg h0]
  rw [e]
  have hnI:((n:Int) == 0)=false:=by rw [beq_eq_false_iff_ne];omega
  have hnN:¬ (n:Int) < 0:=by omega
  have hwl:=w10_len 64 n (by omega)
  obtain ⟨i0,hi0,hz0,hz1,hz2⟩:=info_parts info5
  have HI0:Hid (Tryz.prog.info? 5=some i0):=hi0
  have HT0:Hid (DcI w n n [] (.slice none 0 0) w):=(⟨⟨Below.refl _ _,World.ownsRow_nil _ _ _ _⟩,by simp,by simp⟩:_∧_∧_)
  have HWL:Hid ((w10 n).length≤64):=hwl
  obtain ⟨M,hM,hnM⟩:∃ M:Int,M≤9223372036854775807∧(n:Int)≤M:=⟨n,by omega,Int.le_refl _⟩
  have HM:Hid (M≤9223372036854775807∧(n:Int)≤M):=(⟨hM,hnM⟩:_∧_)
  have HN0:Hid (n ≠ 0):=h0
  clear e hwl hi0 h0 hn hM hnM
  go_enter Tryz.func77,Tryz.ntmps77
  go_upto_block 0 with fail
  go_wp2_with fail
  clear hnI hnN
  go_loopw [0,4] (fun s0 s4 wr=>∃ (j:Nat) (acc:List UInt8) (v:Value),s0 = .int .i64 (j:Int)∧v=s4∧j≤n∧DcI w n j acc v wr) (fun s0 _ _=>(intOf s0).toNat)
  case atStart=>exact ⟨n,[],.slice none 0 0,rfl,rfl,Nat.le_refl _,HT0⟩
  case round =>
    clear HT0
    obtain ⟨j,acc,v,rfl,hvv,hj,HI⟩:=hrel
    subst hvv
    obtain ⟨hD,hW,hA⟩:=(show Dq w acc v wr∧w10 n=w10 j ++ acc.reverse∧acc.length≤64 from HI)
    clear HI
    by_cases hj0:j=0
    · subst hj0
      rw [w10_zero,List.nil_append] at hW
      have hrow:=hD.row
      have hpos : 0 < acc.length:=by
        have h1:=congrArg List.length hW
        rw [w10_pos n HN0,List.length_append,List.length_reverse] at h1
        simp at h1
        omega
      obtain ⟨g,cap,rfl,hcap⟩:∃ g cap,v = .slice (some ⟨g,0,none⟩) acc.length cap∧acc.length≤cap:=by
        rcases hrow.2 with ⟨_,h⟩ | ⟨g,cap,cur,h1,_,_,h2,_⟩
        · omega
        · exact ⟨g,cap,h1,h2⟩
      have hcl:∀ j x,acc[j]? = some x→wr.cell? ⟨g,j,none⟩=some (.int .u8 (x.toNat:Int)):=by
        intro j x hx
        have:=hrow.cells (g:=g) rfl j (.int .u8 (x.toNat:Int)) (by simp [Lib.byteCells,hx])
        rw [addr_add] at this
        exact this
      have HO:Hid (DcO w acc g 0 wr):=(⟨hD.bel,by
        obtain ⟨x,hx⟩:∃ x,acc[0]? = some x:=⟨acc[0],List.getElem?_eq_getElem hpos⟩
        exact Rd.lt_of_cell (hcl 0 x hx),hcl⟩:_∧_∧_)
      have HW:Hid (w10 n=acc.reverse):=hW
      have hA2:(acc.length:Int)≤64:=by omega
      clear hD hW hrow hcl hj HWL HM hz0 hz1 hz2 HI0 HN0
      go_wp2_with fail
      go_loopw [6,7] (fun s6 s7 wr=>∃ i:Nat,i≤acc.length∧s7 = .int .i64 ((i:Int) - 1)∧s6 = .string ⟨(acc.reverse.take (acc.length - i)).toArray⟩∧DcO w acc g 0 wr) (fun _ s7 _=>(intOf s7+1).toNat)
      case atStart=>exact ⟨acc.length,Nat.le_refl _,by go_num,by rw [Nat.sub_self];rfl,HO⟩
      case round =>
        clear HO
        obtain ⟨i,hi,hs7,rfl,HQ⟩:=hrel
        cases i with
        | zero =>
          have e7:((0:Nat):Int) - 1 = -1:=rfl
          rw [e7] at hs7
          subst hs7
          have eo:acc.reverse.take (acc.length - 0)=w10 n:=by rw [show w10 n=acc.reverse from HW,Nat.sub_zero,← List.length_reverse,List.take_length]
          rw [eo]
          have HE:Hid (Below w.heap.size w wr):=HQ.1
          clear HQ eo e7 HW
          go_wp2_with fail
          go_ret
          exact ⟨rfl,HE⟩
        | succ i =>
          have e7:((i+1:Nat):Int) - 1=(i:Int):=by omega
          rw [e7] at hs7
          subst hs7
          obtain ⟨q1,q2,q3⟩:=(show Below w.heap.size w wr∧g < wr.heap.size∧∀ j x,acc[j]? = some x→wr.cell? ⟨g,j,none⟩=some (.int .u8 (x.toNat:Int)) from HQ)
          have hx:acc[i]? = some acc[i]:=List.getElem?_eq_getElem (by omega)
          have hc:=q3 i _ hx
          have hcv:=conv_one wr acc[i]
          have hiI:(i:Int) < (acc.length:Int):=by omega
          have hi0:(0:Int)≤(i:Int):=by omega
          have htk:acc.reverse.take (acc.length - i)=acc.reverse.take (acc.length - (i+1)) ++ [acc[i]]:=by
            rw [show acc.length - i=(acc.length - (i+1))+1 by omega]
            have hr:acc.reverse[acc.length - (i+1)]? = some acc[i]:=by
              rw [List.getElem?_reverse (by omega),show acc.length - 1 - (acc.length - (i+1))=i by omega]
              exact hx
            rw [List.take_add_one,hr]
            rfl
          have HTK:Hid ((⟨(acc.reverse.take (acc.length - (i+1))).toArray⟩:ByteArray) ++ ⟨#[acc[i]]⟩=⟨(acc.reverse.take (acc.length - i)).toArray⟩):=by
            show (_:ByteArray) = _
            rw [htk]
            apply ByteArray.ext
            simp
          have hsz:(⟨(acc.reverse.take (acc.length - (i+1))).toArray⟩:ByteArray).size≤64:=by
            show (acc.reverse.take (acc.length - (i+1))).toArray.size≤64
            simp
            omega
          have HN:Hid (DcO w acc g 0 (wr.alloc (.cells #[.int .u8 (acc[i].toNat:Int)] 5))):=(⟨q1.alloc q1.size _,by simp;omega,fun j x hx=>by
            have e:=World.cell?_of_block (a:=⟨g,j,none⟩) (Below.heap_alloc wr (.cells #[.int .u8 (acc[i].toNat:Int)] 5) g q2)
            rw [e];exact q3 j x hx⟩:_∧_∧_)
          clear HQ q1 q2 q3 hx htk HW
          generalize (⟨(acc.reverse.take (acc.length - (i+1))).toArray⟩:ByteArray)=O1 at *
          generalize acc[i]=xx at *
          have hsz2:¬ 9223372036854775807 < O1.size+1:=by omega
          go_wp2_with fail
          go_roundw
          case rel=>exact ⟨i,by omega,by go_num,by rw [← (show O1 ++ ⟨#[xx]⟩=(⟨(acc.reverse.take (acc.length - i)).toArray⟩:ByteArray) from HTK)],HN⟩
          case measure=>first | (simp [intOf];done) | (simp [intOf];omega)
    · have hjI:((j:Int) != 0)=true:=by rw [bne,show ((j:Int) == 0)=false by rw [beq_eq_false_iff_ne];omega];rfl
      have hjn:((j:Int) == 0)=false:=by rw [beq_eq_false_iff_ne];omega
      have hq:Int.tmod (j:Int) 10=((j % 10:Nat):Int):=rfl
      have hq2:Int.tdiv (j:Int) 10=((j / 10:Nat):Int):=rfl
      have dx2:(UInt8.ofNat (48+j % 10)).toNat=48+j % 10:=dgt_nat _ (by omega)
      have hstep:=w10_pos j hj0
      have hd0:(0:Int)≤((j % 10:Nat):Int):=by omega
      have hd1:((j % 10:Nat):Int) < 10:=by omega
      have hdn:¬ ((j % 10:Nat):Int) < 0:=by omega
      have hbc:Lib.byteCells [UInt8.ofNat (48+j % 10)] = [.int .u8 (48+((j % 10:Nat):Int))]:=by
        show [Value.int .u8 ((UInt8.ofNat (48+j % 10)).toNat:Int)] = _
        rw [dx2];congr 2
      have h1c:=bc_one [UInt8.ofNat (48+j % 10)]
      rw [hbc] at h1c
      have hlen:acc.length+1≤64:=by
        have h1:=congrArg List.length hW
        rw [hstep,List.length_append,List.length_append,List.length_reverse] at h1
        have:=(show (w10 n).length≤64 from HWL)
        simp at h1
        omega
      have HADD:Hid (∀ (o:Obj) (v':Value) (w5:World),w5.ownsRow w.heap.size 5 1 v' (acc.length+1) (Lib.byteCells acc ++ [.int .u8 (48+((j % 10:Nat):Int))])→(wr.alloc o).grownBy w5 v.ownBlock→DcI w n (j / 10) (acc ++ [UInt8.ofNat (48+j % 10)]) v' w5) :=
        (fun o v' w5 ho hg=>⟨hD.add _ (by rw [hbc];exact ho) hg,by rw [hW,hstep,List.reverse_append];simp,by rw [List.length_append];simpa using hlen⟩:∀ (o:Obj) (v':Value) (w5:World),w5.ownsRow w.heap.size 5 1 v' (acc.length+1) (Lib.byteCells acc ++ [.int .u8 (48+((j % 10:Nat):Int))])→(wr.alloc o).grownBy w5 v.ownBlock→DcI w n (j / 10) (acc ++ [UInt8.ofNat (48+j % 10)]) v' w5)
      have howna:∀ o:Obj,(wr.alloc o).ownsRow w.heap.size 5 1 v acc.length (Lib.byteCells acc):=fun o=>hD.row.alloc o
      have hs4:=hD.bel.size
      obtain ⟨jq,hjq⟩:∃ jq,j / 10=jq:=⟨_,rfl⟩
      rw [hjq] at hq2 HADD
      have hjl:jq < j:=by omega
      have hjw:wrap64 (jq:Int)=(jq:Int):=by
        have hM:=(show M≤9223372036854775807∧(n:Int)≤M from HM)
        unfold wrap64
        omega
      clear hD hW hstep hbc dx2 hA hjq
      generalize UInt8.ofNat (48+j % 10)=dd at *
      generalize ((j % 10:Nat):Int)=r at *
      go_wp2_with (at_builtin;refine wpList_append_own _ rfl (.tmp 20) (.tmp 24) 86 rfl w.heap.size 5 i0 (.int .u8 0) 1 1 Tryz.underlying86 HI0 hz0 hz1 hz2 rfl (by decide) _ _ _ rfl (howna _) ⟨wr.heap.size,0,none⟩ 1 1 [.int .u8 (48+r)] rfl rfl (qr_cells wr #[.int .u8 (48+r)] 5 _ rfl) h1c (by unfold maxLen;omega) (by omega) (by simp;omega) ?_;intro v' w5 hown1 hgrow1 _)
      have hN:=(show ∀ (o:Obj) (v':Value) (w5:World),w5.ownsRow w.heap.size 5 1 v' (acc.length+1) (Lib.byteCells acc ++ [.int .u8 (48+r)])→(wr.alloc o).grownBy w5 v.ownBlock→DcI w n jq (acc ++ [dd]) v' w5 from HADD) _ _ _ hown1 hgrow1
      clear HADD hown1 hgrow1 howna
      go_wp2_with fail
      go_roundw
      case rel=>exact ⟨jq,acc ++ [dd],v',by rw [hjw],rfl,by omega,hN⟩
      case measure =>
        rw [hjw]
        clear HWL HM hjw hq hq2
        simp [intOf]
        exact hjl
theorem spec_dcn (n:Nat) (hn:(n:Int)≤9223372036854775808) (h0:n ≠ 0) (w:World):Calls Tryz.prog 77 #[.int .i64 (-(n:Int))] w fun e w'=>e = .returned (.string ⟨(45 :: Lib.decDigits n).toArray⟩)∧Below w.heap.size w w':=by
  have e:Lib.decDigits n=w10 n:=by unfold w10;rw [if_neg h0]
  rw [e]
  have hnI:(-(n:Int) == 0)=false:=by rw [beq_eq_false_iff_ne];omega
  have hnN : -(n:Int) < 0:=by omega
  have hnP:(0:Int) < (n:Int):=by omega
  have hnQ : 0 < n:=by omega
  have hwl:=w10_len 64 n (by omega)
  obtain ⟨i0,hi0,hz0,hz1,hz2⟩:=info_parts info5
  have HI0:Hid (Tryz.prog.info? 5=some i0):=hi0
  have HT0:Hid (DcI w n n [] (.slice none 0 0) w):=(⟨⟨Below.refl _ _,World.ownsRow_nil _ _ _ _⟩,by simp,by simp⟩:_∧_∧_)
  have HWL:Hid ((w10 n).length≤64):=hwl
  obtain ⟨M,hM,hnM⟩:∃ M:Int,M≤9223372036854775808∧(n:Int)≤M:=⟨n,by omega,Int.le_refl _⟩
  have HM:Hid (M≤9223372036854775808∧(n:Int)≤M):=(⟨hM,hnM⟩:_∧_)
  have HN0:Hid (n ≠ 0):=h0
  clear e hwl hi0 h0 hn hM hnM
  go_enter Tryz.func77,Tryz.ntmps77
  go_upto_block 0 with fail
  go_wp2_with fail
  clear hnI hnN hnP hnQ
  go_loopw [0,4] (fun s0 s4 wr=>∃ (j:Nat) (acc:List UInt8) (v:Value),s0 = .int .i64 (-(j:Int))∧v=s4∧j≤n∧DcI w n j acc v wr) (fun s0 _ _=>(-(intOf s0)).toNat)
  case atStart=>exact ⟨n,[],.slice none 0 0,rfl,rfl,Nat.le_refl _,HT0⟩
  case round =>
    clear HT0
    obtain ⟨j,acc,v,rfl,hvv,hj,HI⟩:=hrel
    subst hvv
    obtain ⟨hD,hW,hA⟩:=(show Dq w acc v wr∧w10 n=w10 j ++ acc.reverse∧acc.length≤64 from HI)
    clear HI
    by_cases hj0:j=0
    · subst hj0
      rw [w10_zero,List.nil_append] at hW
      have hrow:=hD.row
      have hpos : 0 < acc.length:=by
        have h1:=congrArg List.length hW
        rw [w10_pos n HN0,List.length_append,List.length_reverse] at h1
        simp at h1
        omega
      obtain ⟨g,cap,rfl,hcap⟩:∃ g cap,v = .slice (some ⟨g,0,none⟩) acc.length cap∧acc.length≤cap:=by
        rcases hrow.2 with ⟨_,h⟩ | ⟨g,cap,cur,h1,_,_,h2,_⟩
        · omega
        · exact ⟨g,cap,h1,h2⟩
      have hcl:∀ j x,acc[j]? = some x→wr.cell? ⟨g,j,none⟩=some (.int .u8 (x.toNat:Int)):=by
        intro j x hx
        have:=hrow.cells (g:=g) rfl j (.int .u8 (x.toNat:Int)) (by simp [Lib.byteCells,hx])
        rw [addr_add] at this
        exact this
      have HO:Hid (DcO w acc g 0 wr):=(⟨hD.bel,by
        obtain ⟨x,hx⟩:∃ x,acc[0]? = some x:=⟨acc[0],List.getElem?_eq_getElem hpos⟩
        exact Rd.lt_of_cell (hcl 0 x hx),hcl⟩:_∧_∧_)
      have HW:Hid (w10 n=acc.reverse):=hW
      have hA2:(acc.length:Int)≤64:=by omega
      clear hD hW hrow hcl hj HWL HM hz0 hz1 hz2 HI0 HN0
      go_wp2_with fail
      go_loopw [6,7] (fun s6 s7 wr=>∃ i:Nat,i≤acc.length∧s7 = .int .i64 ((i:Int) - 1)∧s6 = .string ⟨(45 :: acc.reverse.take (acc.length - i)).toArray⟩∧DcO w acc g 0 wr) (fun _ s7 _=>(intOf s7+1).toNat)
      case atStart=>exact ⟨acc.length,Nat.le_refl _,by go_num,by rw [Nat.sub_self];rfl,HO⟩
      case round =>
        clear HO
        obtain ⟨i,hi,hs7,rfl,HQ⟩:=hrel
        cases i with
        | zero =>
          have e7:((0:Nat):Int) - 1 = -1:=rfl
          rw [e7] at hs7
          subst hs7
          have eo:acc.reverse.take (acc.length - 0)=w10 n:=by rw [show w10 n=acc.reverse from HW,Nat.sub_zero,← List.length_reverse,List.take_length]
          rw [eo]
          have HE:Hid (Below w.heap.size w wr):=HQ.1
          clear HQ eo e7 HW
          go_wp2_with fail
          go_ret
          exact ⟨rfl,HE⟩
        | succ i =>
          have e7:((i+1:Nat):Int) - 1=(i:Int):=by omega
          rw [e7] at hs7
          subst hs7
          obtain ⟨q1,q2,q3⟩:=(show Below w.heap.size w wr∧g < wr.heap.size∧∀ j x,acc[j]? = some x→wr.cell? ⟨g,j,none⟩=some (.int .u8 (x.toNat:Int)) from HQ)
          have hx:acc[i]? = some acc[i]:=List.getElem?_eq_getElem (by omega)
          have hc:=q3 i _ hx
          have hcv:=conv_one wr acc[i]
          have hiI:(i:Int) < (acc.length:Int):=by omega
          have hi0:(0:Int)≤(i:Int):=by omega
          have htk:acc.reverse.take (acc.length - i)=acc.reverse.take (acc.length - (i+1)) ++ [acc[i]]:=by
            rw [show acc.length - i=(acc.length - (i+1))+1 by omega]
            have hr:acc.reverse[acc.length - (i+1)]? = some acc[i]:=by
              rw [List.getElem?_reverse (by omega),show acc.length - 1 - (acc.length - (i+1))=i by omega]
              exact hx
            rw [List.take_add_one,hr]
            rfl
          have HTK:Hid ((⟨(45 :: acc.reverse.take (acc.length - (i+1))).toArray⟩:ByteArray) ++ ⟨#[acc[i]]⟩=⟨(45 :: acc.reverse.take (acc.length - i)).toArray⟩):=by
            show (_:ByteArray) = _
            rw [htk]
            apply ByteArray.ext
            simp
          have hsz:(⟨(45 :: acc.reverse.take (acc.length - (i+1))).toArray⟩:ByteArray).size≤65:=by
            show (45 :: acc.reverse.take (acc.length - (i+1))).toArray.size≤65
            simp
            omega
          have HN:Hid (DcO w acc g 0 (wr.alloc (.cells #[.int .u8 (acc[i].toNat:Int)] 5))):=(⟨q1.alloc q1.size _,by simp;omega,fun j x hx=>by
            have e:=World.cell?_of_block (a:=⟨g,j,none⟩) (Below.heap_alloc wr (.cells #[.int .u8 (acc[i].toNat:Int)] 5) g q2)
            rw [e];exact q3 j x hx⟩:_∧_∧_)
          clear HQ q1 q2 q3 hx htk HW
          generalize (⟨(45 :: acc.reverse.take (acc.length - (i+1))).toArray⟩:ByteArray)=O1 at *
          generalize acc[i]=xx at *
          have hsz2:¬ 9223372036854775807 < O1.size+1:=by omega
          go_wp2_with fail
          go_roundw
          case rel=>exact ⟨i,by omega,by go_num,by rw [← (show O1 ++ ⟨#[xx]⟩=(⟨(45 :: acc.reverse.take (acc.length - i)).toArray⟩:ByteArray) from HTK)],HN⟩
          case measure=>first | (simp [intOf];done) | (simp [intOf];omega)
    · have hjI:(-(j:Int) != 0)=true:=by rw [bne,show (-(j:Int) == 0)=false by rw [beq_eq_false_iff_ne];omega];rfl
      have hjn:(-(j:Int) == 0)=false:=by rw [beq_eq_false_iff_ne];omega
      have hq:Int.tmod (-(j:Int)) 10 = -((j % 10:Nat):Int):=Int.neg_tmod _ _
      have hq2:Int.tdiv (-(j:Int)) 10 = -((j / 10:Nat):Int):=Int.neg_tdiv _ _
      have dx2:(UInt8.ofNat (48+j % 10)).toNat=48+j % 10:=dgt_nat _ (by omega)
      have hstep:=w10_pos j hj0
      have hd0:(0:Int)≤((j % 10:Nat):Int):=by omega
      have hd1:((j % 10:Nat):Int) < 10:=by omega
      have hdn:¬ ((j % 10:Nat):Int) < 0:=by omega
      have hbc:Lib.byteCells [UInt8.ofNat (48+j % 10)] = [.int .u8 (48+((j % 10:Nat):Int))]:=by
        show [Value.int .u8 ((UInt8.ofNat (48+j % 10)).toNat:Int)] = _
        rw [dx2];congr 2
      have h1c:=bc_one [UInt8.ofNat (48+j % 10)]
      rw [hbc] at h1c
      have hlen:acc.length+1≤64:=by
        have h1:=congrArg List.length hW
        rw [hstep,List.length_append,List.length_append,List.length_reverse] at h1
        have:=(show (w10 n).length≤64 from HWL)
        simp at h1
        omega
      have HADD:Hid (∀ (o:Obj) (v':Value) (w5:World),w5.ownsRow w.heap.size 5 1 v' (acc.length+1) (Lib.byteCells acc ++ [.int .u8 (48+((j % 10:Nat):Int))])→(wr.alloc o).grownBy w5 v.ownBlock→DcI w n (j / 10) (acc ++ [UInt8.ofNat (48+j % 10)]) v' w5) :=
        (fun o v' w5 ho hg=>⟨hD.add _ (by rw [hbc];exact ho) hg,by rw [hW,hstep,List.reverse_append];simp,by rw [List.length_append];simpa using hlen⟩:∀ (o:Obj) (v':Value) (w5:World),w5.ownsRow w.heap.size 5 1 v' (acc.length+1) (Lib.byteCells acc ++ [.int .u8 (48+((j % 10:Nat):Int))])→(wr.alloc o).grownBy w5 v.ownBlock→DcI w n (j / 10) (acc ++ [UInt8.ofNat (48+j % 10)]) v' w5)
      have howna:∀ o:Obj,(wr.alloc o).ownsRow w.heap.size 5 1 v acc.length (Lib.byteCells acc):=fun o=>hD.row.alloc o
      have hs4:=hD.bel.size
      obtain ⟨jq,hjq⟩:∃ jq,j / 10=jq:=⟨_,rfl⟩
      rw [hjq] at hq2 HADD
      have hjl:jq < j:=by omega
      have hjw:wrap64 (-(jq:Int)) = -(jq:Int):=by
        have hM:=(show M≤9223372036854775808∧(n:Int)≤M from HM)
        unfold wrap64
        omega
      by_cases hr0:j % 10=0
      · have er:((j % 10:Nat):Int)=0:=by omega
        rw [er] at hq HADD h1c hbc hd0 hd1 hdn
        rw [Int.neg_zero] at hq
        have e48:(48:Int)+0=48:=rfl
        rw [e48] at HADD h1c
        clear hD hW hstep hbc dx2 hA hjq
        generalize UInt8.ofNat (48+j % 10)=dd at *
        clear er hr0
        go_wp2_with (at_builtin;refine wpList_append_own _ rfl (.tmp 20) (.tmp 24) 86 rfl w.heap.size 5 i0 (.int .u8 0) 1 1 Tryz.underlying86 HI0 hz0 hz1 hz2 rfl (by decide) _ _ _ rfl (howna _) ⟨wr.heap.size,0,none⟩ 1 1 [.int .u8 (48)] rfl rfl (qr_cells wr #[.int .u8 (48)] 5 _ rfl) h1c (by unfold maxLen;omega) (by omega) (by simp;omega) ?_;intro v' w5 hown1 hgrow1 _)
        have hN:=(show ∀ (o:Obj) (v':Value) (w5:World),w5.ownsRow w.heap.size 5 1 v' (acc.length+1) (Lib.byteCells acc ++ [.int .u8 (48)])→(wr.alloc o).grownBy w5 v.ownBlock→DcI w n jq (acc ++ [dd]) v' w5 from HADD) _ _ _ hown1 hgrow1
        clear HADD hown1 hgrow1 howna
        go_wp2_with fail
        go_roundw
        case rel=>exact ⟨jq,acc ++ [dd],v',by rw [hjw],rfl,by omega,hN⟩
        case measure =>
          rw [hjw]
          clear HWL HM hjw hq hq2
          simp [intOf]
          exact hjl
      · have hdm : -((j % 10:Nat):Int) < 0:=by omega
        clear hr0
        clear hD hW hstep hbc dx2 hA hjq
        generalize UInt8.ofNat (48+j % 10)=dd at *
        generalize ((j % 10:Nat):Int)=r at *
        go_wp2_with (at_builtin;refine wpList_append_own _ rfl (.tmp 20) (.tmp 24) 86 rfl w.heap.size 5 i0 (.int .u8 0) 1 1 Tryz.underlying86 HI0 hz0 hz1 hz2 rfl (by decide) _ _ _ rfl (howna _) ⟨wr.heap.size,0,none⟩ 1 1 [.int .u8 (48+r)] rfl rfl (qr_cells wr #[.int .u8 (48+r)] 5 _ rfl) h1c (by unfold maxLen;omega) (by omega) (by simp;omega) ?_;intro v' w5 hown1 hgrow1 _)
        have hN:=(show ∀ (o:Obj) (v':Value) (w5:World),w5.ownsRow w.heap.size 5 1 v' (acc.length+1) (Lib.byteCells acc ++ [.int .u8 (48+r)])→(wr.alloc o).grownBy w5 v.ownBlock→DcI w n jq (acc ++ [dd]) v' w5 from HADD) _ _ _ hown1 hgrow1
        clear HADD hown1 hgrow1 howna
        go_wp2_with fail
        go_roundw
        case rel=>exact ⟨jq,acc ++ [dd],v',by rw [hjw],rfl,by omega,hN⟩
        case measure =>
          rw [hjw]
          clear HWL HM hjw hq hq2
          simp [intOf]
          exact hjl
def itx (n:Int):ByteArray:=⟨(Lib.itoa n).toArray⟩
theorem itx_size (n:Int) (h0 : -9223372036854775808≤n) (h1:n≤9223372036854775807):(itx n).size≤21:=by
  have:=Lib.itoa_length_le n h0 h1
  show ((Lib.itoa n).toArray).size≤21
  simpa using this
theorem spec_itoa (n:Int) (h0 : -9223372036854775808≤n) (h1:n≤9223372036854775807) (w:World):Calls Tryz.prog 77 #[.int .i64 n] w fun e w'=>e = .returned (.string (itx n))∧Below w.heap.size w w':=by
  by_cases hz:n=0
  · subst hz
    have e:itx 0=⟨#[48]⟩:=by unfold itx Lib.itoa;rw [if_neg (by omega),Lib.decDigits];rfl
    rw [e]
    go_enter Tryz.func77,Tryz.ntmps77
    go_wp2_with fail
    go_ret
    exact ⟨rfl,Below.refl _ _⟩
  · by_cases hn:n < 0
    · have:=spec_dcn n.natAbs (by omega) (by omega) w
      rw [show -((n.natAbs:Nat):Int)=n by omega] at this
      unfold itx Lib.itoa
      rw [if_pos hn]
      exact this
    · have:=spec_dcp n.toNat (by omega) (by omega) w
      rw [show ((n.toNat:Nat):Int)=n by omega] at this
      unfold itx Lib.itoa
      rw [if_neg hn]
      exact this
def Pw (w:World):Prop:=Lib.TabIs Tryz.prog w "internal/strconv.uint64pow10" .u64 Lib.pow10Tab
theorem below_grow (w:World) (k:Nat) (os:Array Obj):Below w.heap.size w (Go.Sort.grow (w.drewN k) os) :=
  ⟨rfl,rfl,rfl,by simp [Go.Sort.grow],fun j hj=>by simp [Go.Sort.grow,Array.getElem?_append_left hj]⟩
theorem impl_fmt (n : Int) (h0 : -9223372036854775808 ≤ n) (h1 : n ≤ 9223372036854775807) (w : World) (hp : Pw w) :
    Calls Tryz.prog 82 #[.int .i64 n,.int .i64 10] w fun e w'=>e = .returned (.string (itx n))∧Below w.heap.size w w':=by
  have HC:Hid (Calls Tryz.prog 114 #[.int .i64 n,.int .i64 10] w fun e w'=>e = .returned (.string (itx n))∧Below w.heap.size w w'):=by
    refine (format10 n h0 h1 w hp).mono ?_
    rintro e w' ⟨rfl,k,os,rfl⟩
    exact ⟨rfl,below_grow w k os⟩
  clear hp h0 h1
  generalize itx n=T at *
  go_enter Tryz.func82,Tryz.ntmps82
  go_wp2_with fail
  refine (show Calls Tryz.prog 114 #[.int .i64 n,.int .i64 10] w fun e w'=>e = .returned (.string T)∧Below w.heap.size w w' from HC).mono ?_
  rintro e w2 ⟨rfl,hg⟩
  clear HC
  go_wp2_with fail
  go_ret
  exact ⟨rfl,hg⟩
theorem impl_itoa0 (n : Int) (h0 : -9223372036854775808 ≤ n) (h1 : n ≤ 9223372036854775807) (w : World) (hp : Pw w) :
    Calls Tryz.prog 113 #[.int .i64 n] w fun e w'=>e = .returned (.string (itx n))∧Below w.heap.size w w':=by
  have HC:Hid (Calls Tryz.prog 114 #[.int .i64 n,.int .i64 10] w fun e w'=>e = .returned (.string (itx n))∧Below w.heap.size w w'):=by
    refine (format10 n h0 h1 w hp).mono ?_
    rintro e w' ⟨rfl,k,os,rfl⟩
    exact ⟨rfl,below_grow w k os⟩
  clear hp h0 h1
  generalize itx n=T at *
  go_enter Tryz.func113,Tryz.ntmps113
  go_wp2_with fail
  refine (show Calls Tryz.prog 114 #[.int .i64 n,.int .i64 10] w fun e w'=>e = .returned (.string T)∧Below w.heap.size w w' from HC).mono ?_
  rintro e w2 ⟨rfl,hg⟩
  clear HC
  go_wp2_with fail
  go_ret
  exact ⟨rfl,hg⟩
theorem impl_itoa (n : Int) (h0 : -9223372036854775808 ≤ n) (h1 : n ≤ 9223372036854775807) (w : World) (hp : Pw w) :
    Calls Tryz.prog 81 #[.int .i64 n] w fun e w'=>e = .returned (.string (itx n))∧Below w.heap.size w w':=by
  have HC:Hid (Calls Tryz.prog 113 #[.int .i64 n] w fun e w'=>e = .returned (.string (itx n))∧Below w.heap.size w w'):=impl_itoa0 n h0 h1 w hp
  clear hp h0 h1
  generalize itx n=T at *
  go_enter Tryz.func81,Tryz.ntmps81
  go_wp2_with fail
  refine (show Calls Tryz.prog 113 #[.int .i64 n] w fun e w'=>e = .returned (.string T)∧Below w.heap.size w w' from HC).mono ?_
  rintro e w2 ⟨rfl,hg⟩
  clear HC
  go_wp2_with fail
  go_ret
  exact ⟨rfl,hg⟩
end Go.Proofs.YtomcmnompajnlaaGreatDoor
namespace Go.Proofs.YtomcmnompajnlaaGreatDoor.Fo
open Go.ChangeShapes Go.WideShapes Go.ChangeAt Go.RowKit
set_option linter.unusedVariables false
theorem ba_app (l:List UInt8) (x:ByteArray):(⟨l.toArray⟩:ByteArray) ++ x=⟨(l ++ x.data.toList).toArray⟩:=by
  apply ByteArray.ext
  simp
theorem ba_size (l:List UInt8):(⟨l.toArray⟩:ByteArray).size=l.length:=by
  show l.toArray.size = _
  simp
theorem sz_len (x:ByteArray):x.data.toList.length=x.size:=by
  show x.data.toList.length=x.data.size
  simp
def its (a:Fv):List Int:=[a.k,a.f,a.t,a.l,a.o,a.m]
def d1 (a:Fv) (i:Nat):List UInt8:=(((its a).take i).map fun n=>(itx n).data.toList ++ [32]).flatten
def jt (f:Nat→ByteArray) (j:Nat):List UInt8:=((List.range j).map fun i=>32 :: (f i).data.toList).flatten
theorem jt_succ (f:Nat→ByteArray) (j:Nat):jt f (j+1)=jt f j ++ 32 :: (f j).data.toList:=by
  unfold jt
  rw [List.range_succ]
  simp
theorem jt_len (f:Nat→ByteArray) (B:Nat):∀ j,(∀ i,i < j→(f i).size≤B)→(jt f j).length≤j*(B+1):=by
  intro j
  induction j with
  | zero=>intro _;simp [jt]
  | succ j ih =>
    intro h
    have h1:=ih (fun i hi=>h i (by omega))
    have h2:=h j (by omega)
    rw [jt_succ,List.length_append,List.length_cons,sz_len,Nat.succ_mul]
    omega
def d2 (a:Fv) (p:Nat):List UInt8:=d1 a 6 ++ ((qt a.x).data.toList ++ 32 :: (itx p).data.toList)
def d3 (a:Fv) (p:Nat) (A:Nat→ByteArray) (j:Nat):List UInt8:=d2 a p ++ jt A j
def d4 (a:Fv) (p:Nat) (A:Nat→ByteArray) (q:Nat):List UInt8:=d3 a p A p ++ 32 :: (itx q).data.toList
def d5 (a:Fv) (p:Nat) (A:Nat→ByteArray) (q:Nat) (K:Nat→Int) (j:Nat):List UInt8:=d4 a p A q ++ jt (fun i=>itx (K i)) j
def dln (a:Fv) (p:Nat) (A:Nat→ByteArray) (q:Nat) (K:Nat→Int):List UInt8:=d5 a p A q K q ++ [10]
structure Lk (a:Fv) (p:Nat) (A:Nat→ByteArray) (q:Nat) (K:Nat→Int):Prop where
  rg:∀ n ∈ its a,-9223372036854775808≤n∧n≤9223372036854775807
  hx:a.x.size≤4000
  hp:p≤200
  hA:∀ j,j < p→(A j).size≤4000
  hq:q≤200
  hK:∀ j,j < q → -9223372036854775808≤K j∧K j≤9223372036854775807
theorem qt_size (x:ByteArray):(qt x).size≤16002:=by
  unfold qt
  by_cases h : 4000 < x.size
  · rw [if_pos h];decide
  · rw [if_neg h,ba_size,List.length_append]
    have:=quo_len x.data.toList x.data.toList.length
    rw [sz_len] at this ⊢
    simp
    omega
theorem d1_len (a:Fv) (h:∀ n ∈ its a,-9223372036854775808≤n∧n≤9223372036854775807):∀ i,(d1 a i).length≤i*22:=by
  intro i
  induction i with
  | zero=>simp [d1]
  | succ i ih =>
    unfold d1 at ih ⊢
    rw [List.take_add_one]
    cases e:(its a)[i]? with
    | none=>simp only [Option.toList,List.append_nil];omega
    | some n =>
      have hm:=h n (List.mem_of_getElem? e)
      have:=itx_size n hm.1 hm.2
      have h2:=sz_len (itx n)
      simp only [Option.toList,List.map_append,List.flatten_append,List.length_append,List.map_cons,List.map_nil,List.flatten_cons,List.flatten_nil,List.length_cons,List.length_nil]
      omega
theorem d1_succ (a:Fv) (i:Nat) (n:Int) (h:(its a)[i]? = some n):d1 a (i+1)=d1 a i ++ ((itx n).data.toList ++ [32]):=by
  unfold d1
  rw [List.take_add_one,h]
  simp
theorem Lk.d2 {a:Fv} {p:Nat} {A:Nat→ByteArray} {q:Nat} {K:Nat→Int} (h:Lk a p A q K):(d2 a p).length≤17000:=by
  have h1:=d1_len a h.rg 6
  have h2:=qt_size a.x
  have h3:=itx_size (p:Int) (by omega) (by have:=h.hp;omega)
  unfold Fo.d2
  rw [List.length_append,List.length_append,List.length_cons,sz_len,sz_len]
  omega
theorem Lk.d3 {a:Fv} {p:Nat} {A:Nat→ByteArray} {q:Nat} {K:Nat→Int} (h:Lk a p A q K) (j:Nat) (hj:j≤p):(d3 a p A j).length≤820000:=by
  have h1:=h.d2
  have h2:=jt_len A 4000 j (fun i hi=>h.hA i (by omega))
  have h3:=h.hp
  have h4:j*(4000+1)≤200*4001:=Nat.mul_le_mul (by omega) (Nat.le_refl _)
  unfold Fo.d3
  rw [List.length_append]
  omega
theorem Lk.d4 {a:Fv} {p:Nat} {A:Nat→ByteArray} {q:Nat} {K:Nat→Int} (h:Lk a p A q K):(d4 a p A q).length≤830000:=by
  have h1:=h.d3 p (Nat.le_refl _)
  have h3:=itx_size (q:Int) (by omega) (by have:=h.hq;omega)
  unfold Fo.d4
  rw [List.length_append,List.length_cons,sz_len]
  omega
theorem Lk.d5 {a:Fv} {p:Nat} {A:Nat→ByteArray} {q:Nat} {K:Nat→Int} (h:Lk a p A q K) (j:Nat) (hj:j≤q):(d5 a p A q K j).length≤840000:=by
  have h1:=h.d4
  have h2:=jt_len (fun i=>itx (K i)) 21 j (fun i hi=>itx_size _ (h.hK i (by omega)).1 (h.hK i (by omega)).2)
  have h3:=h.hq
  have h4:j*(21+1)≤200*22:=Nat.mul_le_mul (by omega) (Nat.le_refl _)
  unfold Fo.d5
  rw [List.length_append]
  omega
theorem Lk.len {a:Fv} {p:Nat} {A:Nat→ByteArray} {q:Nat} {K:Nat→Int} (h:Lk a p A q K):(dln a p A q K).length≤1000000:=by
  have h1:=h.d5 q (Nat.le_refl _)
  unfold dln
  rw [List.length_append]
  simp
  omega
structure Ls (w W2:World) (a:Fv) (pn:Option Addr) (p cn:Nat) (pk:Option Addr) (q ck:Nat) (A:Nat→ByteArray) (K:Nat→Int):Prop where
  bel:Below w.heap.size w W2
  lt:w.heap.size+1 < W2.heap.size
  c6:W2.cell? ⟨w.heap.size,6,none⟩=some (.string a.x)
  c7:W2.cell? ⟨w.heap.size,7,none⟩=some (.slice pn p cn)
  c8:W2.cell? ⟨w.heap.size,8,none⟩=some (.slice pk q ck)
  ci:∀ i n,(its a)[i]? = some n→W2.cell? ⟨w.heap.size+1,i,none⟩=some (.int .i64 n)
  rn : 0 < p→∃ b:Addr,pn=some b∧p≤cn∧∀ i,i < p→W2.cell? (b.add i)=some (.string (A i))
  rk : 0 < q→∃ b:Addr,pk=some b∧q≤ck∧∀ i,i < q→W2.cell? (b.add i)=some (.int .i64 (K i))
theorem Ls.to {w W2 W:World} {a:Fv} {pn:Option Addr} {p cn:Nat} {pk:Option Addr} {q ck:Nat} {A:Nat→ByteArray} {K:Nat→Int} (h:Ls w W2 a pn p cn pk q ck A K) (hb:Below W2.heap.size W2 W):Ls w W a pn p cn pk q ck A K:=by
  have hl:=h.lt
  have e:∀ (g j:Nat),g≤w.heap.size+1→W.cell? ⟨g,j,none⟩=W2.cell? ⟨g,j,none⟩:=fun g j hg=>hb.cell (p:=⟨g,j,none⟩) (show g < W2.heap.size by omega)
  refine ⟨below_to h.bel hb,Nat.lt_of_lt_of_le hl hb.size,?_,?_,?_,?_,?_,?_⟩
  · rw [e _ _ (by omega)];exact h.c6
  · rw [e _ _ (by omega)];exact h.c7
  · rw [e _ _ (by omega)];exact h.c8
  · intro i n hi;rw [e _ _ (by omega)];exact h.ci i n hi
  · intro h0
    obtain ⟨b,e1,e2,e3⟩:=h.rn h0
    exact ⟨b,e1,e2,fun i hi=>(hb.cell (lt_of_cell' (e3 i hi))).trans (e3 i hi)⟩
  · intro h0
    obtain ⟨b,e1,e2,e3⟩:=h.rk h0
    exact ⟨b,e1,e2,fun i hi=>(hb.cell (lt_of_cell' (e3 i hi))).trans (e3 i hi)⟩
theorem spec_line {a : Fv} {vn vk : Value} {p q : Nat} {A : Nat → ByteArray} {K : Nat → Int} (w : World) (hl : Lk a p A q K) (hrn : RowV w vn p (fun i => .string (A i))) (hrk : RowV w vk q (fun i => .int .i64 (K i))) :
    Calls Tryz.prog 51 #[fmv a vn vk] w fun e w'=>e = .returned (.string ⟨(dln a p A q K).toArray⟩)∧Below w.heap.size w w':=by
  obtain ⟨pn,cn,rfl,hn2⟩:=hrn
  obtain ⟨pk,ck,rfl,hk2⟩:=hrk
  have HL:Hid (Lk a p A q K):=hl
  have hpI:(p:Int)≤200:=by have:=hl.hp;omega
  have hqI:(q:Int)≤200:=by have:=hl.hq;omega
  have HLS:Hid (∀ t1 t2:TypeId,Ls w ((w.alloc (.cells #[.int .i64 a.k,.int .i64 a.f,.int .i64 a.t,.int .i64 a.l,.int .i64 a.o,.int .i64 a.m,.string a.x,.slice pn p cn,.slice pk q ck] t1)).alloc (.cells #[.int .i64 a.k,.int .i64 a.f,.int .i64 a.t,.int .i64 a.l,.int .i64 a.o,.int .i64 a.m] t2)) a pn p cn pk q ck A K):=(fun t1 t2=>by
    have hb:=bel2 w (.cells #[.int .i64 a.k,.int .i64 a.f,.int .i64 a.t,.int .i64 a.l,.int .i64 a.o,.int .i64 a.m,.string a.x,.slice pn p cn,.slice pk q ck] t1) (.cells #[.int .i64 a.k,.int .i64 a.f,.int .i64 a.t,.int .i64 a.l,.int .i64 a.o,.int .i64 a.m] t2)
    refine ⟨hb,by simp,?_,?_,?_,?_,?_,?_⟩
    · rw [World.cell?_alloc_past _ _ _ (by simp),World.cell?_alloc_at _ _ _ _ rfl];rfl
    · rw [World.cell?_alloc_past _ _ _ (by simp),World.cell?_alloc_at _ _ _ _ rfl];rfl
    · rw [World.cell?_alloc_past _ _ _ (by simp),World.cell?_alloc_at _ _ _ _ rfl];rfl
    · intro i n hi
      rw [World.cell?_alloc_at _ _ _ _ (by simp)]
      match i,hi with
      | 0,hi=>cases hi;rfl
      | 1,hi=>cases hi;rfl
      | 2,hi=>cases hi;rfl
      | 3,hi=>cases hi;rfl
      | 4,hi=>cases hi;rfl
      | 5,hi=>cases hi;rfl
    · intro h0
      obtain ⟨b,e1,e2,e3⟩:=hn2 h0
      exact ⟨b,e1,e2,fun i hi=>(hb.cell (lt_of_cell' (e3 i hi))).trans (e3 i hi)⟩
    · intro h0
      obtain ⟨b,e1,e2,e3⟩:=hk2 h0
      exact ⟨b,e1,e2,fun i hi=>(hb.cell (lt_of_cell' (e3 i hi))).trans (e3 i hi)⟩:∀ t1 t2:TypeId,_)
  clear hn2 hk2 hl
  obtain ⟨R,hR⟩:∃ R,R=(⟨(dln a p A q K).toArray⟩:ByteArray):=⟨_,rfl⟩
  have HR:Hid (R=(⟨(dln a p A q K).toArray⟩:ByteArray)):=hR
  rw [← hR]
  clear hR
  unfold fmv
  go_enter Tryz.func51,Tryz.ntmps51
  go_upto_block 0 with fail
  go_wp2_with fail
  obtain ⟨W2,hW2⟩:∃ W2,W2=(w.alloc (.cells #[.int .i64 a.k,.int .i64 a.f,.int .i64 a.t,.int .i64 a.l,.int .i64 a.o,.int .i64 a.m,.string a.x,.slice pn p cn,.slice pk q ck] 64)).alloc (.cells #[.int .i64 a.k,.int .i64 a.f,.int .i64 a.t,.int .i64 a.l,.int .i64 a.o,.int .i64 a.m] 2):=⟨_,rfl⟩
  have HS0:Hid (Ls w W2 a pn p cn pk q ck A K):=by
    show Ls w W2 a pn p cn pk q ck A K
    rw [hW2]
    exact (show ∀ t1 t2:TypeId,_ from HLS) _ _
  rw [← hW2]
  clear hW2 HLS
  go_loopw [3,24] (fun s3 s24 wr=>∃ i:Nat,i≤6∧s24 = .int .i64 (i:Int)∧s3 = .string ⟨(d1 a i).toArray⟩∧Hid (Ls w wr a pn p cn pk q ck A K)) (fun _ s24 _=>6 - (intOf s24).toNat)
  case atStart=>exact ⟨0,by omega,rfl,rfl,HS0⟩
  case round =>
    clear HS0
    obtain ⟨i,hi,rfl,rfl,HS⟩:=hrel
    have hS:=(show Ls w wr a pn p cn pk q ck A K from HS)
    have hL:=(show Lk a p A q K from HL)
    by_cases hi6:i < 6
    · have hiI:(i:Int) < 6:=by omega
      obtain ⟨z,hz⟩:∃ z,(its a)[i]? = some z:=⟨_,List.getElem?_eq_getElem (show i < (its a).length from hi6)⟩
      have hrz:=hL.rg z (List.mem_of_getElem? hz)
      have hc:=hS.ci i z hz
      have hd:=spec_itoa z hrz.1 hrz.2
      have htz:=itx_size z hrz.1 hrz.2
      have hdl:=d1_len a hL.rg i
      have hSz:(⟨(d1 a i).toArray⟩:ByteArray).size≤1000:=by rw [ba_size];omega
      have HN:Hid ((⟨(d1 a i).toArray⟩:ByteArray) ++ (itx z ++ ⟨#[32]⟩)=⟨(d1 a (i+1)).toArray⟩):=by
        show (_:ByteArray) = _
        rw [ba_app,d1_succ a i z hz]
        congr 2 <;> simp
      clear hS hL hdl hz hrz
      generalize (⟨(d1 a i).toArray⟩:ByteArray)=S at *
      generalize itx z=T at *
      have hs1:¬ 9223372036854775807 < T.size+1:=by omega
      have hs2:¬ 9223372036854775807 < S.size+(T.size+1):=by omega
      go_wp2_with fail
      refine (hd _).mono ?_
      rintro e w1 ⟨rfl,b1⟩
      have HS1:Hid (Ls w w1 a pn p cn pk q ck A K):=(show Ls w wr a pn p cn pk q ck A K from HS).to b1
      clear hd hc b1 HS
      go_wp2_with fail
      go_roundw
      case rel=>exact ⟨i+1,by omega,by go_num,by rw [← (show S ++ (T ++ ⟨#[32]⟩)=(⟨(d1 a (i+1)).toArray⟩:ByteArray) from HN)],HS1⟩
      case measure=>simp [intOf];omega
    · have e6:i=6:=by omega
      subst e6
      clear hi hi6
      have c6:=hS.c6
      have c7:=hS.c7
      have s1:wr.cell? ⟨w.heap.size,6,none⟩=some (.string a.x)∧wr.cell? ⟨w.heap.size,7,none⟩=some (.slice pn p cn):=⟨hS.c6,hS.c7⟩
      have hq4:=hL.hx
      have HQ:Hid (∀ W,Calls Tryz.prog 78 #[.string a.x] W fun e w'=>e = .returned (.string (qt a.x))∧Below W.heap.size W w'):=(fun W=>by
        have:=spec_quote a.x a.x.data.toList rfl (by rw [sz_len];exact hq4) W
        have e:qt a.x=⟨(quo a.x.data.toList a.x.data.toList.length ++ [34]).toArray⟩:=by unfold qt;rw [if_neg (by omega)]
        rw [e];exact this:∀ W,_)
      have HD:Hid (∀ W,Calls Tryz.prog 77 #[.int .i64 (p:Int)] W fun e w'=>e = .returned (.string (itx (p:Int)))∧Below W.heap.size W w'):=(fun W=>spec_itoa (p:Int) (by omega) (by omega) W:∀ W,_)
      have htz:=itx_size (p:Int) (by omega) (by omega)
      have hqz:=qt_size a.x
      have hdl:=d1_len a hL.rg 6
      have hSz:(⟨(d1 a 6).toArray⟩:ByteArray).size≤1000:=by rw [ba_size];omega
      have HN:Hid ((⟨(d1 a 6).toArray⟩:ByteArray) ++ ((qt a.x ++ ⟨#[32]⟩) ++ itx (p:Int))=⟨(d3 a p A 0).toArray⟩):=by
        show (_:ByteArray) = _
        rw [ba_app]
        unfold d3 d2 jt
        congr 2 <;> simp
      clear hS hL hdl hq4 c6 c7
      generalize (⟨(d1 a 6).toArray⟩:ByteArray)=S at *
      generalize itx (p:Int)=T at *
      generalize qt a.x=Q at *
      have hs1:¬ 9223372036854775807 < Q.size+1:=by omega
      have hs2:¬ 9223372036854775807 < Q.size+1+T.size:=by omega
      have hs3:¬ 9223372036854775807 < S.size+(Q.size+1+T.size):=by omega
      have K1:Below wr.heap.size wr wr:=Below.refl _ _
      go_wp2_with fail
      go_region_held_law (fun W'=>W'.cell? ⟨w.heap.size,6,none⟩=some (.string a.x)∧W'.cell? ⟨w.heap.size,7,none⟩=some (.slice pn p cn)) (first | exact s3 | exact s2 | exact s1)
        (first
          | (go_at_call 78;refine ((show ∀ W,Calls Tryz.prog 78 #[.string a.x] W fun e w'=>e = .returned (.string Q)∧Below W.heap.size W w' from HQ) _).mono ?_;rintro e w2 ⟨rfl,b2⟩;have HS2:Hid (Ls w w2 a pn p cn pk q ck A K):=(show Ls w wr a pn p cn pk q ck A K from HS).to ⟨b2.os,b2.tape,b2.output,b2.size,b2.block⟩;have s2:w2.cell? ⟨w.heap.size,6,none⟩=some (.string a.x)∧w2.cell? ⟨w.heap.size,7,none⟩=some (.slice pn p cn):=⟨(show Ls w w2 a pn p cn pk q ck A K from HS2).c6,(show Ls w w2 a pn p cn pk q ck A K from HS2).c7⟩)
          | (go_at_call 77;refine ((show ∀ W,Calls Tryz.prog 77 #[.int .i64 (p:Int)] W fun e w'=>e = .returned (.string T)∧Below W.heap.size W w' from HD) _).mono ?_;rintro e w3 ⟨rfl,b3⟩;have HS3:Hid (Ls w w3 a pn p cn pk q ck A K):=(show Ls w w2 a pn p cn pk q ck A K from HS2).to ⟨b3.os,b3.tape,b3.output,b3.size,b3.block⟩;have s3:w3.cell? ⟨w.heap.size,6,none⟩=some (.string a.x)∧w3.cell? ⟨w.heap.size,7,none⟩=some (.slice pn p cn):=⟨(show Ls w w3 a pn p cn pk q ck A K from HS3).c6,(show Ls w w3 a pn p cn pk q ck A K from HS3).c7⟩))
      have c7:=(show Ls w w3 a pn p cn pk q ck A K from HS3).c7
      clear s1 s2 s3 b2 b3 HQ HD HS HS2 K1
      go_wp2_with fail
      clear c7
      go_loopw [3,48] (fun s3 s48 wr=>∃ i:Nat,i≤p∧s48 = .int .i64 (i:Int)∧s3 = .string ⟨(d3 a p A i).toArray⟩∧Hid (Ls w wr a pn p cn pk q ck A K)) (fun _ s48 _=>p - (intOf s48).toNat)
      case atStart=>exact ⟨0,by omega,rfl,by rw [← (show S ++ ((Q ++ ⟨#[32]⟩) ++ T)=(⟨(d3 a p A 0).toArray⟩:ByteArray) from HN)],HS3⟩
      case round =>
        clear HN HS3 hs1 hs2 hs3
        obtain ⟨i,hi,rfl,rfl,HS⟩:=hrel
        have hS:=(show Ls w wr a pn p cn pk q ck A K from HS)
        have hL:=(show Lk a p A q K from HL)
        by_cases hip:i < p
        · have hiI:(i:Int) < (p:Int):=by omega
          obtain ⟨b,rfl,hcb,hrb⟩:=hS.rn (by omega)
          have hc:=hrb i hip
          have hA:=hL.hA i hip
          have hdl:=hL.d3 i hi
          have hSz:(⟨(d3 a p A i).toArray⟩:ByteArray).size≤820000:=by rw [ba_size];omega
          have HN:Hid ((⟨(d3 a p A i).toArray⟩:ByteArray) ++ (⟨#[32]⟩ ++ A i)=⟨(d3 a p A (i+1)).toArray⟩):=by
            show (_:ByteArray) = _
            rw [ba_app]
            unfold d3
            rw [jt_succ]
            congr 2 <;> simp
          clear hS hL hdl hrb
          generalize (⟨(d3 a p A i).toArray⟩:ByteArray)=S at *
          generalize hT:A i=T at *
          have hs1:¬ 9223372036854775807 < 1+T.size:=by omega
          have hs2:¬ 9223372036854775807 < S.size+(1+T.size):=by omega
          go_wp2_with fail
          go_roundw
          case rel=>exact ⟨i+1,by omega,by go_num,by rw [← (show S ++ (⟨#[32]⟩ ++ T)=(⟨(d3 a p A (i+1)).toArray⟩:ByteArray) from HN)],HS⟩
          case measure=>simp [intOf];omega
        · have ep:i=p:=by omega
          subst ep
          clear hi hip
          have c8:=hS.c8
          have hd:=spec_itoa (q:Int) (by omega) (by omega)
          have htz:=itx_size (q:Int) (by omega) (by omega)
          have hdl:=hL.d3 i (Nat.le_refl _)
          have hSz:(⟨(d3 a i A i).toArray⟩:ByteArray).size≤820000:=by rw [ba_size];omega
          have HN:Hid ((⟨(d3 a i A i).toArray⟩:ByteArray) ++ (⟨#[32]⟩ ++ itx (q:Int))=⟨(d5 a i A q K 0).toArray⟩):=by
            show (_:ByteArray) = _
            rw [ba_app]
            unfold d5 d4 jt
            congr 2 <;> simp
          clear hS hL hdl
          generalize (⟨(d3 a i A i).toArray⟩:ByteArray)=S at *
          generalize itx (q:Int)=T at *
          have hs1:¬ 9223372036854775807 < 1+T.size:=by omega
          have hs2:¬ 9223372036854775807 < S.size+(1+T.size):=by omega
          go_wp2_with fail
          refine (hd _).mono ?_
          rintro e w1 ⟨rfl,b1⟩
          have HS1:Hid (Ls w w1 a pn i cn pk q ck A K):=(show Ls w wr a pn i cn pk q ck A K from HS).to b1
          clear c8
          have c8:=(show Ls w w1 a pn i cn pk q ck A K from HS1).c8
          clear hd b1 HS
          go_wp2_with fail
          clear c8
          go_loopw [3,67] (fun s3 s67 wr=>∃ j:Nat,j≤q∧s67 = .int .i64 (j:Int)∧s3 = .string ⟨(d5 a i A q K j).toArray⟩∧Hid (Ls w wr a pn i cn pk q ck A K)) (fun _ s67 _=>q - (intOf s67).toNat)
          case atStart=>exact ⟨0,by omega,rfl,by rw [← (show S ++ (⟨#[32]⟩ ++ T)=(⟨(d5 a i A q K 0).toArray⟩:ByteArray) from HN)],HS1⟩
          case round =>
            clear HN HS1 hs1 hs2
            obtain ⟨j,hj,rfl,rfl,HS⟩:=hrel
            have hS:=(show Ls w wr a pn i cn pk q ck A K from HS)
            have hL:=(show Lk a i A q K from HL)
            by_cases hjq:j < q
            · have hjI:(j:Int) < (q:Int):=by omega
              obtain ⟨b,rfl,hcb,hrb⟩:=hS.rk (by omega)
              have hc:=hrb j hjq
              have hrz:=hL.hK j hjq
              have hd:=spec_itoa (K j) hrz.1 hrz.2
              have htz:=itx_size (K j) hrz.1 hrz.2
              have hdl:=hL.d5 j hj
              have hSz:(⟨(d5 a i A q K j).toArray⟩:ByteArray).size≤840000:=by rw [ba_size];omega
              have HN:Hid ((⟨(d5 a i A q K j).toArray⟩:ByteArray) ++ (⟨#[32]⟩ ++ itx (K j))=⟨(d5 a i A q K (j+1)).toArray⟩):=by
                show (_:ByteArray) = _
                rw [ba_app]
                unfold d5
                rw [jt_succ]
                congr 2 <;> simp
              clear hS hL hdl hrb hrz
              generalize (⟨(d5 a i A q K j).toArray⟩:ByteArray)=S at *
              generalize itx (K j)=T at *
              generalize K j=z at *
              have hs1:¬ 9223372036854775807 < 1+T.size:=by omega
              have hs2:¬ 9223372036854775807 < S.size+(1+T.size):=by omega
              go_wp2_with fail
              refine (hd _).mono ?_
              rintro e w1 ⟨rfl,b1⟩
              have HS1:Hid (Ls w w1 a pn i cn (some b) q ck A K):=(show Ls w wr a pn i cn (some b) q ck A K from HS).to b1
              clear hd hc b1 HS
              go_wp2_with fail
              go_roundw
              case rel=>exact ⟨j+1,by omega,by go_num,by rw [← (show S ++ (⟨#[32]⟩ ++ T)=(⟨(d5 a i A q K (j+1)).toArray⟩:ByteArray) from HN)],HS1⟩
              case measure=>simp [intOf];omega
            · have eq2:j=q:=by omega
              subst eq2
              have hdl:=hL.d5 j (Nat.le_refl _)
              have hSz:(⟨(d5 a i A j K j).toArray⟩:ByteArray).size≤840000:=by rw [ba_size];omega
              have HN:Hid ((⟨(d5 a i A j K j).toArray⟩:ByteArray) ++ ⟨#[10]⟩=R):=by
                show (_:ByteArray)=R
                rw [show R = _ from HR,ba_app]
                unfold dln
                rfl
              have HB:Hid (Below w.heap.size w wr):=hS.bel
              clear hS hL hdl hj hjq HS HR HL
              generalize (⟨(d5 a i A j K j).toArray⟩:ByteArray)=S at *
              have hs1:¬ 9223372036854775807 < S.size+1:=by omega
              go_wp2_with fail
              go_ret
              exact ⟨congrArg (fun z=>Ending.returned (Value.string z)) HN,HB⟩
theorem gPow:Tryz.prog.globalNamed "internal/strconv.uint64pow10" = some 2:=by kernel_rfl
theorem pw_blk {w W:World} (h:Pw w) (e:W.heap[2]? = w.heap[2]?):Pw W:=by
  unfold Pw Lib.TabIs World.var? at h ⊢
  rw [gPow] at h ⊢
  simp only [Option.bind_some] at h ⊢
  rw [e]
  exact h
theorem pw_below {w W:World} (h:Pw w) (hs : 10≤w.heap.size) (hb:Below w.heap.size w W):Pw W:=pw_blk h (hb.block _ (by omega))
theorem wpList_append_none {P : Program} {w : World} {ops : Array Oper} {rest : List Oper} {o : Oper} {a : Act} {Q : Exit → Act → World → Prop} (hgd : o.guard = none) (s x : Operand) (t e : TypeId)
    (ho:o.op = .call { callee:=.builtin .append,args:=#[s,x],argTypes:=#[t,t] }) (i:TypeInfo) (ht:P.underlying t=some (.slice e)) (hi:P.info? e=some i)
    (base:Option Addr) (n cap c:Nat) (hle:n≤cap) (hs:a.eval s = .slice base n cap) (hx:a.eval x = .slice none 0 c)
    (h:wpList P ops Q rest (a.put o.dst (.slice base n cap)) w):wpList P ops Q (o :: rest) a w:=by
  refine wpList_plain hgd fun K hK'=>?_
  have hrun:=run_append_nothing (P:=P) w t t o.type e i ht hi base n cap hle (.slice none 0 c) (Src.ofNil w ht c)
  unfold Oper.wp
  simp [execOp,ho,resolve,invoke,builtin,hs,hx,hrun,Result.andThen]
  exact hK' _ _ h
theorem wpList_append_row {P : Program} {w : World} {ops : Array Oper} {rest : List Oper} {o : Oper} {a : Act} {Q : Exit → Act → World → Prop} (hgd : o.guard = none) (s x : Operand) (t : TypeId)
    (ho:o.op = .call { callee:=.builtin .append,args:=#[s,x],argTypes:=#[t,t] })
    (base:Nat) (e:TypeId) (i:TypeInfo) (z:Value) (bytes:Nat) (ht:P.underlying t=some (.slice e)) (hi:P.info? e=some i) (hz:i.zero=some z)
    (hsize:i.size=1) (hby:i.bytes=bytes) (hzs:z.cells.size=1)
    (v:Value) (n:Nat) (xs:List Value) (hs:a.eval s=v) (hown:w.ownsRow base e 1 v n xs)
    (pn:Option Addr) (m c:Nat) (news:List Value) (hx:a.eval x = .slice pn m c) (hl:news.length=m) (hnews : 0 < m→∃ ad:Addr,pn=some ad∧∀ j u,news[j]? = some u→w.cell? (ad.add j)=some u) (h1:∀ u ∈ news,u.oneCell'=true)
    (h63:n+m≤maxLen) (hbytes:(n+m)*bytes≤140737488355328) (hbase:base≤w.heap.size)
    (h:∀ v' w',w'.ownsRow base e 1 v' (n+m) (xs ++ news)→w.grownBy w' v.ownBlock→wpList P ops Q rest (a.put o.dst v') w'):wpList P ops Q (o :: rest) a w:=by
  cases pn with
  | none =>
    have hm:m=0:=by
      rcases Nat.eq_zero_or_pos m with h0 | h0
      · exact h0
      · obtain ⟨ad,e,_⟩:=hnews h0;cases e
    subst hm
    have hn0:news = []:=List.eq_nil_of_length_eq_zero hl
    subst hn0
    obtain ⟨b0,cap,hv,hle⟩:∃ b0 cap,v = .slice b0 n cap∧n≤cap:=by
      rcases hown.2 with ⟨e1,e2⟩ | ⟨g,cap,cur,e1,_,_,e2,_⟩
      · exact ⟨none,0,by rw [e1,e2],by omega⟩
      · exact ⟨_,cap,e1,e2⟩
    refine wpList_append_none hgd s x t e ho i ht hi b0 n cap c hle (by rw [hs,hv]) hx ?_
    rw [← hv]
    exact h v w (by rw [List.append_nil,Nat.add_zero];exact hown) ⟨rfl,rfl,rfl,Nat.le_refl _,fun _ _ _=>rfl⟩
  | some ad =>
    refine wpList_append_own _ hgd s x t ho base e i z 1 bytes ht hi hz hsize hby hzs (by decide) v n xs hs hown ad m c news hx (by omega) (fun j u hu=>?_) h1 h63 hbytes hbase (fun v' w' h2 h3 _=>h v' w' h2 h3)
    have hm : 0 < m:=by have:=(List.getElem?_eq_some_iff.1 hu).1;omega
    obtain ⟨ad',e,hc⟩:=hnews hm
    cases e
    exact hc j u hu
theorem str_one (l:List ByteArray):∀ u ∈ l.map Value.string,u.oneCell'=true:=by
  intro u hu
  simp at hu
  obtain ⟨j,_,rfl⟩:=hu
  rfl
def f1 (a:Fv) (i:Nat):List ByteArray:=((its a).take i).map itx
theorem f1_succ (a:Fv) (i:Nat) (n:Int) (h:(its a)[i]? = some n):f1 a (i+1)=f1 a i ++ [itx n]:=by
  unfold f1
  rw [List.take_add_one,h]
  simp
theorem f1_len (a:Fv) (i:Nat):(f1 a i).length≤6:=by
  unfold f1 its
  simp
  omega
def f2 (a:Fv) (p:Nat):List ByteArray:=f1 a 5 ++ [itx a.m,qt a.x,itx p]
def lsb (f:Nat→ByteArray) (j:Nat):List ByteArray:=(List.range j).map f
theorem lsb_len (f:Nat→ByteArray) (j:Nat):(lsb f j).length=j:=by simp [lsb]
theorem lsb_succ (f:Nat→ByteArray) (j:Nat):lsb f (j+1)=lsb f j ++ [f j]:=by
  unfold lsb
  rw [List.range_succ]
  simp
def f3 (a:Fv) (p:Nat) (A:Nat→ByteArray):List ByteArray:=f2 a p ++ lsb A p
def f4 (a:Fv) (p:Nat) (A:Nat→ByteArray) (q:Nat):List ByteArray:=f3 a p A ++ [itx q]
def f5 (a:Fv) (p:Nat) (A:Nat→ByteArray) (q:Nat) (K:Nat→Int) (j:Nat):List ByteArray:=f4 a p A q ++ lsb (fun i=>itx (K i)) j
theorem f2_len (a:Fv) (p:Nat):(f2 a p).length≤9:=by
  have:=f1_len a 5
  unfold f2
  rw [List.length_append]
  simp
  omega
theorem f3_len (a:Fv) (p:Nat) (A:Nat→ByteArray) (hp:p≤200):(f3 a p A).length≤209:=by
  have:=f2_len a p
  unfold f3
  rw [List.length_append,lsb_len]
  omega
theorem f4_len (a:Fv) (p:Nat) (A:Nat→ByteArray) (q:Nat) (hp:p≤200):(f4 a p A q).length≤210:=by
  have:=f3_len a p A hp
  unfold f4
  rw [List.length_append]
  simp
  omega
theorem f5_len (a:Fv) (p:Nat) (A:Nat→ByteArray) (q:Nat) (K:Nat→Int) (j:Nat) (hp:p≤200) (hj:j≤200):(f5 a p A q K j).length≤410:=by
  have:=f4_len a p A q hp
  unfold f5
  rw [List.length_append,lsb_len]
  omega
theorem jt_lsb (f:Nat→ByteArray) (j:Nat):Lib.joinTail [32] ((lsb f j).map (·.data.toList))=jt f j:=by
  unfold Lib.joinTail lsb jt
  rw [List.map_map,List.map_map]
  rfl
theorem dln_join (a:Fv) (p:Nat) (A:Nat→ByteArray) (q:Nat) (K:Nat→Int):Lib.join ((f5 a p A q K q).map (·.data.toList)) [32] ++ [10]=dln a p A q K:=by
  have hj:∀ (x:List (List UInt8)) (y:List (List UInt8)),Lib.joinTail [32] (x ++ y)=Lib.joinTail [32] x ++ Lib.joinTail [32] y:=by
    intro x y;unfold Lib.joinTail;simp
  unfold dln d5 d4 d3 d2 f5 f4 f3 f2
  rw [← jt_lsb A p,← jt_lsb (fun i=>itx (K i)) q]
  unfold f1 d1 its
  simp only [List.take,List.map_cons,List.map_nil,List.map_append,List.cons_append,List.nil_append]
  rw [Lib.join_cons]
  have hc:∀ (x:List UInt8) (y:List (List UInt8)),Lib.joinTail [32] (x :: y)=32 :: x ++ Lib.joinTail [32] y:=by
    intro x y;unfold Lib.joinTail;simp
  simp only [hj,hc,List.flatten_cons,List.flatten_nil]
  simp [Lib.joinTail]
end Go.Proofs.YtomcmnompajnlaaGreatDoor.Fo
