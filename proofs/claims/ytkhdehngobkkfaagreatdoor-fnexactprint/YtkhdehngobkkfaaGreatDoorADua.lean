import Derived.Test.YtkhdehngobkkfaaGreatDoorADsh
import Derived.Lib.ItoaLen
import Derived.Test.YtkhdehngobkkfaaGreatDoorASpy
import Derived.Lib.OthersKept
set_option maxRecDepth 100000
set_option maxHeartbeats 8000000
namespace Go.Proofs.YtkhdehngobkkfaaGreatDoor
open Go.ChangeShapes Go.WideShapes Go.ChangeAt Go.RowKit
set_option linter.unusedVariables false
def w10(n:Nat):List UInt8:=if n=0 then []else Lib.decDigits n
theorem w10_zero:w10 0=[]:=rfl
theorem w10_pos(n:Nat)(h:n≠0):w10 n=w10 (n / 10)++[UInt8.ofNat (48+n%10)]:=by
 unfold w10;rw[if_neg h,Lib.decDigits];by_cases g:n<10
 ·rw[dif_pos g,if_pos (by omega),Nat.mod_eq_of_lt g];rfl
 ·rw[dif_neg g,if_neg (by omega)]
theorem w10_len:∀(k n:Nat),n<2 ^ k->(w10 n).length<=k:=by
  intro k
  induction k with
  | zero => intro n h; have : n = 0 := by simpa using h
            subst this;simp[w10]
  |succ k ih=>
    intro n h;by_cases g:n=0
    · subst g;simp[w10]
    · rw[w10_pos n g,List.length_append];have:=ih (n / 10) (by rw[Nat.pow_succ]at h;omega)
      simpa using this
theorem dgt_nat(r:Nat)(h:r<10):(UInt8.ofNat (48+r)).toNat=48+r:=by
 rw[UInt8.toNat_ofNat',Nat.mod_eq_of_lt (by omega)]
structure Dq (w:World) (acc:List UInt8) (v:Value) (W:World):Prop where
 bel:Below w.heap.size w W
 row:W.ownsRow w.heap.size 5 1 v acc.length (Lib.byteCells acc)
theorem Dq.add{w:World}{acc:List UInt8}{v v':Value}{W w1:World}{o:Obj}(b:UInt8)(h:Dq w acc v W)
  (ho:w1.ownsRow w.heap.size 5 1 v' (acc.length+1) (Lib.byteCells acc++Lib.byteCells [b])) (hg:(W.alloc o).grownBy w1 v.ownBlock):Dq w (acc++[b]) v' w1:=by
 have hb:=h.bel;have hsz:=hb.size;have hblk:∀i,i<w.heap.size->w1.heap[i]? =W.heap[i]?:=λi hi=>(hg.block i (by simp;omega) (λe2=>by have:=(h.row.lt i e2.symm).1;omega)).trans (Below.heap_alloc _ _ _ (by omega));have hgs:=hg.size;refine⟨⟨hg.os.trans hb.os,hg.tape.trans hb.tape,hg.output.trans hb.output,?_,λi hi=>?_⟩,?_⟩
 ·simp at hgs;omega
 ·rw[hblk i hi];exact hb.block i hi
 ·rw[List.length_append,bc_append];exact ho
def DcI(w:World)(n j:Nat)(acc:List UInt8)(v:Value)(W:World):Prop:=Dq w acc v W/\w10 n=w10 j++acc.reverse/\acc.length<=64
def DcO(w:World)(acc:List UInt8)(g:Nat)(i:Nat)(W:World):Prop:=Below w.heap.size w W/\g<W.heap.size/\∀j x,acc[j]? =some x->W.cell? ⟨g,j,none⟩=some (.int .u8 x.toNat)
theorem spec_dcp(n:Nat)(hn:(n:Int)<9223372036854775808)(h0:n≠0)(w:World):Calls Tryz.prog 99 #[.int .i64 n] w λe w'=>e=.returned (.string ⟨(Lib.decDigits n).toArray⟩)/\Below w.heap.size w w':=by
 have e:Lib.decDigits n=w10 n:=by unfold w10;rw[if_neg h0]
 rw[e];have hnI:((n:Int)==0)=false:=by rw[beq_eq_false_iff_ne];omega
 have hnN:¬(n:Int)<0:=by omega
 have hwl:=w10_len 64 n (by omega);obtain⟨i0,hi0,hz0,hz1,hz2⟩:=info_parts info5;have HI0:Hid (Tryz.prog.info? 5=some i0):=hi0;have HT0:Hid (DcI w n n [] (.slice none 0 0) w):=(⟨⟨Below.refl _ _,World.ownsRow_nil _ _ _ _⟩,by simp,by simp⟩:_/\_/\_)
 have HWL:Hid ((w10 n).length<=64):=hwl;obtain⟨M,hM,hnM⟩:∃M:Int,M<=9223372036854775807/\(n:Int)<=M:=⟨n,by omega,Int.le_refl _⟩
 have HM:Hid (M<=9223372036854775807/\(n:Int)<=M):=(⟨hM,hnM⟩:_/\_)
 have HN0:Hid (n≠0):=h0;clear e hwl hi0 h0 hn hM hnM;go_enter Tryz.func99,Tryz.ntmps99
 go_upto_block 0 with fail
 go_wp2_with fail;clear hnI hnN
 go_loopw [0,4] (λs0 s4 wr=>∃(j:Nat) (acc:List UInt8) (v:Value),s0=.int .i64 j/\v=s4/\j<=n/\DcI w n j acc v wr) (λs0 _ _=>(intOf s0).toNat)
 case atStart=>exact⟨n,[],.slice none 0 0,rfl,rfl,Nat.le_refl _,HT0⟩
 case round=>
  clear HT0;obtain⟨j,acc,v,rfl,hvv,hj,HI⟩:=hrel;subst hvv;obtain⟨hD,hW,hA⟩:=(uh HI)
  clear HI;by_cases hj0:j=0
  ·subst hj0;rw[w10_zero,List.nil_append]at hW;have hrow:=hD.row
   have hpos:0<acc.length:=by
    have h1:=congrArg List.length hW;rw[w10_pos n HN0,List.length_append,List.length_reverse]at h1;simp at h1;omega
   obtain⟨g,cap,rfl,hcap⟩:∃g cap,v=.slice (some ⟨g,0,none⟩) acc.length cap/\acc.length<=cap:=by
    rcases hrow.2 with⟨_,h⟩|⟨g,cap,cur,h1,_,_,h2,_⟩
    ·omega
    ·exact⟨g,cap,h1,h2⟩
   have hcl:∀j x,acc[j]? =some x->wr.cell? ⟨g,j,none⟩=some (.int .u8 x.toNat):=by
    intro j x hx;have:=hrow.cells (g:=g) rfl j (.int .u8 x.toNat) (by simp[Lib.byteCells,hx]);rw[addr_add]at this;exact this
   have HO:Hid (DcO w acc g 0 wr):=(⟨hD.bel,by
    obtain⟨x,hx⟩:∃x,acc[0]? =some x:=⟨acc[0],List.getElem?_eq_getElem hpos⟩
    exact Rd.lt_of_cell (hcl 0 x hx),hcl⟩:_/\_/\_)
   have HW:Hid (w10 n=acc.reverse):=hW;have hA2:(acc.length:Int)<=64:=by omega
   clear hD hW hrow hcl hj HWL HM hz0 hz1 hz2 HI0 HN0;go_wp2_with fail
   go_loopw [6,7] (λs6 s7 wr=>∃i:Nat,i<=acc.length/\s7=.int .i64 ((i:Int)-1)/\s6=.string ⟨(acc.reverse.take (acc.length-i)).toArray⟩/\DcO w acc g 0 wr) (λ_ s7 _=>(intOf s7+1).toNat)
   case atStart=>exact⟨acc.length,Nat.le_refl _,by go_num,by rw[Nat.sub_self];rfl,HO⟩
   case round=>
    clear HO;obtain⟨i,hi,hs7,rfl,HQ⟩:=hrel;cases i with
    |zero=>
     have e7:((0:Nat):Int)-1=-1:=rfl;rw[e7]at hs7;subst hs7;have eo:acc.reverse.take (acc.length-0)=w10 n:=by rw[show w10 n=acc.reverse from HW,Nat.sub_zero,<-List.length_reverse,List.take_length]
     rw[eo];have HE:Hid (Below w.heap.size w wr):=HQ.1;clear HQ eo e7 HW;go_wp2_with fail;go_ret;exact⟨rfl,HE⟩
    |succ i=>
     have e7:((i+1:Nat):Int)-1=(i:Int):=by omega
     rw[e7]at hs7;subst hs7;obtain⟨q1,q2,q3⟩:=(uh HQ)
     have hx:acc[i]? =some acc[i]:=List.getElem?_eq_getElem (by omega);have hc:=q3 i _ hx;have hcv:=conv_one wr acc[i];have hiI:(i:Int)<(acc.length:Int):=by omega
     have hi0:(0:Int)<=(i:Int):=by omega
     have htk:acc.reverse.take (acc.length-i)=acc.reverse.take (acc.length-(i+1))++[acc[i]]:=by
      rw[show acc.length-i=(acc.length-(i+1))+1 by omega]
      have hr:acc.reverse[acc.length-(i+1)]? =some acc[i]:=by
       rw[List.getElem?_reverse (by omega),show acc.length-1-(acc.length-(i+1))=i by omega];exact hx
      rw[List.take_add_one,hr];rfl
     have HTK:Hid ((⟨(acc.reverse.take (acc.length-(i+1))).toArray⟩:ByteArray)++⟨#[acc[i]]⟩=⟨(acc.reverse.take (acc.length-i)).toArray⟩):=by
      show(_:ByteArray)=_;rw[htk];apply ByteArray.ext
      simp
     have hsz:(⟨(acc.reverse.take (acc.length-(i+1))).toArray⟩:ByteArray).size<=64:=by
      show(acc.reverse.take (acc.length-(i+1))).toArray.size<=64
      simp
      omega
     have HN:Hid (DcO w acc g 0 (wr.alloc (.cells #[.int .u8 (acc[i].toNat:Int)] 5))):=(⟨q1.alloc q1.size _,by simp;omega,λj x hx=>by
      have e:=World.cell?_of_block (a:=⟨g,j,none⟩) (Below.heap_alloc wr (.cells #[.int .u8 (acc[i].toNat:Int)] 5) g q2)
      rw[e];exact q3 j x hx⟩:_/\_/\_)
     clear HQ q1 q2 q3 hx htk HW;generalize (⟨(acc.reverse.take (acc.length-(i+1))).toArray⟩:ByteArray)=O1 at*;generalize acc[i]=xx at*;have hsz2:¬9223372036854775807<O1.size+1:=by omega
     go_wp2_with fail;go_roundw
     case rel=>exact⟨i,by omega,by go_num,by rw[<-(uh HTK)],HN⟩
     case measure=>first|(simp[intOf];done)|(simp[intOf];omega)
  ·have hjI:((j:Int) !=0)=true:=by rw[bne,show((j:Int)==0)=false by rw[beq_eq_false_iff_ne];omega];rfl
   have hjn:((j:Int)==0)=false:=by rw[beq_eq_false_iff_ne];omega
   have hq:Int.tmod (j:Int) 10=((j%10:Nat):Int):=rfl;have hq2:Int.tdiv (j:Int) 10=((j / 10:Nat):Int):=rfl;have dx2:(UInt8.ofNat (48+j%10)).toNat=48+j%10:=dgt_nat _ (by omega);have hstep:=w10_pos j hj0;have hd0:(0:Int)<=((j%10:Nat):Int):=by omega
   have hd1:((j%10:Nat):Int)<10:=by omega
   have hdn:¬((j%10:Nat):Int)<0:=by omega
   have hbc:Lib.byteCells [UInt8.ofNat (48+j%10)]=[.int .u8 (48+((j%10:Nat):Int))]:=by
    show [Value.int .u8 ((UInt8.ofNat (48+j%10)).toNat:Int)]=_;rw[dx2];congr 2
   have h1c:=bc_one [UInt8.ofNat (48+j%10)];rw[hbc]at h1c
   have hlen:acc.length+1<=64:=by
    have h1:=congrArg List.length hW;rw[hstep,List.length_append,List.length_append,List.length_reverse]at h1;have:=(uh HWL)
    simp at h1;omega
   have HADD:Hid (∀(o:Obj) (v':Value) (w5:World),w5.ownsRow w.heap.size 5 1 v' (acc.length+1) (Lib.byteCells acc++[.int .u8 (48+((j%10:Nat):Int))])->(wr.alloc o).grownBy w5 v.ownBlock->DcI w n (j / 10) (acc++[UInt8.ofNat (48+j%10)]) v' w5):=
    (λo v' w5 ho hg=>⟨hD.add _ (by rw[hbc];exact ho) hg,by rw[hW,hstep,List.reverse_append];simp,by rw[List.length_append];simpa using hlen⟩:∀(o:Obj) (v':Value) (w5:World),w5.ownsRow w.heap.size 5 1 v' (acc.length+1) (Lib.byteCells acc++[.int .u8 (48+((j%10:Nat):Int))])->(wr.alloc o).grownBy w5 v.ownBlock->DcI w n (j / 10) (acc++[UInt8.ofNat (48+j%10)]) v' w5)
   have howna:∀o:Obj,(wr.alloc o).ownsRow w.heap.size 5 1 v acc.length (Lib.byteCells acc):=λo=>hD.row.alloc o;have hs4:=hD.bel.size;obtain⟨jq,hjq⟩:∃jq,j / 10=jq:=⟨_,rfl⟩
   rw[hjq]at hq2 HADD;have hjl:jq<j:=by omega
   have hjw:wrap64 (jq:Int)=(jq:Int):=by
    have hM:=(uh HM)
    unfold wrap64;omega
   clear hD hW hstep hbc dx2 hA hjq;generalize UInt8.ofNat (48+j%10)=dd at*;generalize ((j%10:Nat):Int)=r at*;go_wp2_with (at_builtin;refine wpList_append_own _ rfl (.tmp 20) (.tmp 24) 38 rfl w.heap.size 5 i0 (.int .u8 0) 1 1 Tryz.underlying38 HI0 hz0 hz1 hz2 rfl (by decide) _ _ _ rfl (howna _) ⟨wr.heap.size,0,none⟩ 1 1 [.int .u8 (48+r)] rfl rfl (qr_cells wr #[.int .u8 (48+r)] 5 _ rfl) h1c (by unfold maxLen;omega) (by omega) (by simp;omega) ?_;intro v' w5 hown1 hgrow1 _);have hN:=(uh HADD) _ _ _ hown1 hgrow1;clear HADD hown1 hgrow1 howna;go_wp2_with fail;go_roundw
   case rel=>exact⟨jq,acc++[dd],v',by rw[hjw],rfl,by omega,hN⟩
   case measure=>
    rw[hjw];clear HWL HM hjw hq hq2;simp[intOf];exact hjl
theorem spec_dcn(n:Nat)(hn:(n:Int)<=9223372036854775808)(h0:n≠0)(w:World):Calls Tryz.prog 99 #[.int .i64 (-(n:Int))] w λe w'=>e=.returned (.string ⟨(45::Lib.decDigits n).toArray⟩)/\Below w.heap.size w w':=by
 have e:Lib.decDigits n=w10 n:=by unfold w10;rw[if_neg h0]
 rw[e];have hnI:(-(n:Int)==0)=false:=by rw[beq_eq_false_iff_ne];omega
 have hnN:-(n:Int)<0:=by omega
 have hnP:(0:Int)<(n:Int):=by omega
 have hnQ:0<n:=by omega
 have hwl:=w10_len 64 n (by omega);obtain⟨i0,hi0,hz0,hz1,hz2⟩:=info_parts info5;have HI0:Hid (Tryz.prog.info? 5=some i0):=hi0;have HT0:Hid (DcI w n n [] (.slice none 0 0) w):=(⟨⟨Below.refl _ _,World.ownsRow_nil _ _ _ _⟩,by simp,by simp⟩:_/\_/\_)
 have HWL:Hid ((w10 n).length<=64):=hwl;obtain⟨M,hM,hnM⟩:∃M:Int,M<=9223372036854775808/\(n:Int)<=M:=⟨n,by omega,Int.le_refl _⟩
 have HM:Hid (M<=9223372036854775808/\(n:Int)<=M):=(⟨hM,hnM⟩:_/\_)
 have HN0:Hid (n≠0):=h0;clear e hwl hi0 h0 hn hM hnM;go_enter Tryz.func99,Tryz.ntmps99
 go_upto_block 0 with fail
 go_wp2_with fail;clear hnI hnN hnP hnQ
 go_loopw [0,4] (λs0 s4 wr=>∃(j:Nat) (acc:List UInt8) (v:Value),s0=.int .i64 (-(j:Int))/\v=s4/\j<=n/\DcI w n j acc v wr) (λs0 _ _=>(-(intOf s0)).toNat)
 case atStart=>exact⟨n,[],.slice none 0 0,rfl,rfl,Nat.le_refl _,HT0⟩
 case round=>
  clear HT0;obtain⟨j,acc,v,rfl,hvv,hj,HI⟩:=hrel;subst hvv;obtain⟨hD,hW,hA⟩:=(uh HI)
  clear HI;by_cases hj0:j=0
  ·subst hj0;rw[w10_zero,List.nil_append]at hW;have hrow:=hD.row
   have hpos:0<acc.length:=by
    have h1:=congrArg List.length hW;rw[w10_pos n HN0,List.length_append,List.length_reverse]at h1;simp at h1;omega
   obtain⟨g,cap,rfl,hcap⟩:∃g cap,v=.slice (some ⟨g,0,none⟩) acc.length cap/\acc.length<=cap:=by
    rcases hrow.2 with⟨_,h⟩|⟨g,cap,cur,h1,_,_,h2,_⟩
    ·omega
    ·exact⟨g,cap,h1,h2⟩
   have hcl:∀j x,acc[j]? =some x->wr.cell? ⟨g,j,none⟩=some (.int .u8 x.toNat):=by
    intro j x hx;have:=hrow.cells (g:=g) rfl j (.int .u8 x.toNat) (by simp[Lib.byteCells,hx]);rw[addr_add]at this;exact this
   have HO:Hid (DcO w acc g 0 wr):=(⟨hD.bel,by
    obtain⟨x,hx⟩:∃x,acc[0]? =some x:=⟨acc[0],List.getElem?_eq_getElem hpos⟩
    exact Rd.lt_of_cell (hcl 0 x hx),hcl⟩:_/\_/\_)
   have HW:Hid (w10 n=acc.reverse):=hW;have hA2:(acc.length:Int)<=64:=by omega
   clear hD hW hrow hcl hj HWL HM hz0 hz1 hz2 HI0 HN0;go_wp2_with fail
   go_loopw [6,7] (λs6 s7 wr=>∃i:Nat,i<=acc.length/\s7=.int .i64 ((i:Int)-1)/\s6=.string ⟨(45::acc.reverse.take (acc.length-i)).toArray⟩/\DcO w acc g 0 wr) (λ_ s7 _=>(intOf s7+1).toNat)
   case atStart=>exact⟨acc.length,Nat.le_refl _,by go_num,by rw[Nat.sub_self];rfl,HO⟩
   case round=>
    clear HO;obtain⟨i,hi,hs7,rfl,HQ⟩:=hrel;cases i with
    |zero=>
     have e7:((0:Nat):Int)-1=-1:=rfl;rw[e7]at hs7;subst hs7;have eo:acc.reverse.take (acc.length-0)=w10 n:=by rw[show w10 n=acc.reverse from HW,Nat.sub_zero,<-List.length_reverse,List.take_length]
     rw[eo];have HE:Hid (Below w.heap.size w wr):=HQ.1;clear HQ eo e7 HW;go_wp2_with fail;go_ret;exact⟨rfl,HE⟩
    |succ i=>
     have e7:((i+1:Nat):Int)-1=(i:Int):=by omega
     rw[e7]at hs7;subst hs7;obtain⟨q1,q2,q3⟩:=(uh HQ)
     have hx:acc[i]? =some acc[i]:=List.getElem?_eq_getElem (by omega);have hc:=q3 i _ hx;have hcv:=conv_one wr acc[i];have hiI:(i:Int)<(acc.length:Int):=by omega
     have hi0:(0:Int)<=(i:Int):=by omega
     have htk:acc.reverse.take (acc.length-i)=acc.reverse.take (acc.length-(i+1))++[acc[i]]:=by
      rw[show acc.length-i=(acc.length-(i+1))+1 by omega]
      have hr:acc.reverse[acc.length-(i+1)]? =some acc[i]:=by
       rw[List.getElem?_reverse (by omega),show acc.length-1-(acc.length-(i+1))=i by omega];exact hx
      rw[List.take_add_one,hr];rfl
     have HTK:Hid ((⟨(45::acc.reverse.take (acc.length-(i+1))).toArray⟩:ByteArray)++⟨#[acc[i]]⟩=⟨(45::acc.reverse.take (acc.length-i)).toArray⟩):=by
      show(_:ByteArray)=_;rw[htk];apply ByteArray.ext
      simp
     have hsz:(⟨(45::acc.reverse.take (acc.length-(i+1))).toArray⟩:ByteArray).size<=65:=by
      show(45::acc.reverse.take (acc.length-(i+1))).toArray.size<=65
      simp
      omega
     have HN:Hid (DcO w acc g 0 (wr.alloc (.cells #[.int .u8 (acc[i].toNat:Int)] 5))):=(⟨q1.alloc q1.size _,by simp;omega,λj x hx=>by
      have e:=World.cell?_of_block (a:=⟨g,j,none⟩) (Below.heap_alloc wr (.cells #[.int .u8 (acc[i].toNat:Int)] 5) g q2)
      rw[e];exact q3 j x hx⟩:_/\_/\_)
     clear HQ q1 q2 q3 hx htk HW;generalize (⟨(45::acc.reverse.take (acc.length-(i+1))).toArray⟩:ByteArray)=O1 at*;generalize acc[i]=xx at*;have hsz2:¬9223372036854775807<O1.size+1:=by omega
     go_wp2_with fail;go_roundw
     case rel=>exact⟨i,by omega,by go_num,by rw[<-(uh HTK)],HN⟩
     case measure=>first|(simp[intOf];done)|(simp[intOf];omega)
  ·have hjI:(-(j:Int) !=0)=true:=by rw[bne,show(-(j:Int)==0)=false by rw[beq_eq_false_iff_ne];omega];rfl
   have hjn:(-(j:Int)==0)=false:=by rw[beq_eq_false_iff_ne];omega
   have hq:Int.tmod (-(j:Int)) 10=-((j%10:Nat):Int):=Int.neg_tmod _ _;have hq2:Int.tdiv (-(j:Int)) 10=-((j / 10:Nat):Int):=Int.neg_tdiv _ _;have dx2:(UInt8.ofNat (48+j%10)).toNat=48+j%10:=dgt_nat _ (by omega);have hstep:=w10_pos j hj0;have hd0:(0:Int)<=((j%10:Nat):Int):=by omega
   have hd1:((j%10:Nat):Int)<10:=by omega
   have hdn:¬((j%10:Nat):Int)<0:=by omega
   have hbc:Lib.byteCells [UInt8.ofNat (48+j%10)]=[.int .u8 (48+((j%10:Nat):Int))]:=by
    show [Value.int .u8 ((UInt8.ofNat (48+j%10)).toNat:Int)]=_;rw[dx2];congr 2
   have h1c:=bc_one [UInt8.ofNat (48+j%10)];rw[hbc]at h1c
   have hlen:acc.length+1<=64:=by
    have h1:=congrArg List.length hW;rw[hstep,List.length_append,List.length_append,List.length_reverse]at h1;have:=(uh HWL)
    simp at h1;omega
   have HADD:Hid (∀(o:Obj) (v':Value) (w5:World),w5.ownsRow w.heap.size 5 1 v' (acc.length+1) (Lib.byteCells acc++[.int .u8 (48+((j%10:Nat):Int))])->(wr.alloc o).grownBy w5 v.ownBlock->DcI w n (j / 10) (acc++[UInt8.ofNat (48+j%10)]) v' w5):=
    (λo v' w5 ho hg=>⟨hD.add _ (by rw[hbc];exact ho) hg,by rw[hW,hstep,List.reverse_append];simp,by rw[List.length_append];simpa using hlen⟩:∀(o:Obj) (v':Value) (w5:World),w5.ownsRow w.heap.size 5 1 v' (acc.length+1) (Lib.byteCells acc++[.int .u8 (48+((j%10:Nat):Int))])->(wr.alloc o).grownBy w5 v.ownBlock->DcI w n (j / 10) (acc++[UInt8.ofNat (48+j%10)]) v' w5)
   have howna:∀o:Obj,(wr.alloc o).ownsRow w.heap.size 5 1 v acc.length (Lib.byteCells acc):=λo=>hD.row.alloc o;have hs4:=hD.bel.size;obtain⟨jq,hjq⟩:∃jq,j / 10=jq:=⟨_,rfl⟩
   rw[hjq]at hq2 HADD;have hjl:jq<j:=by omega
   have hjw:wrap64 (-(jq:Int))=-(jq:Int):=by
    have hM:=(uh HM)
    unfold wrap64;omega
   by_cases hr0:j%10=0
   ·have er:((j%10:Nat):Int)=0:=by omega
    rw[er]at hq HADD h1c hbc hd0 hd1 hdn;rw[Int.neg_zero]at hq;have e48:(48:Int)+0=48:=rfl;rw[e48]at HADD h1c;clear hD hW hstep hbc dx2 hA hjq;generalize UInt8.ofNat (48+j%10)=dd at*;clear er hr0;go_wp2_with (at_builtin;refine wpList_append_own _ rfl (.tmp 20) (.tmp 24) 38 rfl w.heap.size 5 i0 (.int .u8 0) 1 1 Tryz.underlying38 HI0 hz0 hz1 hz2 rfl (by decide) _ _ _ rfl (howna _) ⟨wr.heap.size,0,none⟩ 1 1 [.int .u8 (48)] rfl rfl (qr_cells wr #[.int .u8 (48)] 5 _ rfl) h1c (by unfold maxLen;omega) (by omega) (by simp;omega) ?_;intro v' w5 hown1 hgrow1 _);have hN:=(uh HADD) _ _ _ hown1 hgrow1;clear HADD hown1 hgrow1 howna;go_wp2_with fail;go_roundw
    case rel=>exact⟨jq,acc++[dd],v',by rw[hjw],rfl,by omega,hN⟩
    case measure=>
     rw[hjw];clear HWL HM hjw hq hq2;simp[intOf];exact hjl
   ·have hdm:-((j%10:Nat):Int)<0:=by omega
    clear hr0;clear hD hW hstep hbc dx2 hA hjq;generalize UInt8.ofNat (48+j%10)=dd at*;generalize ((j%10:Nat):Int)=r at*;go_wp2_with (at_builtin;refine wpList_append_own _ rfl (.tmp 20) (.tmp 24) 38 rfl w.heap.size 5 i0 (.int .u8 0) 1 1 Tryz.underlying38 HI0 hz0 hz1 hz2 rfl (by decide) _ _ _ rfl (howna _) ⟨wr.heap.size,0,none⟩ 1 1 [.int .u8 (48+r)] rfl rfl (qr_cells wr #[.int .u8 (48+r)] 5 _ rfl) h1c (by unfold maxLen;omega) (by omega) (by simp;omega) ?_;intro v' w5 hown1 hgrow1 _);have hN:=(uh HADD) _ _ _ hown1 hgrow1;clear HADD hown1 hgrow1 howna;go_wp2_with fail;go_roundw
    case rel=>exact⟨jq,acc++[dd],v',by rw[hjw],rfl,by omega,hN⟩
    case measure=>
     rw[hjw];clear HWL HM hjw hq hq2;simp[intOf];exact hjl
def itx(n:Int):ByteArray:=⟨(Lib.itoa n).toArray⟩
theorem itx_size(n:Int)(h0:-9223372036854775808<=n)(h1:n<=9223372036854775807):(itx n).size<=21:=by
 have:=Lib.itoa_length_le n h0 h1;show((Lib.itoa n).toArray).size<=21
 simpa using this
theorem spec_itoa(n:Int)(h0:-9223372036854775808<=n)(h1:n<=9223372036854775807)(w:World):Calls Tryz.prog 99 #[.int .i64 n] w λe w'=>e=.returned (.string (itx n))/\Below w.heap.size w w':=by
 by_cases hz:n=0
 ·subst hz;have e:itx 0=⟨#[48]⟩:=by unfold itx Lib.itoa;rw[if_neg (by omega),Lib.decDigits];rfl
  rw[e];go_enter Tryz.func99,Tryz.ntmps99;go_wp2_with fail;go_ret;exact⟨rfl,Below.refl _ _⟩
 ·by_cases hn:n<0
  ·have:=spec_dcn n.natAbs (by omega) (by omega) w;rw[show-((n.natAbs:Nat):Int)=n by omega]at this;unfold itx Lib.itoa;rw[if_pos hn];exact this
  ·have:=spec_dcp n.toNat (by omega) (by omega) w;rw[show((n.toNat:Nat):Int)=n by omega]at this;unfold itx Lib.itoa;rw[if_neg hn];exact this
def Pw(w:World):Prop:=Lib.TabIs Tryz.prog w "internal/strconv.uint64pow10" .u64 Lib.pow10Tab
theorem below_grow(w:World)(k:Nat)(os:Array Obj):Below w.heap.size w (Go.Sort.grow (w.drewN k) os):=
 ⟨rfl,rfl,rfl,by simp[Go.Sort.grow],λj hj=>by simp[Go.Sort.grow,Array.getElem?_append_left hj]⟩
theorem impl_fmt(n:Int)(h0:-9223372036854775808<=n)(h1:n<=9223372036854775807)(w:World)(hp:Pw w):
  Calls Tryz.prog 138 #[.int .i64 n,.int .i64 10] w λe w'=>e=.returned (.string (itx n))/\Below w.heap.size w w':=by
 have HC:Hid (Calls Tryz.prog 141 #[.int .i64 n,.int .i64 10] w λe w'=>e=.returned (.string (itx n))/\Below w.heap.size w w'):=by
  refine(format10 n h0 h1 w hp).mono ?_;rintro e w' ⟨rfl,k,os,rfl⟩;exact⟨rfl,below_grow w k os⟩
 clear hp h0 h1;generalize itx n=T at*;go_enter Tryz.func138,Tryz.ntmps138;go_wp2_with fail;refine(uh HC).mono ?_;rintro e w2 ⟨rfl,hg⟩;clear HC;go_wp2_with fail;go_ret;exact⟨rfl,hg⟩
end Go.Proofs.YtkhdehngobkkfaaGreatDoor
namespace Go.Proofs.YtkhdehngobkkfaaGreatDoor.Fo
open Go.ChangeShapes Go.WideShapes Go.ChangeAt Go.RowKit
set_option linter.unusedVariables false
variable {F:Nat->Gv}{n:Nat}
theorem ba_size(l:List UInt8):(⟨l.toArray⟩:ByteArray).size=l.length:=by
 show l.toArray.size=_
 simp
theorem sz_len(x:ByteArray):x.data.toList.length=x.size:=by
 show x.data.toList.length=x.data.size
 simp
def its(a:Fv):List Int:=[a.k,a.f,a.t,a.l,a.o,a.m]
def d1(a:Fv)(i:Nat):List UInt8:=(((its a).take i).map λn=>(itx n).data.toList++[32]).flatten
def jt(f:Nat->ByteArray)(j:Nat):List UInt8:=((List.range j).map λi=>32::(f i).data.toList).flatten
theorem jt_succ(f:Nat->ByteArray)(j:Nat):jt f (j+1)=jt f j++32::(f j).data.toList:=by
 unfold jt;rw[List.range_succ]
 simp
theorem jt_len(f:Nat->ByteArray)(B:Nat):∀j,(∀i,i<j->(f i).size<=B)->(jt f j).length<=j*(B+1):=by
 intro j
 induction j with
 |zero=>intro _;simp[jt]
 |succ j ih=>
  intro h;have h1:=ih (λi hi=>h i (by omega));have h2:=h j (by omega);rw[jt_succ,List.length_append,List.length_cons,sz_len,Nat.succ_mul];omega
def d2(a:Fv)(p:Nat):List UInt8:=d1 a 6++((qt a.x).data.toList++32::(itx p).data.toList)
def d3(a:Fv)(p:Nat)(A:Nat->ByteArray)(j:Nat):List UInt8:=d2 a p++jt A j
def d4(a:Fv)(p:Nat)(A:Nat->ByteArray)(q:Nat):List UInt8:=d3 a p A p++32::(itx q).data.toList
def d5(a:Fv)(p:Nat)(A:Nat->ByteArray)(q:Nat)(K:Nat->Int)(j:Nat):List UInt8:=d4 a p A q++jt (λi=>itx (K i)) j
def dln(a:Fv)(p:Nat)(A:Nat->ByteArray)(q:Nat)(K:Nat->Int):List UInt8:=d5 a p A q K q++[10]
structure Lk (a:Fv) (p:Nat) (A:Nat->ByteArray) (q:Nat) (K:Nat->Int):Prop where
 rg:∀n ∈ its a,-9223372036854775808<=n/\n<=9223372036854775807
 hx:a.x.size<=4000
 hp:p<=200
 hA:∀j,j<p->(A j).size<=4000
 hq:q<=200
 hK:∀j,j<q->-9223372036854775808<=K j/\K j<=9223372036854775807
theorem qt_size(x:ByteArray):(qt x).size<=16002:=by
 unfold qt;by_cases h:4000<x.size
 ·rw[if_pos h];decide
 ·rw[if_neg h,ba_size,List.length_append];have:=quo_len x.data.toList x.data.toList.length;rw[sz_len]at this⊢
  simp
  omega
theorem d1_len(a:Fv)(h:∀n ∈ its a,-9223372036854775808<=n/\n<=9223372036854775807):∀i,(d1 a i).length<=i*22:=by
 intro i
 induction i with
 |zero=>simp[d1]
 |succ i ih=>
  unfold d1 at ih⊢;rw[List.take_add_one];cases e:(its a)[i]? with
  |none=>simp only[Option.toList,List.append_nil];omega
  |some n=>
   have hm:=h n (List.mem_of_getElem? e);have:=itx_size n hm.1 hm.2;have h2:=sz_len (itx n);simp only[Option.toList,List.map_append,List.flatten_append,List.length_append,List.map_cons,List.map_nil,List.flatten_cons,List.flatten_nil,List.length_cons,List.length_nil];omega
theorem Lk.d2 {a:Fv} {p:Nat} {A:Nat->ByteArray} {q:Nat} {K:Nat->Int} (h:Lk a p A q K):(d2 a p).length<=17000:=by
 have h1:=d1_len a h.rg 6;have h2:=qt_size a.x;have h3:=itx_size (p:Int) (by omega) (by have:=h.hp;omega);unfold Fo.d2;rw[List.length_append,List.length_append,List.length_cons,sz_len,sz_len];omega
theorem Lk.d3 {a:Fv} {p:Nat} {A:Nat->ByteArray} {q:Nat} {K:Nat->Int} (h:Lk a p A q K) (j:Nat) (hj:j<=p):(d3 a p A j).length<=820000:=by
 have h1:=h.d2;have h2:=jt_len A 4000 j (λi hi=>h.hA i (by omega));have h3:=h.hp;have h4:j*(4000+1)<=200*4001:=Nat.mul_le_mul (by omega) (Nat.le_refl _);unfold Fo.d3;rw[List.length_append];omega
theorem Lk.d4 {a:Fv} {p:Nat} {A:Nat->ByteArray} {q:Nat} {K:Nat->Int} (h:Lk a p A q K):(d4 a p A q).length<=830000:=by
 have h1:=h.d3 p (Nat.le_refl _);have h3:=itx_size (q:Int) (by omega) (by have:=h.hq;omega);unfold Fo.d4;rw[List.length_append,List.length_cons,sz_len];omega
theorem Lk.d5 {a:Fv} {p:Nat} {A:Nat->ByteArray} {q:Nat} {K:Nat->Int} (h:Lk a p A q K) (j:Nat) (hj:j<=q):(d5 a p A q K j).length<=840000:=by
 have h1:=h.d4;have h2:=jt_len (λi=>itx (K i)) 21 j (λi hi=>itx_size _ (h.hK i (by omega)).1 (h.hK i (by omega)).2);have h3:=h.hq;have h4:j*(21+1)<=200*22:=Nat.mul_le_mul (by omega) (Nat.le_refl _);unfold Fo.d5;rw[List.length_append];omega
theorem Lk.len{a:Fv}{p:Nat}{A:Nat->ByteArray}{q:Nat}{K:Nat->Int}(h:Lk a p A q K):(dln a p A q K).length<=1000000:=by
 have h1:=h.d5 q (Nat.le_refl _);unfold dln;rw[List.length_append]
 simp
 omega
def sN (C:Nat->Nat):Nat->Nat
 |0=>0
 |j+1=>sN C j+C j
theorem sN_le {C D:Nat->Nat}:∀q,(∀j,j<q->C j<=D j)->sN C q<=sN D q
 |0,_=>Nat.le_refl _
 |q+1,h=>Nat.add_le_add (sN_le q (λj hj=>h j (by omega))) (h q (by omega))
theorem sN_lin (C:Nat->Nat) (a b:Nat):∀q,sN (λj=>a+b*C j) q=a*q+b*sN C q
 |0=>by simp[sN]
 |q+1=>by
  show sN _ q+(a+b*C q)=a*(q+1)+b*(sN C q+C q);rw[sN_lin C a b q,Nat.mul_add,Nat.mul_add];omega
theorem sN_split (C:Nat->Nat) (m:Nat):∀r,sN C (m+r)=sN C m+sN (λj=>C (m+j)) r
 |0=>by simp[sN]
 |r+1=>by
  show sN C (m+r)+C (m+r)=sN C m+(sN (λj=>C (m+j)) r+C (m+r));rw[sN_split C m r];omega
theorem cmj_len (ts:Nat->List UInt8):∀q,(cmj ts q).length<=2*q+sN (λj=>(ts j).length) q
 |0=>by simp[cmj,sN]
 |q+1=>by
  have:=cmj_len ts q;show(cmj ts q++(if q=0 then []else [44,32])++ts q).length<=2*(q+1)+(sN _ q+(ts q).length);rw[List.length_append,List.length_append];have:(if q=0 then([]:List UInt8)else [44,32]).length<=2:=by split<;>simp
  omega
theorem lns_len (t:Nat) (ts:Nat->List UInt8):∀q,(lns t ts q).length<=(t+1)*q+sN (λj=>(ts j).length) q
 |0=>by simp[lns,sN]
 |q+1=>by
  have:=lns_len t ts q;show(lns t ts q++(10::(tbs t++ts q))).length<=(t+1)*(q+1)+(sN _ q+(ts q).length);rw[List.length_append,List.length_cons,List.length_append,Nat.mul_add];have:(tbs t).length=t:=by simp[tbs]
  omega
theorem bk_sum {sz:Nat->Int} {K:Nat->Int} (hs:∀k,0<=sz k):∀(q:Nat) (a r:Int),bk sz K q a=some r->(sN (λj=>(sz (K j).toNat).toNat) q:Int)=a-r
 |0,a,r,h=>by
  injection h with h
  show((0:Nat):Int)=_;omega
 |q+1,a,r,h=>by
  unfold bk at h;by_cases e:K q=a-1/\sz (K q).toNat≠0
  ·rw[if_pos e]at h;have:=bk_sum hs q _ _ h;have:=hs (K q).toNat;show((sN _ q+(sz (K q).toNat).toNat:Nat):Int)=_;omega
  ·rw[if_neg e]at h;cases h
theorem sN_congr {C D:Nat->Nat}:∀q,(∀j,j<q->C j=D j)->sN C q=sN D q
 |0,_=>rfl
 |q+1,h=>by
  show sN C q+C q=sN D q+D q;rw[sN_congr q (λj hj=>h j (by omega)),h q (by omega)]
structure Snd (nm fl:ByteArray->Prop) (F:Nat->Gv) (n:Nat):Prop where
 n0:0<n
 n1:n<=3000
 top:(F (n-1)).a.k=1
 nd:∀j,j<n->ndk nm fl F j
 sz:∀j,j<n->szl F n j≠0
theorem snd_of{nm fl:ByteArray->Prop}{f:Int}(h:Fl nm fl F n 0 f):Snd nm fl F n:=by
 cases h with
 |sound h1 h2 h3 h4 h5 h6 h7=>exact⟨h1,h2,h3,h4,h5⟩
theorem Snd.kids{nm fl:ByteArray->Prop}(h:Snd nm fl F n):Kn F n:=λi hi j hj=>(h.nd i hi).2.2.2.2.1 j hj
def SZ(F:Nat->Gv)(n i:Nat):Nat:=(szl F n i).toNat
theorem Snd.sum{nm fl:ByteArray->Prop}(h:Snd nm fl F n){i:Nat}(hi:i<n):sN (λj=>SZ F n (kn F i j)) (F i).q+1=SZ F n i:=by
 have hK:=h.kids;have h0:=h.sz i hi;have e1:szl F n i=szl F (i+1) i:=szl_stay F (Nat.lt_succ_self i) n hi
 have e2:szl F (i+1) i=(match bk (szl F i) (F i).K (F i).q (i:Int)with|some at'=>(i:Int)-at'+1|none=>0):=by
  show(if i=i then _ else _)=_;rw[if_pos rfl];rfl
 have hin:=λk=>szl_in hK i (by omega) k;rw[e1,e2]at h0;unfold SZ;rw[e1,e2];cases e:bk (szl F i) (F i).K (F i).q (i:Int)with
 |none=>rw[e]at h0;exact absurd rfl h0
 |some r=>
  have hs:=bk_sum (λk=>(hin k).1) _ _ _ e
  have hc:sN (λj=>(szl F n (kn F i j)).toNat) (F i).q=sN (λj=>(szl F i ((F i).K j).toNat).toNat) (F i).q:=by
   refine sN_congr _ (λj hj=>?_);have hk:=hK i hi j hj;unfold kn;rw[szl_stay F (k:=((F i).K j).toNat) (i:=i) (by omega) n (by omega)]
  rw[hc];show _=((i:Int)-r+1).toNat;omega
theorem infix_two(j:Nat):(infixL.getD j []).length<=2:=by
 rcases Nat.lt_or_ge j 18 with h|h
 ·have:∀i:Fin 18,(infixL.getD i.val []).length<=2:=by decide
  exact this ⟨j,h⟩
 ·rw[List.getD_eq_getElem?_getD,List.getElem?_eq_none (by rw[infix_len];exact h)]
  simp
theorem sgf_len(a:Fv):(sgf a).length<=10:=by
 have:=infix_two (a.o.toNat-1);unfold sgf;split
 ·simp
 split
 ·simp
 ·simp only[List.length_cons,List.length_append,List.length_nil];omega
theorem par_len(x:List UInt8)(p l:Int):(par x p l).length<=x.length+2:=by
 unfold par;split
 ·simp
 ·omega
theorem bsk_len(x:List UInt8)(k:Int):(bsk k x).length<=x.length+2:=by
 unfold bsk;split
 ·omega
 ·simp
theorem upf_len(o:Int)(b:Fv):(upf o b).length<=4:=by
 unfold upf
 repeat' split
 all_goals simp
theorem byt_len(x:ByteArray):(byt x).length=x.size:=sz_len x
theorem tbs_len(t:Nat):(tbs t).length=t:=by simp[tbs]
end Go.Proofs.YtkhdehngobkkfaaGreatDoor.Fo
namespace Go.Proofs.YtkhdehngobkkfaaGreatDoor.Fo
open Go.ChangeShapes Go.WideShapes Go.ChangeAt Go.RowKit
set_option linter.unusedVariables false
set_option maxRecDepth 100000
variable {W w:World}{b j t B n p:Nat}{c:Array Value}{v fs vn:Value}{l:List UInt8}{ts:Nat->List UInt8}
theorem set_known{t:TypeId}(v:Value)(h:W.heap[b]? =some (.cells c t (0,0))):(W.setCell ⟨b,j,none⟩ v).heap[b]? =some (.cells (c.setIfInBounds j v) t (0,0)):=heap_setCell_same W b j c t v h
theorem own_sh{s:Nat}{l:List Value}(h:W.ownsRow B t s v n l):∃(ad:Option Addr) (cap:Nat),v=.slice ad n cap:=by
 rcases h.2 with⟨h1,e⟩|⟨g,cap,cur,rfl,_⟩
 ·exact⟨none,0,by rw[e];exact h1⟩
 ·exact⟨_,cap,rfl⟩
theorem own_kd{l:List Value}(h:W.ownsRow B t 1 v n l){g:Nat}(e:v.ownBlock=some g):∃c fz,W.heap[g]? =some (.cells c t fz):=by
 rcases h.2 with⟨q,_⟩|⟨g',cap,cur,q1,_,q3,_⟩
 ·rw[q]at e;cases e
 ·rw[q1]at e
  injection e with e
  subst e;exact⟨_,_,q3⟩
structure Ws (w:World) (b:Nat) (fs:Value) (t:Nat) (l:List UInt8) (W:World):Prop where
 hb:b=w.heap.size
 bo:Below b w W
 bx:∃v,W.heap[b]? =some (.cells #[fs,v,.int .i64 t] 40 (0,0))/\W.ownsRow (b+1) 5 1 v l.length (Lib.byteCells l)
theorem Ws.call{W':World}(h:Ws w b fs t l W)(hb:Below W.heap.size W W'):Ws w b fs t l W':=by
 obtain⟨v,h1,h2⟩:=h.bx;have hlt:=(Array.getElem?_eq_some_iff.1 h1).1;refine⟨h.hb,h.bo.trans (hb.mono (Nat.le_of_lt hlt)),v,(hb.block b hlt).trans h1,h2.1,?_⟩;rcases h2.2 with q|⟨g,cap,cur,q1,q2,q3,q4⟩
 ·exact .inl q
 ·exact .inr ⟨g,cap,cur,q1,q2,(hb.block g (h2.lt g (by rw[q1];rfl)).2).trans q3,q4⟩
def Cw(w:World)(b:Nat)(fs:Value)(t:Nat)(f:Nat)(args:Array Value)(T:List UInt8):Prop:=∀l W,Ws w b fs t l W->l.length+T.length<=1000000000000->Calls Tryz.prog f args W λe W'=>e=.returned (.tuple #[])/\Ws w b fs t (l++T) W'/\Lib.OthersKept 5 (some b) W W'
theorem sp_say(w:World)(b:Nat)(fs:Value)(t:Nat)(s:ByteArray):Cw w b fs t 12 #[.pointer (some ⟨b,0,none⟩),.string s] (byt s):=by
 intro l W h hlen;rw[byt_len]at hlen;obtain⟨v,h1,h2⟩:=h.bx;have c1:W.cell? ⟨b,1,none⟩=some v:=by unfold World.cell?;rw[h1];rfl
 obtain⟨i0,hi0,hz0,hz1,hz2⟩:=info_parts info5;have hlt:=(Array.getElem?_eq_some_iff.1 h1).1
 have HST:Hid (∀v' w4,w4.ownsRow (b+1) 5 1 v' (l.length+s.size) (Lib.byteCells l++Lib.strCells s)->W.grownBy w4 v.ownBlock->w4.cell? ⟨b,1,none⟩=some v/\w4.frozen? ⟨b,1,none⟩=false/\Ws w b fs t (l++byt s) (w4.setCell ⟨b,1,none⟩ v')/\Lib.OthersKept 5 (some b) W (w4.setCell ⟨b,1,none⟩ v')):=(λv' w4 ho hg=>by
  have hne:∀g,v.ownBlock=some g->b≠g:=λg e=>by have:=(h2.lt g e).1;omega
  have hb4:w4.heap[b]? =some (.cells #[fs,v,.int .i64 t] 40 (0,0)):=(hg.block b hlt (λe=>hne b e.symm rfl)).trans h1;refine⟨by unfold World.cell?;rw[hb4];rfl,by unfold World.frozen?;rw[hb4];rfl,⟨h.hb,?_,v',?_,?_⟩,Lib.OthersKept.setCell (Lib.OthersKept.grown (Lib.OthersKept.refl _ _ _) hg (λg e=>own_kd h2 e)) ⟨b,1,none⟩ rfl v'⟩
  ·refine Below.setCell (p:=⟨b,1,none⟩) ⟨hg.os.trans h.bo.os,hg.tape.trans h.bo.tape,hg.output.trans h.bo.output,Nat.le_trans h.bo.size hg.size,λk hk=>?_⟩ (Nat.le_refl _) _;have hk':k<b:=hk;exact(hg.block k (by have:=h.bo.size;have:=h.hb;omega) (λe=>by have:=(h2.lt k e.symm).1;omega)).trans (h.bo.block k hk')
  ·rw[set_known _ hb4];rfl
  ·have e:Lib.byteCells (l++byt s)=Lib.byteCells l++Lib.strCells s:=by rw[bc_append];rfl
   rw[List.length_append,byt_len,e];refine⟨ho.1,?_⟩;rcases ho.2 with q|⟨g,cap,cur,q1,q2,q3,q4⟩
   ·exact .inl q
   ·refine .inr ⟨g,cap,cur,q1,q2,?_,q4⟩;rw[Below.heap_setCell _ _ _ _ (show g≠b by omega)]
    exact q3:∀v' w4,_)
 have HI0:Hid (Tryz.prog.info? 5=some i0):=hi0;have hbw:b+1<=W.heap.size:=hlt;clear h h1 hi0 hlt;go_enter Tryz.func12,Tryz.ntmps12;go_wp2_with (at_builtin;refine Lib.wpList_append_own_string _ rfl (.tmp 8) (.tmp 9) 38 9 rfl (b+1) 5 i0 Tryz.underlying38 Tryz.underlying9 HI0 hz0 hz1 hz2 v _ _ rfl h2 s rfl (by unfold maxLen;omega) (by omega) hbw ?_;intro v' w4 hown4 hgrow4 _;obtain⟨pv,cv,rfl⟩:=own_sh hown4;obtain⟨q1,q2,q3⟩:=(uh HST) _ _ hown4 hgrow4;have HX:Hid (Ws w b fs t (l++byt s) (w4.setCell ⟨b,1,none⟩ (.slice pv (l.length+s.size) cv))/\Lib.OthersKept 5 (some b) W (w4.setCell ⟨b,1,none⟩ (.slice pv (l.length+s.size) cv))):=q3;clear hown4 hgrow4 HST h2 q3 c1);exact⟨rfl,.tuple #[],by simp[results,Tryz.results12],rfl,HX⟩
theorem cell_of{t:TypeId}(h:W.heap[b]? =some (.cells c t (0,0)))(hv:c[j]? =some v):W.cell? ⟨b,j,none⟩=some v:=by simp[World.cell?,h,hv]
theorem frozen_of{t:TypeId}(h:W.heap[b]? =some (.cells c t (0,0))):W.frozen? ⟨b,j,none⟩=false:=by simp[World.frozen?,h]
theorem Ws.tab(h:Ws w b fs t l W):W.cell? ⟨b,2,none⟩=some (.int .i64 t):=by
 obtain⟨v,h1,_⟩:=h.bx;exact cell_of h1 rfl
theorem Ws.frm(h:Ws w b fs t l W):W.cell? ⟨b,0,none⟩=some fs:=by
 obtain⟨v,h1,_⟩:=h.bx;exact cell_of h1 rfl
theorem Ws.bel(h:Ws w b fs t l W):Below w.heap.size w W:=by rw[<-h.hb];exact h.bo
theorem say_one(w:World)(b:Nat)(fs:Value)(t:Nat)(s:ByteArray)(m:List UInt8)(hm:byt s=m)(h:Ws w b fs t l W)(hl:l.length+m.length<=1000000000000):Calls Tryz.prog 12 #[.pointer (some ⟨b,0,none⟩),.string s] W λe W'=>e=.returned (.tuple #[])/\Ws w b fs t (l++m) W'/\Lib.OthersKept 5 (some b) W W':=by
 subst hm;exact sp_say w b fs t s l W h hl
theorem sw_line(w:World)(b:Nat)(fs:Value)(t:Nat):Cw w b fs t 39 #[.pointer (some ⟨b,0,none⟩)] (10::tbs t):=by
 intro l W h hlen;rw[List.length_cons,tbs_len]at hlen;have HC:=say_one w b fs t ⟨#[10]⟩ [10] rfl h (by show _+1<=_;omega);clear h;go_enter Tryz.func39,Tryz.ntmps39;go_wp2_with fail;refine HC.mono ?_;rintro e w1 ⟨rfl,h1,ho1⟩;have H1:Hid (Ws w b fs t (l++(10::tbs 0)) w1/\Lib.OthersKept 5 (some b) W w1):=(⟨h1,ho1⟩:_/\_)
 clear HC h1 ho1;go_wp2_with fail
 go_loopw [2] (λs2 wr=>∃i:Nat,s2=.int .i64 i/\i<=t/\Hid (Ws w b fs t (l++(10::tbs i)) wr/\Lib.OthersKept 5 (some b) W wr)) (λs2 _=>t-(intOf s2).toNat)
 case atStart=>exact⟨0,rfl,Nat.zero_le _,H1⟩
 case round=>
  clear H1;obtain⟨i,rfl,hit,HX⟩:=hrel;obtain⟨hX,hO⟩:=(uh HX)
  have c2:=hX.tab;by_cases hi:i<t
  ·have hiI:(i:Int)<(t:Int):=by omega
   have HC:=say_one w b fs t ⟨#[9]⟩ [9] rfl hX (by rw[List.length_append,List.length_cons,tbs_len];show _+1<=_;omega);have HO:Hid (Lib.OthersKept 5 (some b) W wr):=hO;clear hX HX hO;go_wp2_with fail;refine HC.mono ?_;rintro e w2 ⟨rfl,h2,ho2⟩
   have HN:Hid (Ws w b fs t (l++(10::tbs (i+1))) w2/\Lib.OthersKept 5 (some b) W w2):=by
    refine(⟨?_,(uh HO).trans ho2⟩:_/\_)
    have e:l++(10::tbs (i+1))=l++(10::tbs i)++[9]:=by
     show l++(10::List.replicate (i+1) 9)=_;rw[List.replicate_succ'];simp[tbs]
    rw[e];exact h2
   clear HC h2 c2 ho2 HO;go_wp2_with fail;go_roundw
   case rel=>exact⟨i+1,by go_num,by omega,HN⟩
   case measure=>simp[intOf];omega
  ·obtain rfl:i=t:=by omega
   clear hX hi hO;go_wp2_with fail;exact⟨rfl,.tuple #[],by simp[results,Tryz.results39],rfl,HX⟩
theorem cmj_mono(ts:Nat->List UInt8){i:Nat}(h:i<=p):(cmj ts i).length<=(cmj ts p).length:=by
 induction p with
 |zero=>
  obtain rfl:i=0:=by omega
  exact Nat.le_refl _
 |succ p ih=>
  by_cases e:i=p+1
  ·subst e;exact Nat.le_refl _
  ·have:=ih (by omega);show _<=(cmj ts p++(if p=0 then []else [44,32])++ts p).length;rw[List.length_append,List.length_append];omega
theorem sw_names(w:World)(b:Nat)(fs:Value)(t:Nat){A:Nat->ByteArray}(hr:RowV w vn p (λi=>.string (A i)))(hp:p<=1048576)(hts:ts=λj=>byt (A j)):Cw w b fs t 23 #[.pointer (some ⟨b,0,none⟩),vn] (cmj ts p):=by
 intro l W h hlen;obtain⟨pa,cap,rfl,hr2⟩:=id hr;have hpI:(p:Int)<=1048576:=by omega
 have H1:Hid (Ws w b fs t (l++cmj ts 0) W/\Lib.OthersKept 5 (some b) W W):=by
  refine(⟨?_,Lib.OthersKept.refl _ _ _⟩:_/\_);show Ws w b fs t (l++[]) W;rw[List.append_nil];exact h
 have HR:Hid (∀W l',Ws w b fs t l' W->∀i,i<p->∃a,pa=some a/\p<=cap/\W.cell? (a.add i)=some (.string (A i))):=(λW l' hW i hi=>by
  obtain⟨a,e1,e2,e3⟩:=hr2 (by omega)
  exact⟨a,e1,e2,(hW.bel.cell (lt_of_cell' (e3 i hi))).trans (e3 i hi)⟩:∀W l',_)
 have hcl:∀i,i<=p->(cmj ts i).length<=(cmj ts p).length:=λi hi=>cmj_mono ts hi;have HTS:∀i,Cw w b fs t 12 #[.pointer (some ⟨b,0,none⟩),.string (A i)] (ts i):=λi=>by rw[hts];exact sp_say w b fs t (A i)
 clear h hr hr2 hts;go_enter Tryz.func23,Tryz.ntmps23;go_wp2_with fail
 go_loopw [8] (λs8 wr=>∃i:Nat,s8=.int .i64 i/\i<=p/\Hid (Ws w b fs t (l++cmj ts i) wr/\Lib.OthersKept 5 (some b) W wr)) (λs8 _=>p-(intOf s8).toNat)
 case atStart=>exact⟨0,rfl,Nat.zero_le _,H1⟩
 case round=>
  clear H1;obtain⟨i,rfl,hip,HX⟩:=hrel;obtain⟨hX,hO⟩:=(uh HX)
  by_cases hi:i<p
  ·have hiI:(i:Int)<(p:Int):=by omega
   obtain⟨a,rfl,hcap,ca⟩:=(uh HR) wr _ hX i hi;have hl1:=hcl (i+1) (by omega);have HO:Hid (Lib.OthersKept 5 (some b) W wr):=hO
   have hl2:(cmj ts (i+1)).length=(cmj ts i).length+(if i=0 then([]:List UInt8)else [44,32]).length+(ts i).length:=by
    show(cmj ts i++(if i=0 then []else [44,32])++ts i).length=_;rw[List.length_append,List.length_append]
   have hcons:cmj ts (i+1)=cmj ts i++(if i=0 then []else [44,32])++ts i:=rfl;by_cases h0:i=0
   ·have HC:=(HTS i) (l++cmj ts i) wr hX (by rw[List.length_append];rw[if_pos h0]at hl2;simp only[List.length_nil]at hl2;omega)
    have HEQ:Hid (l++cmj ts i++ts i=l++cmj ts (i+1)):=by
     show _=_;rw[hcons,if_pos h0,List.append_nil,List.append_assoc]
    have g0:¬(0:Int)<(i:Int):=by omega
    clear hX HX hl1 hl2 hcl hcons h0 hO;go_wp2_with fail;refine HC.mono ?_;rintro e w2 ⟨rfl,h2,ho2⟩
    have HN:Hid (Ws w b fs t (l++cmj ts (i+1)) w2/\Lib.OthersKept 5 (some b) W w2):=by
     refine(⟨?_,(uh HO).trans ho2⟩:_/\_);rw[<-(uh HEQ)];exact h2
    clear HC h2 ca HEQ g0 ho2 HO;go_wp2_with fail;go_roundw
    case rel=>exact⟨i+1,by go_num,by omega,HN⟩
    case measure=>simp[intOf];omega
   ·have g0:(0:Int)<(i:Int):=by omega
    rw[if_neg h0]at hl2;simp only[List.length_cons,List.length_nil]at hl2;have HS:=say_one w b fs t ⟨#[44,32]⟩ [44,32] rfl hX (by rw[List.length_append];show _+2<=_;omega)
    have HEQ:Hid (l++cmj ts i++[44,32]++ts i=l++cmj ts (i+1)):=by
     show _=_;rw[hcons,if_neg h0];simp only[List.append_assoc]
    have HL:Hid ((l++cmj ts i++[44,32]).length+(ts i).length<=1000000000000):=by
     show _<=_;simp only[List.length_append,List.length_cons,List.length_nil];omega
    clear hX HX hl1 hl2 hcl hcons h0 hO;go_wp2_with fail;refine HS.mono ?_;rintro e w1 ⟨rfl,h1,ho1⟩;have HC:=(HTS i) _ w1 h1 HL;have HO1:Hid (Lib.OthersKept 5 (some b) W w1):=(uh HO).trans ho1;clear HS h1 ca ho1 HO;go_wp2_with fail;refine HC.mono ?_;rintro e w2 ⟨rfl,h2,ho2⟩
    have HN:Hid (Ws w b fs t (l++cmj ts (i+1)) w2/\Lib.OthersKept 5 (some b) W w2):=by
     refine(⟨?_,(uh HO1).trans ho2⟩:_/\_);rw[<-(uh HEQ)];exact h2
    clear HC h2 HEQ g0 HL ho2 HO1;go_wp2_with fail;go_roundw
    case rel=>exact⟨i+1,by go_num,by omega,HN⟩
    case measure=>simp[intOf];omega
  ·obtain rfl:i=p:=by omega
   clear hX hi hO;go_wp2_with fail;exact⟨rfl,.tuple #[],by simp[results,Tryz.results23],rfl,HX⟩
theorem sw_exprs(w:World)(b:Nat)(fs:Value)(t:Nat){K:Nat->Int}(hr:RowV w vn p (λi=>.int .i64 (K i)))(hp:p<=1048576)(HTS:Hid (∀i,i<p->Cw w b fs t 25 #[.pointer (some ⟨b,0,none⟩),.int .i64 (K i),.int .i64 0] (ts i))):Cw w b fs t 24 #[.pointer (some ⟨b,0,none⟩),vn] (cmj ts p):=by
 intro l W h hlen;obtain⟨pa,cap,rfl,hr2⟩:=id hr;have hpI:(p:Int)<=1048576:=by omega
 have H1:Hid (Ws w b fs t (l++cmj ts 0) W/\Lib.OthersKept 5 (some b) W W):=by
  refine(⟨?_,Lib.OthersKept.refl _ _ _⟩:_/\_);show Ws w b fs t (l++[]) W;rw[List.append_nil];exact h
 have HR:Hid (∀W l',Ws w b fs t l' W->∀i,i<p->∃a,pa=some a/\p<=cap/\W.cell? (a.add i)=some (.int .i64 (K i))):=(λW l' hW i hi=>by
  obtain⟨a,e1,e2,e3⟩:=hr2 (by omega)
  exact⟨a,e1,e2,(hW.bel.cell (lt_of_cell' (e3 i hi))).trans (e3 i hi)⟩:∀W l',_)
 have hcl:∀i,i<=p->(cmj ts i).length<=(cmj ts p).length:=λi hi=>cmj_mono ts hi;clear h hr hr2;go_enter Tryz.func24,Tryz.ntmps24;go_wp2_with fail
 go_loopw [8] (λs8 wr=>∃i:Nat,s8=.int .i64 i/\i<=p/\Hid (Ws w b fs t (l++cmj ts i) wr/\Lib.OthersKept 5 (some b) W wr)) (λs8 _=>p-(intOf s8).toNat)
 case atStart=>exact⟨0,rfl,Nat.zero_le _,H1⟩
 case round=>
  clear H1;obtain⟨i,rfl,hip,HX⟩:=hrel;obtain⟨hX,hO⟩:=(uh HX)
  by_cases hi:i<p
  ·have hiI:(i:Int)<(p:Int):=by omega
   obtain⟨a,rfl,hcap,ca⟩:=(uh HR) wr _ hX i hi;have hl1:=hcl (i+1) (by omega);have HO:Hid (Lib.OthersKept 5 (some b) W wr):=hO
   have hl2:(cmj ts (i+1)).length=(cmj ts i).length+(if i=0 then([]:List UInt8)else [44,32]).length+(ts i).length:=by
    show(cmj ts i++(if i=0 then []else [44,32])++ts i).length=_;rw[List.length_append,List.length_append]
   have hcons:cmj ts (i+1)=cmj ts i++(if i=0 then []else [44,32])++ts i:=rfl;by_cases h0:i=0
   ·have HC:=((uh HTS) i hi) (l++cmj ts i) wr hX (by rw[List.length_append];rw[if_pos h0]at hl2;simp only[List.length_nil]at hl2;omega)
    have HEQ:Hid (l++cmj ts i++ts i=l++cmj ts (i+1)):=by
     show _=_;rw[hcons,if_pos h0,List.append_nil,List.append_assoc]
    have g0:¬(0:Int)<(i:Int):=by omega
    clear hX HX hl1 hl2 hcl hcons h0 hO;go_wp2_with fail;refine HC.mono ?_;rintro e w2 ⟨rfl,h2,ho2⟩
    have HN:Hid (Ws w b fs t (l++cmj ts (i+1)) w2/\Lib.OthersKept 5 (some b) W w2):=by
     refine(⟨?_,(uh HO).trans ho2⟩:_/\_);rw[<-(uh HEQ)];exact h2
    clear HC h2 ca HEQ g0 ho2 HO;go_wp2_with fail;go_roundw
    case rel=>exact⟨i+1,by go_num,by omega,HN⟩
    case measure=>simp[intOf];omega
   ·have g0:(0:Int)<(i:Int):=by omega
    rw[if_neg h0]at hl2;simp only[List.length_cons,List.length_nil]at hl2;have HS:=say_one w b fs t ⟨#[44,32]⟩ [44,32] rfl hX (by rw[List.length_append];show _+2<=_;omega)
    have HEQ:Hid (l++cmj ts i++[44,32]++ts i=l++cmj ts (i+1)):=by
     show _=_;rw[hcons,if_neg h0];simp only[List.append_assoc]
    have HL:Hid ((l++cmj ts i++[44,32]).length+(ts i).length<=1000000000000):=by
     show _<=_;simp only[List.length_append,List.length_cons,List.length_nil];omega
    clear hX HX hl1 hl2 hcl hcons h0 hO;go_wp2_with fail;refine HS.mono ?_;rintro e w1 ⟨rfl,h1,ho1⟩;have HC:=((uh HTS) i hi) _ w1 h1 HL;have HO1:Hid (Lib.OthersKept 5 (some b) W w1):=(uh HO).trans ho1;clear HS h1 ca ho1 HO;go_wp2_with fail;refine HC.mono ?_;rintro e w2 ⟨rfl,h2,ho2⟩
    have HN:Hid (Ws w b fs t (l++cmj ts (i+1)) w2/\Lib.OthersKept 5 (some b) W w2):=by
     refine(⟨?_,(uh HO1).trans ho2⟩:_/\_);rw[<-(uh HEQ)];exact h2
    clear HC h2 HEQ g0 HL ho2 HO1;go_wp2_with fail;go_roundw
    case rel=>exact⟨i+1,by go_num,by omega,HN⟩
    case measure=>simp[intOf];omega
  ·obtain rfl:i=p:=by omega
   clear hX hi hO;go_wp2_with fail;exact⟨rfl,.tuple #[],by simp[results,Tryz.results24],rfl,HX⟩
