import Derived.Test.YtkhdehngobkkfaaGreatDoorAQua
import Derived.Shelf.Strings.Builder1
import Derived.Deep.RegionHeldLaw
set_option maxRecDepth 100000
set_option maxHeartbeats 1000000
namespace Go.Proofs.YtkhdehngobkkfaaGreatDoor
open Go.Shelf
def renB:Go.Shelf.Ren:=⟨fun|166=>54|167=>134|169=>17|240=>87|276=>105|n=>n,fun|0=>0|3=>3|4=>4|5=>5|9=>9|20=>20|37=>38|70=>49|72=>51|75=>87|80=>56|127=>69|164=>140|n=>n,fun|n=>n⟩
theorem lays166:Go.Proofs.Lays.n166 Tryz.prog renB:={
 mixed:=by kernel_rfl
 f166:=Tryz.func54.trans (congrArg some (by kernel_rfl))
 f240:=Tryz.func87.trans (congrArg some (by kernel_rfl))
 f276:=Tryz.func105.trans (congrArg some (by kernel_rfl))
 t0:=Tryz.underlying0
 a0:=Tryz.isAgg0
 z0:=Tryz.sizeOf0
 v0:=Tryz.zeroValue0
 t3:=Tryz.underlying3
 a3:=Tryz.isAgg3
 z3:=Tryz.sizeOf3
 v3:=Tryz.zeroValue3
 t4:=Tryz.underlying4
 a4:=Tryz.isAgg4
 z4:=Tryz.sizeOf4
 v4:=Tryz.zeroValue4
 t9:=Tryz.underlying9
 a9:=Tryz.isAgg9
 z9:=Tryz.sizeOf9
 v9:=Tryz.zeroValue9
 t20:=Tryz.underlying20
 a20:=Tryz.isAgg20
 z20:=Tryz.sizeOf20
 v20:=Tryz.zeroValue20
 t37:=Tryz.underlying38
 a37:=Tryz.isAgg38
 z37:=Tryz.sizeOf38
 v37:=Tryz.zeroValue38
 t70:=Tryz.underlying49
 a70:=Tryz.isAgg49
 z70:=Tryz.sizeOf49
 v70:=Tryz.zeroValue49
 t72:=Tryz.underlying51
 a72:=Tryz.isAgg51
 z72:=Tryz.sizeOf51
 v72:=Tryz.zeroValue51
 t75:=Tryz.underlying87
 a75:=Tryz.isAgg87
 z75:=Tryz.sizeOf87
 v75:=Tryz.zeroValue87
 t164:=Tryz.underlying140
 a164:=Tryz.isAgg140
 z164:=Tryz.sizeOf140
 v164:=Tryz.zeroValue140}
theorem lays167:Go.Proofs.Lays.n167 Tryz.prog renB:={
 mixed:=by kernel_rfl
 f167:=Tryz.func134.trans (congrArg some (by kernel_rfl))
 f240:=Tryz.func87.trans (congrArg some (by kernel_rfl))
 f276:=Tryz.func105.trans (congrArg some (by kernel_rfl))
 t0:=Tryz.underlying0
 a0:=Tryz.isAgg0
 z0:=Tryz.sizeOf0
 v0:=Tryz.zeroValue0
 t4:=Tryz.underlying4
 a4:=Tryz.isAgg4
 z4:=Tryz.sizeOf4
 v4:=Tryz.zeroValue4
 t5:=Tryz.underlying5
 a5:=Tryz.isAgg5
 z5:=Tryz.sizeOf5
 v5:=Tryz.zeroValue5
 t9:=Tryz.underlying9
 a9:=Tryz.isAgg9
 z9:=Tryz.sizeOf9
 v9:=Tryz.zeroValue9
 t20:=Tryz.underlying20
 a20:=Tryz.isAgg20
 z20:=Tryz.sizeOf20
 v20:=Tryz.zeroValue20
 t37:=Tryz.underlying38
 a37:=Tryz.isAgg38
 z37:=Tryz.sizeOf38
 v37:=Tryz.zeroValue38
 t70:=Tryz.underlying49
 a70:=Tryz.isAgg49
 z70:=Tryz.sizeOf49
 v70:=Tryz.zeroValue49
 t72:=Tryz.underlying51
 a72:=Tryz.isAgg51
 z72:=Tryz.sizeOf51
 v72:=Tryz.zeroValue51
 t75:=Tryz.underlying87
 a75:=Tryz.isAgg87
 z75:=Tryz.sizeOf87
 v75:=Tryz.zeroValue87
 t164:=Tryz.underlying140
 a164:=Tryz.isAgg140
 z164:=Tryz.sizeOf140
 v164:=Tryz.zeroValue140}
theorem lays169:Go.Proofs.Lays.n169 Tryz.prog renB:={
 mixed:=by kernel_rfl
 f169:=Tryz.func17.trans (congrArg some (by kernel_rfl))
 t0:=Tryz.underlying0
 a0:=Tryz.isAgg0
 z0:=Tryz.sizeOf0
 v0:=Tryz.zeroValue0
 t3:=Tryz.underlying3
 a3:=Tryz.isAgg3
 z3:=Tryz.sizeOf3
 v3:=Tryz.zeroValue3
 t9:=Tryz.underlying9
 a9:=Tryz.isAgg9
 z9:=Tryz.sizeOf9
 v9:=Tryz.zeroValue9
 t37:=Tryz.underlying38
 a37:=Tryz.isAgg38
 z37:=Tryz.sizeOf38
 v37:=Tryz.zeroValue38
 t70:=Tryz.underlying49
 a70:=Tryz.isAgg49
 z70:=Tryz.sizeOf49
 v70:=Tryz.zeroValue49
 t72:=Tryz.underlying51
 a72:=Tryz.isAgg51
 z72:=Tryz.sizeOf51
 v72:=Tryz.zeroValue51
 t127:=Tryz.underlying69
 a127:=Tryz.isAgg69
 z127:=Tryz.sizeOf69
 v127:=Tryz.zeroValue69}
theorem extraB:Builder.Extra Tryz.prog renB:={
 sizeBuilder:=by kernel_rfl
 liesBuilder:=by kernel_rfl
 t5:=Tryz.underlying5
 a5:=Tryz.isAgg5
 z5:=Tryz.sizeOf5
 v5:=Tryz.zeroValue5
 infoByte:=by kernel_rfl
 cellsByte:=by kernel_rfl
 sizeByte:=by kernel_rfl
 neB5:=by decide}
open Go.RowKit in
theorem bldByte(B b:Nat)(bs:List Value)(c:Int)(w:World)(h:Lib.IsBuilder 51 5 B b bs w)(hlen:bs.length+1<=140737488355328)(hBw:B<=w.heap.size):
  Calls Tryz.prog 134 #[.pointer (some ⟨b,0,none⟩),.int .u8 c] w λe w'=>e=.returned .nilIface/\(Lib.BuilderAt 51 5 B b (.pointer (some ⟨b,0,none⟩)) (bs++[.int .u8 c]) w'/\Below B w w'):=Any.Builder_WriteByte lays167 extraB B b bs c w h hlen hBw
open Go.RowKit in
theorem bldString(B b:Nat)(bs:List Value)(s:ByteArray)(w:World)(h:Lib.IsBuilder 51 5 B b bs w)(hlen:bs.length+s.size<=140737488355328)(hBw:B<=w.heap.size):
  Calls Tryz.prog 54 #[.pointer (some ⟨b,0,none⟩),.string s] w λe w'=>e=.returned (.tuple #[.int .i64 s.size,.nilIface])/\(Lib.BuilderAt 51 5 B b (.pointer (some ⟨b,0,none⟩)) (bs++Lib.strCells s) w'/\Below B w w'):=Any.Builder_WriteString lays166 extraB B b bs s w h hlen hBw
open Go.RowKit in
theorem bldText(B b:Nat)(l:List UInt8)(w:World)(h:Lib.IsBuilder 51 5 B b (Lib.byteCells l) w)(hBw:B<=w.heap.size):
  Calls Tryz.prog 17 #[.pointer (some ⟨b,0,none⟩)] w λe w'=>e=.returned (.string ⟨l.toArray⟩)/\Below B w w':=Any.Builder_String_any lays169 extraB B b l w h hBw
end Go.Proofs.YtkhdehngobkkfaaGreatDoor
namespace Go.Proofs.YtkhdehngobkkfaaGreatDoor
open Go.ChangeShapes Go.WideShapes Go.ChangeAt Go.RowKit
set_option linter.unusedVariables false
theorem conv_lit(W:World)(l:List UInt8)(cs:Array Value)(hc:cs.toList=Lib.byteCells l)(n c:Nat)(hn:n=l.length)(hl:l≠ []):
  (convert 38 9 (.slice (some ⟨W.heap.size,0,none⟩) n c)).run Tryz.prog (W.alloc (.cells cs 5))=.ok (.string ⟨l.toArray⟩) (W.alloc (.cells cs 5)):=by
 subst hn;refine run_convert_bytes_back _ 38 9 5 _ c l Tryz.underlying38 Tryz.underlying5 Tryz.underlying9 (λj hj=>?_);exact qr_cells W cs 5 (Lib.byteCells l) hc j _ (by simp[Lib.byteCells,hj])
theorem impl_el(x:UInt8)(w:World):
  Calls Tryz.prog 135 #[.int .u8 x.toNat] w λe w'=>e=.returned (.string ⟨(qel x).toArray⟩)/\Below w.heap.size w w':=by
 have hxl:=x.toNat_lt;by_cases hc:x.toNat=10
 ·have hq:qel x=[92,110]:=by unfold qel;rw[if_pos hc]
  have hxi:(x.toNat:Int)=10:=by omega
  rw[hq,hxi];clear hq hxi hxl hc;go_enter Tryz.func135,Tryz.ntmps135;go_wp2;go_ret;exact⟨rfl,Below.refl _ _⟩
 have n10:=hc;clear hc;by_cases hc:x.toNat=9
 ·have hq:qel x=[92,116]:=by unfold qel;rw[if_neg n10,if_pos hc]
  have hxi:(x.toNat:Int)=9:=by omega
  rw[hq,hxi];clear hq hxi hxl hc n10;go_enter Tryz.func135,Tryz.ntmps135;go_wp2;go_ret;exact⟨rfl,Below.refl _ _⟩
 have n9:=hc;clear hc;by_cases hc:x.toNat=34
 ·have hq:qel x=[92,34]:=by unfold qel;rw[if_neg n10,if_neg n9,if_pos hc]
  have hxi:(x.toNat:Int)=34:=by omega
  rw[hq,hxi];clear hq hxi hxl hc n10 n9;go_enter Tryz.func135,Tryz.ntmps135;go_wp2;go_ret;exact⟨rfl,Below.refl _ _⟩
 have n34:=hc;clear hc;by_cases hc:x.toNat=92
 ·have hq:qel x=[92,92]:=by unfold qel;rw[if_neg n10,if_neg n9,if_neg n34,if_pos hc]
  have hxi:(x.toNat:Int)=92:=by omega
  rw[hq,hxi];clear hq hxi hxl hc n10 n9 n34;go_enter Tryz.func135,Tryz.ntmps135;go_wp2;go_ret;exact⟨rfl,Below.refl _ _⟩
 have n92:=hc;clear hc;have i1:((x.toNat:Int)==10)=false:=by simp;omega
 have i2:((x.toNat:Int)==9)=false:=by simp;omega
 have i3:((x.toNat:Int)==34)=false:=by simp;omega
 have i4:((x.toNat:Int)==92)=false:=by simp;omega
 by_cases hc:x.toNat<32\/126<x.toNat
 ·have hq:qel x=[92,120,hx (x.toNat / 16),hx (x.toNat%16)]:=by unfold qel;rw[if_neg n10,if_neg n9,if_neg n34,if_neg n92,if_pos hc]
  rw[hq];have hi1:=ixh (x.toNat / 16) (by omega);have hi2:=ixh (x.toNat%16) (by omega);have hcv:=λW:World=>conv_lit W [92,120,hx (x.toNat / 16),hx (x.toNat%16)] #[.int .u8 92,.int .u8 120,.int .u8 ((hx (x.toNat / 16)).toNat:Int),.int .u8 ((hx (x.toNat%16)).toNat:Int)] rfl 4 4 rfl (by simp);have hcc:(x.toNat:Int)<32\/(¬(x.toNat:Int)<32/\126<(x.toNat:Int)):=by omega
  rw[show((x.toNat / 16:Nat):Int)=(x.toNat:Int) / 16 by omega]at hi1;rw[show((x.toNat%16:Nat):Int)=(x.toNat:Int)%16 by omega]at hi2;generalize hd1:((hx (x.toNat / 16)).toNat:Int)=d1 at hi1 hcv;generalize hd2:((hx (x.toNat%16)).toNat:Int)=d2 at hi2 hcv;generalize hR:(ByteArray.mk [92,120,hx (x.toNat / 16),hx (x.toNat%16)].toArray)=R at hcv⊢;generalize hd0:(x.toNat:Int)=xi at hi1 hi2 i1 i2 i3 i4 hcc⊢;have hx0:0<=xi:=by omega
  have hx1:xi<256:=by omega
  have hbt:bits BinOp.and IntKind.u8 xi 15=xi%16:=by go_bits;trivial
  generalize xi%16=r2 at hbt hi2;have hcvd:∀W:World,(convert 38 9 (.slice (some ⟨W.heap.size,0,none⟩) 4 4)).run Tryz.prog (W.alloc (.cells #[.int .u8 92,.int .u8 120,.int .u8 d1,.int .u8 d2] 5)).drew=.ok (.string R) (W.alloc (.cells #[.int .u8 92,.int .u8 120,.int .u8 d1,.int .u8 d2] 5)).drew:=λW=>hcv W.drew;clear n10 n9 n34 n92 hc hd1 hd2 hR hd0 hxl hq;rcases hcc with hcc|⟨i5,hcc⟩
  all_goals
   go_enter Tryz.func135,Tryz.ntmps135;go_wp2_with fail
   go_region_held_law (λ_=>True) (trivial) (fail)
   all_goals
    go_wp2;go_ret;exact⟨rfl,((Below.refl _ w).alloc (Nat.le_refl _) _).drew⟩
 ·have hq:qel x=[x]:=by unfold qel;rw[if_neg n10,if_neg n9,if_neg n34,if_neg n92,if_neg hc]
  rw[hq];have hcv:=conv_lit w [x] #[.int .u8 x.toNat] rfl 1 1 rfl (by simp);have i5:¬(x.toNat:Int)<32:=by omega
  have i6:¬126<(x.toNat:Int):=by omega
  generalize hR:(ByteArray.mk [x].toArray)=R at hcv⊢;generalize hd0:(x.toNat:Int)=xi at i1 i2 i3 i4 i5 i6 hcv⊢;clear n10 n9 n34 n92 hc hR hd0 hxl hq;go_enter Tryz.func135,Tryz.ntmps135;go_wp2;go_ret;exact⟨rfl,(Below.refl _ w).alloc (Nat.le_refl _) _⟩
theorem bld_below{T e:TypeId}{B b:Nat}{p:Value}{bs:List Value}{w w':World}(h:Lib.BuilderAt T e B b p bs w)(hb:Below w.heap.size w w'):Lib.BuilderAt T e B b p bs w':=by
  obtain⟨h1,v,h2,h3,h4⟩:=h
  have hlt:b<w.heap.size:=by
    rcases Nat.lt_or_ge b w.heap.size with h'|h'
    · exact h'
    · rw[Array.getElem?_eq_none h']at h2;cases h2
  refine⟨h1,v,(hb.block b hlt).trans h2,?_,h4⟩;refine⟨h3.1,?_⟩;rcases h3.2 with h|⟨g,cap,cur,e1,e2,e3,e4⟩
  · exact .inl h
  · have hg : g < w.heap.size := by
      rcases Nat.lt_or_ge g w.heap.size with h'|h'
      · exact h'
      · rw[Array.getElem?_eq_none h']at e3;cases e3
    exact .inr ⟨g,cap,cur,e1,e2,(hb.block g hg).trans e3,e4⟩
theorem sc_bytes(l:List UInt8):Lib.strCells ⟨l.toArray⟩=Lib.byteCells l:=by simp[Lib.strCells,Lib.byteCells]
theorem impl_quote(T:ByteArray)(L:List UInt8)(hT:T.data.toList=L)(hlen:L.length<=4000)(w:World):
  Calls Tryz.prog 129 #[.string T] w λe w'=>e=.returned (.string ⟨(quo L L.length++[34]).toArray⟩)/\Below w.heap.size w w':=by
 have hsz:T.size=L.length:=by rw[<-hT];simp
 have HX:=λk c hk=>ix T L hT k c hk;have h0:=Lib.fresh_isBuilder 51 5 w;have hb0:Below w.heap.size w (w.alloc (.cells #[.pointer none,.slice none 0 0] 51)):=(Below.refl _ w).alloc (Nat.le_refl _) _;have c0:=bldByte w.heap.size w.heap.size [] 34 _ h0 (by simp) (by simp);clear h0;have hn1:¬(4000:Int)<(T.size:Int):=by omega
 go_enter Tryz.func129,Tryz.ntmps129;go_wp2_with fail;refine c0.mono ?_;rintro e w1 ⟨rfl,hB1,hb1⟩;clear c0;have HS:Hid (Lib.BuilderAt 51 5 w.heap.size w.heap.size (.pointer (some ⟨w.heap.size,0,none⟩)) (Lib.byteCells (quo L 0)) w1/\Below w.heap.size w w1):=(⟨by rw[quo_zero];exact hB1,hb0.trans hb1⟩:_/\_)
 clear hB1 hb1 hb0;go_wp2_with fail
 go_loopw [11] (λi wr=>∃k:Nat,k<=L.length/\i=.int .i64 k/\Hid (Lib.BuilderAt 51 5 w.heap.size w.heap.size (.pointer (some ⟨w.heap.size,0,none⟩)) (Lib.byteCells (quo L k)) wr/\Below w.heap.size w wr)) (λi _=>L.length-(intOf i).toNat)
 case atStart=>exact⟨0,by omega,rfl,HS⟩
 case round=>
  clear HS;obtain⟨k,hk,rfl,HS⟩:=hrel;obtain⟨hB,hb⟩:=(uh HS)
  have hql:=quo_len L k;clear HS;by_cases hkn:k<L.length
  ·have hxx:L[k]? =some L[k]:=List.getElem?_eq_getElem hkn;have hgx:=HX k L[k] hxx;have hqs:=quo_succ L k L[k] hxx;generalize L[k]=x at hgx hqs;have hel:=impl_el x wr
   have hcs:∀w',Below wr.heap.size wr w'->Calls Tryz.prog 54 #[.pointer (some ⟨w.heap.size,0,none⟩),.string ⟨(qel x).toArray⟩] w' λe w''=>e=.returned (.tuple #[.int .i64 ((⟨(qel x).toArray⟩:ByteArray).size:Int),.nilIface])/\Hid (Lib.BuilderAt 51 5 w.heap.size w.heap.size (.pointer (some ⟨w.heap.size,0,none⟩)) (Lib.byteCells (quo L (k+1))) w''/\Below w.heap.size w w''):=by
    intro w' hw';refine(bldString w.heap.size w.heap.size _ ⟨(qel x).toArray⟩ w' (Or.inr (bld_below hB hw')) ?_ ?_).mono ?_
    ·rw[bc_len];have:=qel_len x;have e:(⟨(qel x).toArray⟩:ByteArray).size=(qel x).length:=by simp[ByteArray.size]
     omega
    ·have h1:=hb.size;have h2:=hw'.size;omega
    ·rintro e w'' ⟨rfl,h1,h2⟩;refine⟨rfl,(⟨?_,(hb.trans (hw'.mono hb.size)).trans h2⟩:_/\_)⟩;rw[hqs,bc_append];rw[sc_bytes]at h1;exact h1
   clear HX hT hxx hqs hB hb hql;have hkk:(k:Int)<4000:=by omega
   generalize (x.toNat:Int)=xi at*;generalize (ByteArray.mk (qel x).toArray)=E at*;go_wp2_with fail;refine hel.mono ?_;rintro e w2 ⟨rfl,hb2⟩;have hcs2:=hcs w2 hb2;clear hel hcs hb2;go_wp2_with fail;refine hcs2.mono ?_;rintro e w3 ⟨rfl,HS⟩;clear hcs2;go_wp2_with fail;go_roundw
   case rel=>exact⟨k+1,by omega,by go_num,HS⟩
   case measure=>simp[intOf];omega
  ·obtain rfl:k=L.length:=by omega
   have hcs:=bldByte w.heap.size w.heap.size _ 34 wr (Or.inr hB) (by rw[bc_len];omega) hb.size
   have hfin:∀w1,Lib.BuilderAt 51 5 w.heap.size w.heap.size (.pointer (some ⟨w.heap.size,0,none⟩)) (Lib.byteCells (quo L L.length)++[.int .u8 34]) w1->Below w.heap.size wr w1->Calls Tryz.prog 17 #[.pointer (some ⟨w.heap.size,0,none⟩)] w1 λe w'=>e=.returned (.string ⟨(quo L L.length++[34]).toArray⟩)/\Below w.heap.size w w':=by
    intro w1 h1 h2;refine(bldText w.heap.size w.heap.size (quo L L.length++[34]) w1 (Or.inr (by rw[bc_append];exact h1)) (hb.trans h2).size).mono ?_;rintro e w' ⟨rfl,h3⟩;exact⟨rfl,(hb.trans h2).trans h3⟩
   clear HX hT hql hB hb;go_wp2_with fail;refine hcs.mono ?_;rintro e w1 ⟨rfl,h1,h2⟩;have hf:=hfin w1 h1 h2;clear hfin hcs h1 h2;go_wp2_with fail;refine hf.mono ?_;rintro e w2 ⟨rfl,h3⟩;clear hf;go_wp2_with fail;go_ret;exact⟨rfl,h3⟩
