import Derived.Test.YtkhdehngobkkfaaGreatDoorASak
set_option maxRecDepth 100000
set_option maxHeartbeats 2000000
namespace Go.Proofs.YtkhdehngobkkfaaGreatDoor.Rd
open Go.ChangeShapes Go.WideShapes Go.ChangeAt Go.RowKit Go.Proofs.YtkhdehngobkkfaaGreatDoor
set_option linter.unusedVariables false
theorem Kept.trans{a b c:World}(h:Kept a b)(g:Kept b c):Kept a c:=World.keptBut_trans h g
theorem Kept.set{W w':World}(h:Kept W w'){a:Addr}(ha:W.heap.size<=a.block)(v:Value):Kept W (w'.setCell a v):=by
 obtain⟨h1,h2,h3⟩:=h;refine⟨h1,h2,λi hi=>?_⟩
 have e:(w'.setCell a v).heap[i]? =w'.heap[i]?:=by
  simp only[World.setCell,Array.getElem?_modify];rw[if_neg (by omega)]
 rw[e];exact h3 i hi
inductive Told22 (p:Int×Int):Ending->Prop
 |ok {z:Int} (h:p=(0,z)):Told22 p (.returned (.tuple #[.int .i64 z,.nilIface]))
 |err (h:p=(3,0)) (s:Int) (t:TypeId) (v:Value):Told22 p (.returned (.tuple #[.int .i64 s,.iface t v]))
theorem sc_start(T:ByteArray)(w:World):Sc w w.heap.size (w.heap.size+1) T ((0:Nat):Int) ((w.alloc (.cells #[.int .i64 0,.int .i64 0] 203)).alloc (.cells #[.string T,.int .i64 0] 180)):=by
 refine⟨Grown.alloc (Grown.alloc (Grown.refl w) _ _) _ _,by omega,by omega,by omega,by simp,by simp,by simp,by simp,?_,?_,?_⟩
 all_goals simp
theorem impl_read_empty(b:Nat)(hb:2<=b)(hb2:b<=36)(T:ByteArray)(hlen:T.size<=1200)(j k1:Nat)(X:ByteArray)
  (H19:∀{w0:World} {A B:Nat} (w:World),Sc w0 A B T ((0:Nat):Int) w->Calls Tryz.prog 171 #[.pointer (some ⟨B,0,none⟩)] w λe w'=>(∃z,e=.returned (.bool z))/\Sc w0 A B T (j:Int) w')
  (H20:∀{w0:World} {A B:Nat} (w:World),Sc w0 A B T (j:Int) w->Calls Tryz.prog 169 #[.pointer (some ⟨B,0,none⟩),.int .i64 b] w λe w'=>e=.returned (.string X)/\Sc w0 A B T (k1:Int) w') (hX:X=⟨#[]⟩) (w:World):
  Calls Tryz.prog 172 #[.string T,.int .i64 b] w λe w'=>e=.returned (whole (2,0))/\Kept w w':=by
 subst hX;have HB:=is_base (b:Int) true (by simp;omega);have hs:=sc_start T w;have h19:=H19 (w0:=w) (A:=w.heap.size) (B:=w.heap.size+1);have h20:=H20 (w0:=w) (A:=w.heap.size) (B:=w.heap.size+1);clear H19 H20;go_enter Tryz.func172,Tryz.ntmps172;go_wp2_with fail;refine(HB _).mono ?_;rintro e w' ⟨rfl,hw⟩;subst hw;clear HB;go_wp2_with fail;refine(h19 _ hs).mono ?_;rintro e w1 ⟨⟨z,rfl⟩,s1⟩;clear h19 hs;go_wp2_with fail;refine(h20 _ s1).mono ?_;rintro e w2 ⟨rfl,s2⟩;clear h20 s1;have a0:=s2.a0;have a1:=s2.a1;have f0:=s2.fA0;have f1:=s2.fA1;have hk:Kept w w2:=s2.gr.1;clear s2;have e0:∀v:Value,(w2.setCell ⟨w.heap.size,0,none⟩ v).cell? ⟨w.heap.size,0,none⟩=some v:=λv=>World.cell?_setCell_same _ _ _ a0;have e1:∀v u:Value,((w2.setCell ⟨w.heap.size,0,none⟩ v).setCell ⟨w.heap.size,1,none⟩ u).cell? ⟨w.heap.size,1,none⟩=some u:=λv u=>World.cell?_setCell_same _ _ _ (by rw[World.cell?_setCell_other _ _ _ _ (by simp)];exact a1);go_wp2_with fail;refine bodyPost_ret (by simp[results,Tryz.results172,go_sem,e0,e1];try rfl) rfl ?_;refine⟨rfl,Kept.set (Kept.set hk (Nat.le_refl _) _) (Nat.le_refl _) _⟩
theorem impl_read_bad(b:Nat)(hb:2<=b)(hb2:b<=36)(T:ByteArray)(hlen:T.size<=1200)(j k1:Nat)(X:ByteArray)
  (H19:∀{w0:World} {A B:Nat} (w:World),Sc w0 A B T ((0:Nat):Int) w->Calls Tryz.prog 171 #[.pointer (some ⟨B,0,none⟩)] w λe w'=>(∃z,e=.returned (.bool z))/\Sc w0 A B T (j:Int) w')
  (H20:∀{w0:World} {A B:Nat} (w:World),Sc w0 A B T (j:Int) w->Calls Tryz.prog 169 #[.pointer (some ⟨B,0,none⟩),.int .i64 b] w λe w'=>e=.returned (.string X)/\Sc w0 A B T (k1:Int) w') (hX:X.toList.isEmpty=false) (hk1:k1≠T.size) (w:World):
  Calls Tryz.prog 172 #[.string T,.int .i64 b] w λe w'=>e=.returned (whole (2,0))/\Kept w w':=by
 have HB:=is_base (b:Int) true (by simp;omega);have hs:=sc_start T w;have h19:=H19 (w0:=w) (A:=w.heap.size) (B:=w.heap.size+1);have h20:=H20 (w0:=w) (A:=w.heap.size) (B:=w.heap.size+1);clear H19 H20;go_enter Tryz.func172,Tryz.ntmps172;go_wp2_with fail;refine(HB _).mono ?_;rintro e w' ⟨rfl,hw⟩;subst hw;clear HB;go_wp2_with fail;refine(h19 _ hs).mono ?_;rintro e w1 ⟨⟨z,rfl⟩,s1⟩;clear h19 hs;go_wp2_with fail;refine(h20 _ s1).mono ?_;rintro e w2 ⟨rfl,s2⟩;clear h20 s1;have a0:=s2.a0;have a1:=s2.a1;have f0:=s2.fA0;have f1:=s2.fA1;have hk:Kept w w2:=s2.gr.1;have h21:=ended_run (w.heap.size+1) T (k1:Int) false (by simp;omega) w2 s2.b0 s2.b1;clear s2;go_wp2_with fail;refine h21.mono ?_;rintro e w3 ⟨rfl,m,hw3⟩;clear h21;replace a0:w3.cell? ⟨w.heap.size,0,none⟩=some (.int .i64 0):=by rw[hw3];exact a0
 replace a1:w3.cell? ⟨w.heap.size,1,none⟩=some (.int .i64 0):=by rw[hw3];exact a1
 replace f0:w3.frozen? ⟨w.heap.size,0,none⟩=false:=by rw[hw3];exact f0
 replace f1:w3.frozen? ⟨w.heap.size,1,none⟩=false:=by rw[hw3];exact f1
 replace hk:Kept w w3:=by rw[hw3];exact hk
 clear hw3;have e0:∀v:Value,(w3.setCell ⟨w.heap.size,0,none⟩ v).cell? ⟨w.heap.size,0,none⟩=some v:=λv=>World.cell?_setCell_same _ _ _ a0;have e1:∀v u:Value,((w3.setCell ⟨w.heap.size,0,none⟩ v).setCell ⟨w.heap.size,1,none⟩ u).cell? ⟨w.heap.size,1,none⟩=some u:=λv u=>World.cell?_setCell_same _ _ _ (by rw[World.cell?_setCell_other _ _ _ _ (by simp)];exact a1);go_wp2_with fail;refine bodyPost_ret (by simp[results,Tryz.results172,go_sem,e0,e1];try rfl) rfl ?_;refine⟨rfl,Kept.set (Kept.set hk (Nat.le_refl _) _) (Nat.le_refl _) _⟩
theorem impl_read_good(b:Nat)(hb:2<=b)(hb2:b<=36)(T:ByteArray)(hlen:T.size<=1200)(j k1:Nat)(X:ByteArray)
  (H19:∀{w0:World} {A B:Nat} (w:World),Sc w0 A B T ((0:Nat):Int) w->Calls Tryz.prog 171 #[.pointer (some ⟨B,0,none⟩)] w λe w'=>(∃z,e=.returned (.bool z))/\Sc w0 A B T (j:Int) w')
  (H20:∀{w0:World} {A B:Nat} (w:World),Sc w0 A B T (j:Int) w->Calls Tryz.prog 169 #[.pointer (some ⟨B,0,none⟩),.int .i64 b] w λe w'=>e=.returned (.string X)/\Sc w0 A B T (k1:Int) w') (hX:X.toList.isEmpty=false) (hk1:k1=T.size) (p:Int×Int) (ev:Value)
  (H22:∀W:World,W.cell? ⟨11,0,none⟩=some ev->Calls Tryz.prog 178 #[.string T,.int .i64 b,.int .i64 64] W λe w'=>Told22 p e/\Below W.heap.size W w')
  (w:World) (hv:w.cell? ⟨11,0,none⟩=some ev):
  Calls Tryz.prog 172 #[.string T,.int .i64 b] w λe w'=>e=.returned (whole p)/\Kept w w':=by
 have HB:=is_base (b:Int) true (by simp;omega);have hs:=sc_start T w;have h19:=H19 (w0:=w) (A:=w.heap.size) (B:=w.heap.size+1);have h20:=H20 (w0:=w) (A:=w.heap.size) (B:=w.heap.size+1);clear H19 H20;go_enter Tryz.func172,Tryz.ntmps172;go_wp2_with fail;refine(HB _).mono ?_;rintro e w' ⟨rfl,hw⟩;subst hw;clear HB;go_wp2_with fail;refine(h19 _ hs).mono ?_;rintro e w1 ⟨⟨z,rfl⟩,s1⟩;clear h19 hs;go_wp2_with fail;refine(h20 _ s1).mono ?_;rintro e w2 ⟨rfl,s2⟩;clear h20 s1;have a0:=s2.a0;have a1:=s2.a1;have f0:=s2.fA0;have f1:=s2.fA1;have hk:Kept w w2:=s2.gr.1;have h21:=ended_run (w.heap.size+1) T (k1:Int) true (by simp;omega) w2 s2.b0 s2.b1;clear s2 hk1;go_wp2_with fail;refine h21.mono ?_;rintro e w3 ⟨rfl,m,hw3⟩;clear h21;replace a0:w3.cell? ⟨w.heap.size,0,none⟩=some (.int .i64 0):=by rw[hw3];exact a0
 replace a1:w3.cell? ⟨w.heap.size,1,none⟩=some (.int .i64 0):=by rw[hw3];exact a1
 replace f0:w3.frozen? ⟨w.heap.size,0,none⟩=false:=by rw[hw3];exact f0
 replace f1:w3.frozen? ⟨w.heap.size,1,none⟩=false:=by rw[hw3];exact f1
 replace hk:Kept w w3:=by rw[hw3];exact hk
 clear hw3;have h22:=H22 w3 (by rw[World.keptBut.cell hk (lt_of_cell hv) (λf=>f)];exact hv);clear H22 hv;go_wp2_with fail;refine h22.mono ?_;rintro e w4 ⟨ht,hbel⟩;have hA:w.heap.size<w3.heap.size:=lt_of_cell a0;replace a0:w4.cell? ⟨w.heap.size,0,none⟩=some (.int .i64 0):=(hbel.cell hA).trans a0;replace a1:w4.cell? ⟨w.heap.size,1,none⟩=some (.int .i64 0):=(hbel.cell hA).trans a1;replace f0:w4.frozen? ⟨w.heap.size,0,none⟩=false:=by rw[<-f0];simp only[World.frozen?,hbel.block _ hA]
 replace f1:w4.frozen? ⟨w.heap.size,1,none⟩=false:=by rw[<-f1];simp only[World.frozen?,hbel.block _ hA]
 replace hk:Kept w w4:=Kept.trans hk (hbel.frame _);clear hbel h22 hA;cases ht with
 |ok h=>
  subst h;have e0:∀v:Value,(w4.setCell ⟨w.heap.size,0,none⟩ v).cell? ⟨w.heap.size,0,none⟩=some v:=λv=>World.cell?_setCell_same _ _ _ a0;have e1:∀v u:Value,((w4.setCell ⟨w.heap.size,0,none⟩ v).setCell ⟨w.heap.size,1,none⟩ u).cell? ⟨w.heap.size,1,none⟩=some u:=λv u=>World.cell?_setCell_same _ _ _ (by rw[World.cell?_setCell_other _ _ _ _ (by simp)];exact a1);go_wp2_with fail;refine bodyPost_ret (by simp[results,Tryz.results172,go_sem,e0,e1];try rfl) rfl ?_;refine⟨rfl,Kept.set (Kept.set hk (Nat.le_refl _) _) (Nat.le_refl _) _⟩
 |err h s t v=>
  subst h;have e0:∀v:Value,(w4.setCell ⟨w.heap.size,0,none⟩ v).cell? ⟨w.heap.size,0,none⟩=some v:=λv=>World.cell?_setCell_same _ _ _ a0;have e1:∀v u:Value,((w4.setCell ⟨w.heap.size,0,none⟩ v).setCell ⟨w.heap.size,1,none⟩ u).cell? ⟨w.heap.size,1,none⟩=some u:=λv u=>World.cell?_setCell_same _ _ _ (by rw[World.cell?_setCell_other _ _ _ _ (by simp)];exact a1);go_wp2_with fail;refine bodyPost_ret (by simp[results,Tryz.results172,go_sem,e0,e1];try rfl) rfl ?_;refine⟨rfl,Kept.set (Kept.set hk (Nat.le_refl _) _) (Nat.le_refl _) _⟩
theorem impl_read_none(b:Int)(T:ByteArray)(h:b<2\/36<b\/1200<(T.size:Int))(w:World):
  Calls Tryz.prog 172 #[.string T,.int .i64 b] w λe w'=>e=.returned (whole (1,0))/\Kept w w':=by
 by_cases hb:b<2\/36<b
 ·have HB:=is_base b false (by simp;omega);clear h hb;go_enter Tryz.func172,Tryz.ntmps172;go_wp2_with fail;refine(HB _).mono ?_;rintro e w' ⟨rfl,hw⟩;subst hw;clear HB;go_wp2_with fail;go_returns;exact⟨rfl,(show Grown w _ by go_grown).1⟩
 ·have HB:=is_base b true (by simp;omega);have h3:1200<(T.size:Int):=by omega
  clear h hb;go_enter Tryz.func172,Tryz.ntmps172;go_wp2_with fail;refine(HB _).mono ?_;rintro e w' ⟨rfl,hw⟩;subst hw;clear HB;go_wp2_with fail;go_returns;exact⟨rfl,(show Grown w _ by go_grown).1⟩
theorem range_err(fn s:ByteArray)(hC:∀w,Calls Tryz.prog 175 #[.string s] w λe w'=>e=.returned (.string s)/\Below w.heap.size w w')(te:TypeId)(pe:Value)(w:World)(hv:w.cell? ⟨11,0,none⟩=some (.iface te pe)):
    Calls Tryz.prog 186 #[.string fn,.string s] w λe w'=>(∃a,e=.returned (.pointer (some a)))/\Below w.heap.size w w':=by
  have hG:11<w.heap.size:=lt_of_cell hv;have hvd:w.drew.cell? ⟨11,0,none⟩=some (.iface te pe):=hv;go_enter Tryz.func186,Tryz.ntmps186;go_wp2
  go_region_with (
      go_at_call 175
      refine(hC _).mono ?_;rintro e w2 ⟨rfl,hbel⟩
      have hv2:w2.cell? ⟨11,0,none⟩=some (.iface te pe):=(hbel.cell (show 11<w.drew.heap.size from hG)).trans hvd)
  all_goals (
    go_wp2;go_ret;have hs2:w.heap.size<=w2.heap.size:=hbel.size
    exact⟨⟨_,rfl⟩,((Below.drew (Below.refl _ w)).trans hbel).alloc hs2 _⟩)
theorem eql12(W:World):(binOp .eql 87 (.iface 214 (.int .i64 1)) (.iface 214 (.int .i64 2))).run Tryz.prog W=.ok (.bool false) W:=
 Lib.run_eql_iface_int W 1 2 Tryz.underlying87 (by kernel_rfl) Tryz.underlying214
theorem eql11(W:World):(binOp .eql 87 (.iface 214 (.int .i64 1)) (.iface 214 (.int .i64 1))).run Tryz.prog W=.ok (.bool true) W:=
 Lib.run_eql_iface_int W 1 1 Tryz.underlying87 (by kernel_rfl) Tryz.underlying214
theorem to_err(fn s:ByteArray)(b c:Int)(hC:∀w,Calls Tryz.prog 175 #[.string s] w λe w'=>e=.returned (.string s)/\Below w.heap.size w w')(te:TypeId)(pe:Value)(w:World)(hv:w.cell? ⟨11,0,none⟩=some (.iface te pe)):
  Calls Tryz.prog 181 #[.string fn,.string s,.int .i64 b,.int .i64 c,.iface 214 (.int .i64 1)] w λe w'=>(∃t v,e=.returned (.iface t v))/\Below w.heap.size w w':=by
 have h35:=range_err fn s hC te pe w hv;have hq12:=eql12;have hq11:=eql11;clear hC hv;go_enter Tryz.func181,Tryz.ntmps181;go_wp2_with fail;refine h35.mono ?_;rintro e w2 ⟨⟨a,rfl⟩,hb⟩;clear h35;go_wp2_with fail;go_ret;exact⟨⟨_,_,rfl⟩,hb⟩
theorem parse22(b:Nat)(T:ByteArray)(p:Int×Int)(H27:∀w,Calls Tryz.prog 182 #[.string T,.int .i64 b,.int .i64 64] w λe w'=>Told27 p e/\Below w.heap.size w w')
  (hC:∀w,Calls Tryz.prog 175 #[.string T] w λe w'=>e=.returned (.string T)/\Below w.heap.size w w') (te:TypeId) (pe:Value) (w:World) (hv:w.cell? ⟨11,0,none⟩=some (.iface te pe)):
  Calls Tryz.prog 178 #[.string T,.int .i64 b,.int .i64 64] w λe w'=>Told22 p e/\Below w.heap.size w w':=by
 have h27:=H27 w;clear H27;go_enter Tryz.func178,Tryz.ntmps178;go_wp2_with fail;refine h27.mono ?_;rintro e w2 ⟨ht,hb⟩;clear h27;cases ht with
 |ok h=>
  clear hC hv;go_wp2_with fail;go_ret2;exact⟨Told22.ok h,hb⟩
 |err h s=>
  have h28:=λfn=>to_err fn T (b:Int) 64 hC te pe w2 ((hb.cell (show 11<w.heap.size from lt_of_cell hv)).trans hv);clear hC hv;go_wp2_with fail;refine(h28 _).mono ?_;rintro e w3 ⟨⟨t,v,rfl⟩,hb2⟩;clear h28;go_wp2_with fail;go_ret2;exact⟨Told22.err h _ _ _,hb.trans ⟨hb2.os,hb2.tape,hb2.output,hb2.size,λk hk=>hb2.block k (Nat.lt_of_lt_of_le hk hb.size)⟩⟩
end Go.Proofs.YtkhdehngobkkfaaGreatDoor.Rd
namespace Go.Proofs.YtkhdehngobkkfaaGreatDoor
open Go.ChangeShapes Go.WideShapes Go.ChangeAt Go.RowKit
set_option linter.unusedVariables false
variable {B j e:Nat}{T:ByteArray}{l v:Int}{st:Bool}{L:List UInt8}
def dgb(b:Nat)(c:UInt8):Bool:=decide (Rd.dw c<b)
theorem dgb_ten(c:UInt8):dgb 10 c=isD c:=by
 rw[Bool.eq_iff_iff];unfold dgb Rd.dw isD;rw[decide_eq_true_iff,Bool.and_eq_true,decide_eq_true_iff,decide_eq_true_iff];constructor
 ·intro h;split at h
  ·rename_i g;exact g
  ·split at h<;>omega
 ·rintro⟨h1,h2⟩;rw[if_pos ⟨h1,h2⟩];omega
theorem impl_digits(L:List UInt8)(hT:T.data.toList=L){k:Nat}(b:Nat)(hb:b<=36)(hlen:T.size<=65536)(hk:k<=L.length)(w:World)(h:Sb B T k l st w):
  Calls Tryz.prog 169 #[.pointer (some ⟨B,0,none⟩),.int .i64 b] w λe w'=>e=.returned (.string (T.extract k (en (dgb b) L k)))/\Mv B T (en (dgb b) L k:Nat) l st w w':=by
 have hs:T.size=L.length:=by rw[<-hT];simp
 have HX:IxAll T L:=λj c hj=>ix T L hT j c hj;have HID:Hid (∀(c:UInt8) (w:World),Calls Tryz.prog 177 #[.int .u8 c.toNat] w λe w'=>e=.returned (.int .i64 (Rd.dw c:Int))/\w'=w):=Rd.impl_dig;obtain⟨M,hM,hLM⟩:∃M:Int,M<=65536/\(L.length:Int)<=M:=⟨L.length,by omega,Int.le_refl _⟩
 have c1:=h.c1;have HS:Hid (Mv B T k l st w w):=Mv.refl h;have hbI:(b:Int)<=36:=by omega
 clear hT hlen h;go_enter Tryz.func169,Tryz.ntmps169;go_wp2_with fail;clear c1
 go_loopw [] (λwr=>∃j:Nat,k<=j/\j<=L.length/\Hid (Mv B T j l st w wr/\en (dgb b) L k=en (dgb b) L j)) (λwr=>L.length-atOf B wr)
 case atStart=>exact⟨k,Nat.le_refl _,hk,(⟨HS,rfl⟩:Mv B T k l st w w/\en (dgb b) L k=en (dgb b) L k)⟩
 case round=>
  clear HS;obtain⟨j,hkj,hj,HR⟩:=hrel;obtain⟨hK,hE⟩:=(uh HR)
  clear HR;have hat:=atOf_sb hK.2;have hjM:(j:Int)<=M:=by omega
  have b0:=hK.2.c0;have b1:=hK.2.c1;have f1:=hK.2.fz 1
  have hsl:∀W:World,(Instr.slice 9 (.string T) (some (.int .i64 k)) (some (.int .i64 j)) none).run Tryz.prog W=.ok (.string (T.extract k j)) W:=by
   intro W;rw[run_slice_string (P:=Tryz.prog) W 9 T .i64 .i64 (k:Int) (j:Int) Tryz.underlying9 (by omega) (by omega) (by omega)]
   simp
  rcases Nat.lt_or_ge j L.length with hjn|hjn
  ·have hx:=List.getElem?_eq_getElem hjn;have hix:=HX j _ hx;generalize L[j]=x at hx hix;have he:=ended_in B T j l st false (by simp;omega) wr hK.2;have hdig:=(uh HID) x;by_cases hgo:dgb b x=true
   ·have hd2:(Rd.dw x:Int)<(b:Int):=by unfold dgb at hgo;simp at hgo;omega
    have HN:Hid (∀q,Mv B T ((j+1:Nat):Int) l st w ((wr.drewN q).setCell ⟨B,1,none⟩ (.int .i64 ((j:Int)+1)))/\en (dgb b) L k=en (dgb b) L (j+1)):=
     (λq=>⟨⟨(hK.1.drewN q).setCell 1 _,(hK.2.drewN q).set1 _⟩,hE.trans (en_step hx hgo)⟩:∀q,Mv B T ((j+1:Nat):Int) l st w ((wr.drewN q).setCell ⟨B,1,none⟩ (.int .i64 ((j:Int)+1)))/\en (dgb b) L k=en (dgb b) L (j+1))
    clear hK hE HID HX hx hgo hsl;generalize (Rd.dw x:Int)=dd at*;generalize (x.toNat:Int)=xi at*;go_wp2_with fail
    go_quiet ((first|(go_at_call 144;exact he _)|(go_at_call 177;exact Calls.quiet_of_same (hdig _))))
    go_wp2_with fail;have hN:=(uh HN) nq;refine⟨⟨j+1,by omega,by omega,hN⟩,?_⟩;rw[atOf_sb hN.1.2,hat];omega
   ·have hd2:¬(Rd.dw x:Int)<(b:Int):=by unfold dgb at hgo;simp at hgo;omega
    have e:en (dgb b) L k=j:=hE.trans (en_stop hx (by simpa using hgo));have HE:Hid (en (dgb b) L k=j):=e;have HKA:Hid (∀q,Mv B T j l st w (wr.drewN q)):=(λq=>⟨hK.1.drewN q,hK.2⟩:∀q,Mv B T j l st w (wr.drewN q))
    clear hK hE HID HX hx hgo e;generalize (Rd.dw x:Int)=dd at*;generalize (x.toNat:Int)=xi at*;go_wp2_with fail
    go_quiet ((first|(go_at_call 144;exact he _)|(go_at_call 177;exact Calls.quiet_of_same (hdig _))))
    go_wp2_with fail;clear he hdig hix;obtain⟨W,hWe,hKW⟩:∃W,W=wr.drewN nq/\Mv B T j l st w W:=⟨_,rfl,(uh HKA) nq⟩
    rw[<-hWe];clear b0 b1 f1 hat hWe HKA;have b0:=hKW.2.c0;have b1:=hKW.2.c1;have HKW:Hid (Mv B T j l st w W):=hKW;clear hKW
    go_quiet (fail)
    go_wp2_with fail;go_ret;have hEE:=(uh HE)
    rw[hEE];exact⟨rfl,(uh HKW).1.drewN _,(uh HKW).2⟩
  ·have he:=ended_in B T j l st true (by simp;omega) wr hK.2;have e:en (dgb b) L k=j:=hE.trans (en_end hjn);have HE:Hid (en (dgb b) L k=j):=e;have HKA:Hid (∀q,Mv B T j l st w (wr.drewN q)):=(λq=>⟨hK.1.drewN q,hK.2⟩:∀q,Mv B T j l st w (wr.drewN q))
   clear hK hE HID HX e;go_wp2_with fail
   go_quiet ((first|(go_at_call 144;exact he _)))
   go_wp2_with fail;clear he;obtain⟨W,hWe,hKW⟩:∃W,W=wr.drewN nq/\Mv B T j l st w W:=⟨_,rfl,(uh HKA) nq⟩
   rw[<-hWe];clear b0 b1 f1 hat hWe HKA;have b0:=hKW.2.c0;have b1:=hKW.2.c1;have HKW:Hid (Mv B T j l st w W):=hKW;clear hKW
   go_quiet (fail)
   go_wp2_with fail;go_ret;have hEE:=(uh HE)
   rw[hEE];exact⟨rfl,(uh HKW).1.drewN _,(uh HKW).2⟩
def NoHex(L:List UInt8)(j:Nat):Prop:=L.length<=j\/∃x,L[j]? =some x/\16<=Rd.dw x
theorem nohex_or(L:List UInt8)(j:Nat):NoHex L j\/∃x,L[j]? =some x/\Rd.dw x<16:=by
 cases h:L[j]? with
 |none=>exact .inl (.inl (List.getElem?_eq_none_iff.1 h))
 |some x=>
  rcases Nat.lt_or_ge (Rd.dw x) 16 with g|g
  ·exact .inr ⟨x,rfl,g⟩
  ·exact .inl (.inr ⟨x,h,g⟩)
theorem hexbyte_a(L:List UInt8)(hT:T.data.toList=L)(hlen:T.size<=65536)(hj:j<=L.length)(hno:NoHex L j)(w:World)(h:Sb B T j l st w):
  Calls Tryz.prog 179 #[.pointer (some ⟨B,0,none⟩)] w λe w'=>e=.returned (.tuple #[.int .u8 0,.bool false])/\Mv B T j l st w w':=by
 have m0:=Mv.refl h;clear h;have hs:T.size=L.length:=by rw[<-hT];simp
 have HX:IxAll T L:=λj c hj=>ix T L hT j c hj;have HID:Hid (∀(c:UInt8) (w:World),Calls Tryz.prog 177 #[.int .u8 c.toNat] w λe w'=>e=.returned (.int .i64 (Rd.dw c:Int))/\w'=w):=Rd.impl_dig;obtain⟨M,hM,hLM⟩:∃M:Int,M<=65536/\(L.length:Int)<=M:=⟨L.length,by omega,Int.le_refl _⟩
 clear hT hlen;go_enter Tryz.func179,Tryz.ntmps179;go_wp2_with fail;refine wp_loop_rounds 1 ?_;rw[rounds_succ];rcases hno with hend|⟨y,hy,hyd⟩
 ·have he:=ended_in B T (j:Int) l st true (by simp;omega) w m0.2;have b0:=m0.2.c0;have b1:=m0.2.c1;have HF:Hid (∀q,Mv B T (j:Int) l st w (w.drewN q)):=(λq=>⟨m0.1.drewN q,m0.2⟩:∀q,Mv B T (j:Int) l st w (w.drewN q))
  clear HX HID m0;go_wp2_with fail
  go_quiet ((first|(go_at_call 144;exact he _)))
  go_wp2_with fail;go_ret2;exact⟨rfl,(uh HF) nq⟩
 ·have hlt:j<L.length:=(List.getElem?_eq_some_iff.1 hy).1;have he:=ended_in B T (j:Int) l st false (by simp;omega) w m0.2;have b0:=m0.2.c0;have b1:=m0.2.c1;have hix:=HX _ _ hy;have hdig:=(uh HID) y;have hyI:(16:Int)<=(Rd.dw y:Int):=by omega
  have HF:Hid (∀q,Mv B T (j:Int) l st w (w.drewN q)):=(λq=>⟨m0.1.drewN q,m0.2⟩:∀q,Mv B T (j:Int) l st w (w.drewN q))
  clear HX HID m0 hy hyd hlt;generalize (Rd.dw y:Int)=dd at*;generalize (y.toNat:Int)=yi at*;go_wp2_with fail
  go_quiet ((first|(go_at_call 144;exact he _)|(go_at_call 177;exact Calls.quiet_of_same (hdig _))))
  go_wp2_with fail;go_ret2;exact⟨rfl,(uh HF) nq⟩
theorem hexbyte_b(L:List UInt8)(hT:T.data.toList=L)(hlen:T.size<=65536)(hj:j<=L.length)(x:UInt8)(hx:L[j]? =some x)(hxd:Rd.dw x<16)(j1:Nat)(hj1:j1=j+1)(hno:NoHex L j1)(w:World)(h:Sb B T j l st w):
  Calls Tryz.prog 179 #[.pointer (some ⟨B,0,none⟩)] w λe w'=>e=.returned (.tuple #[.int .u8 0,.bool false])/\Mv B T (j1:Int) l st w w':=by
 have m0:=Mv.refl h;have HJ1:Hid (j1=j+1):=hj1;clear h hj1;have hs:T.size=L.length:=by rw[<-hT];simp
 have HX:IxAll T L:=λj c hj=>ix T L hT j c hj;have HID:Hid (∀(c:UInt8) (w:World),Calls Tryz.prog 177 #[.int .u8 c.toNat] w λe w'=>e=.returned (.int .i64 (Rd.dw c:Int))/\w'=w):=Rd.impl_dig;obtain⟨M,hM,hLM⟩:∃M:Int,M<=65536/\(L.length:Int)<=M:=⟨L.length,by omega,Int.le_refl _⟩
 clear hT hlen;go_enter Tryz.func179,Tryz.ntmps179;go_wp2_with fail;refine wp_loop_rounds 2 ?_;rw[rounds_succ];have hlt1:j<L.length:=(List.getElem?_eq_some_iff.1 hx).1;have he:=ended_in B T (j:Int) l st false (by simp;omega) w m0.2;have b0:=m0.2.c0;have b1:=m0.2.c1;have hix:=HX _ _ hx;have hdig:=(uh HID) x;have hxI:(Rd.dw x:Int)<16:=by omega
 have hx0:(0:Int)<=(Rd.dw x:Int):=by omega
 have hkM:(j:Int)<=M:=by omega
 have HXH:Hid (IxAll T L):=HX;have HC:Hid (Mv B T (j:Int) l st w w):=m0;clear HX m0;generalize hgd1:(Rd.dw x:Int)=d1 at*;generalize (x.toNat:Int)=xi1 at hix hdig;go_wp2_with fail
 go_quiet ((first|(go_at_call 144;exact he _)|(go_at_call 177;exact Calls.quiet_of_same (hdig _))))
 obtain⟨V1,hV1,m1⟩:∃V,V=w.drewN nq/\Mv B T (j:Int) l st w V:=⟨_,rfl,⟨HC.1.drewN nq,HC.2⟩⟩
 rw[<-hV1];clear b0 b1 he hV1 HC;have b0:=m1.2.c0;have b1:=m1.2.c1;have HC:Hid (Mv B T (j:Int) l st w V1):=m1;clear m1;go_wp2_with fail
 go_quiet ((first|(go_at_call 177;exact Calls.quiet_of_same (hdig _))))
 obtain⟨U1,hU1,m1⟩:∃V,V=V1.drewN nq/\Mv B T (j:Int) l st w V:=⟨_,rfl,⟨HC.1.drewN nq,HC.2⟩⟩
 rw[<-hU1];clear b0 b1 hU1 HC hdig hix;have b1:=m1.2.c1;have f1:=m1.2.fz 1;have n1:Mv B T ((j+1:Nat):Int) l st w (U1.setCell ⟨B,1,none⟩ (.int .i64 ((j:Int)+1))):=⟨m1.1.setCell 1 _,m1.2.set1 _⟩
 have HN1:Hid (Mv B T ((j+1:Nat):Int) l st w (U1.setCell ⟨B,1,none⟩ (.int .i64 ((j:Int)+1)))):=n1;clear m1 n1;go_wp2_with fail;rw[rounds_succ];obtain⟨Z,hZ,mz⟩:∃Z,Z=U1.setCell ⟨B,1,none⟩ (.int .i64 ((j:Int)+1))/\Mv B T ((j+1:Nat):Int) l st w Z:=⟨_,rfl,HN1⟩
 rw[<-hZ];clear HN1 hZ b1 f1;have HX:IxAll T L:=HXH;clear HXH;have hj1:=(uh HJ1)
 rw[<-hj1]at mz;have hj1L:j1<=L.length:=by omega
 clear hj1 HJ1;rcases hno with hend|⟨y,hy,hyd⟩
 ·have he:=ended_in B T (j1:Int) l st true (by simp;omega) Z mz.2;have b0:=mz.2.c0;have b1:=mz.2.c1;have HF:Hid (∀q,Mv B T (j1:Int) l st w (Z.drewN q)):=(λq=>⟨mz.1.drewN q,mz.2⟩:∀q,Mv B T (j1:Int) l st w (Z.drewN q))
  clear HX HID mz;go_wp2_with fail
  go_quiet ((first|(go_at_call 144;exact he _)))
  go_wp2_with fail;go_ret2;exact⟨rfl,(uh HF) nq⟩
 ·have hlt:j1<L.length:=(List.getElem?_eq_some_iff.1 hy).1;have he:=ended_in B T (j1:Int) l st false (by simp;omega) Z mz.2;have b0:=mz.2.c0;have b1:=mz.2.c1;have hix:=HX _ _ hy;have hdig:=(uh HID) y;have hyI:(16:Int)<=(Rd.dw y:Int):=by omega
  have HF:Hid (∀q,Mv B T (j1:Int) l st w (Z.drewN q)):=(λq=>⟨mz.1.drewN q,mz.2⟩:∀q,Mv B T (j1:Int) l st w (Z.drewN q))
  clear HX HID mz hy hyd hlt;generalize (Rd.dw y:Int)=dd at*;generalize (y.toNat:Int)=yi at*;go_wp2_with fail
  go_quiet ((first|(go_at_call 144;exact he _)|(go_at_call 177;exact Calls.quiet_of_same (hdig _))))
  go_wp2_with fail;go_ret2;exact⟨rfl,(uh HF) nq⟩
theorem hexbyte_c(L:List UInt8)(hT:T.data.toList=L)(hlen:T.size<=65536)(hj:j<=L.length)(x y:UInt8)(hx:L[j]? =some x)(hxd:Rd.dw x<16)(j1:Nat)(hj1:j1=j+1)(hy:L[j1]? =some y)(hyd:Rd.dw y<16)(w:World)(h:Sb B T j l st w):
  Calls Tryz.prog 179 #[.pointer (some ⟨B,0,none⟩)] w λe w'=>e=.returned (.tuple #[.int .u8 ((Rd.dw x:Int)*16+(Rd.dw y:Int)),.bool true])/\Mv B T ((j1+1:Nat):Int) l st w w':=by
 have m0:=Mv.refl h;have HJ1:Hid (j1=j+1):=hj1;clear h hj1;have hs:T.size=L.length:=by rw[<-hT];simp
 have HX:IxAll T L:=λj c hj=>ix T L hT j c hj;have HID:Hid (∀(c:UInt8) (w:World),Calls Tryz.prog 177 #[.int .u8 c.toNat] w λe w'=>e=.returned (.int .i64 (Rd.dw c:Int))/\w'=w):=Rd.impl_dig;obtain⟨M,hM,hLM⟩:∃M:Int,M<=65536/\(L.length:Int)<=M:=⟨L.length,by omega,Int.le_refl _⟩
 clear hT hlen;go_enter Tryz.func179,Tryz.ntmps179;go_wp2_with fail;refine wp_loop_rounds 3 ?_;rw[rounds_succ];have hlt1:j<L.length:=(List.getElem?_eq_some_iff.1 hx).1;have he:=ended_in B T (j:Int) l st false (by simp;omega) w m0.2;have b0:=m0.2.c0;have b1:=m0.2.c1;have hix:=HX _ _ hx;have hdig:=(uh HID) x;have hxI:(Rd.dw x:Int)<16:=by omega
 have hx0:(0:Int)<=(Rd.dw x:Int):=by omega
 have hkM:(j:Int)<=M:=by omega
 have HXH:Hid (IxAll T L):=HX;have HC:Hid (Mv B T (j:Int) l st w w):=m0;clear HX m0;generalize hgd1:(Rd.dw x:Int)=d1 at*;generalize (x.toNat:Int)=xi1 at hix hdig;go_wp2_with fail
 go_quiet ((first|(go_at_call 144;exact he _)|(go_at_call 177;exact Calls.quiet_of_same (hdig _))))
 obtain⟨V1,hV1,m1⟩:∃V,V=w.drewN nq/\Mv B T (j:Int) l st w V:=⟨_,rfl,⟨HC.1.drewN nq,HC.2⟩⟩
 rw[<-hV1];clear b0 b1 he hV1 HC;have b0:=m1.2.c0;have b1:=m1.2.c1;have HC:Hid (Mv B T (j:Int) l st w V1):=m1;clear m1;go_wp2_with fail
 go_quiet ((first|(go_at_call 177;exact Calls.quiet_of_same (hdig _))))
 obtain⟨U1,hU1,m1⟩:∃V,V=V1.drewN nq/\Mv B T (j:Int) l st w V:=⟨_,rfl,⟨HC.1.drewN nq,HC.2⟩⟩
 rw[<-hU1];clear b0 b1 hU1 HC hdig hix;have b1:=m1.2.c1;have f1:=m1.2.fz 1;have n1:Mv B T ((j+1:Nat):Int) l st w (U1.setCell ⟨B,1,none⟩ (.int .i64 ((j:Int)+1))):=⟨m1.1.setCell 1 _,m1.2.set1 _⟩
 have HN1:Hid (Mv B T ((j+1:Nat):Int) l st w (U1.setCell ⟨B,1,none⟩ (.int .i64 ((j:Int)+1)))):=n1;clear m1 n1;go_wp2_with fail;rw[rounds_succ];obtain⟨Z,hZ,mz⟩:∃Z,Z=U1.setCell ⟨B,1,none⟩ (.int .i64 ((j:Int)+1))/\Mv B T ((j+1:Nat):Int) l st w Z:=⟨_,rfl,HN1⟩
 rw[<-hZ];clear HN1 hZ b1 f1;have HX:IxAll T L:=HXH;clear HXH hxI hx0 hkM;have hd1a:d1<16:=by omega
 have hd1b:0<=d1:=by omega
 have hj1:=(uh HJ1)
 rw[<-hj1]at mz;clear hj1 HJ1;have hlt2:j1<L.length:=(List.getElem?_eq_some_iff.1 hy).1;have he:=ended_in B T (j1:Int) l st false (by simp;omega) Z mz.2;have b0:=mz.2.c0;have b1:=mz.2.c1;have hix:=HX _ _ hy;have hdig:=(uh HID) y;have hxI:(Rd.dw y:Int)<16:=by omega
 have hx0:(0:Int)<=(Rd.dw y:Int):=by omega
 have hkM:(j1:Int)<=M:=by omega
 have HXH:Hid (IxAll T L):=HX;have HC:Hid (Mv B T (j1:Int) l st w Z):=mz;clear HX mz;generalize hgd2:(Rd.dw y:Int)=d2 at*;generalize (y.toNat:Int)=xi2 at hix hdig;go_wp2_with fail
 go_quiet ((first|(go_at_call 144;exact he _)|(go_at_call 177;exact Calls.quiet_of_same (hdig _))))
 obtain⟨V2,hV2,m2⟩:∃V,V=Z.drewN nq/\Mv B T (j1:Int) l st w V:=⟨_,rfl,⟨HC.1.drewN nq,HC.2⟩⟩
 rw[<-hV2];clear b0 b1 he hV2 HC;have b0:=m2.2.c0;have b1:=m2.2.c1;have HC:Hid (Mv B T (j1:Int) l st w V2):=m2;clear m2;go_wp2_with fail
 go_quiet ((first|(go_at_call 177;exact Calls.quiet_of_same (hdig _))))
 obtain⟨U2,hU2,m2⟩:∃V,V=V2.drewN nq/\Mv B T (j1:Int) l st w V:=⟨_,rfl,⟨HC.1.drewN nq,HC.2⟩⟩
 rw[<-hU2];clear b0 b1 hU2 HC hdig hix;have b1:=m2.2.c1;have f1:=m2.2.fz 1;have n2:Mv B T ((j1+1:Nat):Int) l st w (U2.setCell ⟨B,1,none⟩ (.int .i64 ((j1:Int)+1))):=⟨m2.1.setCell 1 _,m2.2.set1 _⟩
 have HN2:Hid (Mv B T ((j1+1:Nat):Int) l st w (U2.setCell ⟨B,1,none⟩ (.int .i64 ((j1:Int)+1)))):=n2;clear m2 n2;go_wp2_with fail;rw[rounds_succ];go_wp2_with fail;go_ret2;exact⟨by rw[hgd1,hgd2];rfl,HN2⟩
inductive Elt (L:List UInt8) (j:Nat):Bool->Int->Nat->Prop
 |plain (x:UInt8) (h:L[j]? =some x) (hx:x≠92):Elt L j true (x.toNat:Int) (j+1)
 |simple (c:UInt8) (v:Int) (h:L[j]? =some 92) (hc:L[j+1]? =some c) (hv:(c=110/\v=10)\/(c=116/\v=9)\/(c=34/\v=34)\/(c=92/\v=92)):Elt L j true v (j+2)
 |hex (x y:UInt8) (h:L[j]? =some 92) (hc:L[j+1]? =some 120) (hx:L[j+2]? =some x) (hxd:Rd.dw x<16) (hy:L[j+3]? =some y) (hyd:Rd.dw y<16):Elt L j true ((Rd.dw x:Int)*16+(Rd.dw y:Int)) (j+4)
 |hexA (h:L[j]? =some 92) (hc:L[j+1]? =some 120) (hno:NoHex L (j+2)):Elt L j false 0 (j+2)
 |hexB (x:UInt8) (h:L[j]? =some 92) (hc:L[j+1]? =some 120) (hx:L[j+2]? =some x) (hxd:Rd.dw x<16) (hno:NoHex L (j+3)):Elt L j false 0 (j+3)
 |none (h:L[j]? =some 92) (hc:L[j+1]? ≠some 110/\L[j+1]? ≠some 116/\L[j+1]? ≠some 34/\L[j+1]? ≠some 92/\L[j+1]? ≠some 120):Elt L j false 0 (j+1)
theorem elt_any(L:List UInt8)(j:Nat)(hj:j<L.length):∃ok v e,Elt L j ok v e:=by
 have hx:=List.getElem?_eq_getElem hj;by_cases h92:L[j]=92
 ·rw[h92]at hx;by_cases h1:L[j+1]? =some 110
  ·exact⟨_,_,_,.simple 110 10 hx h1 (.inl ⟨rfl,rfl⟩)⟩
  ·by_cases h2:L[j+1]? =some 116
   ·exact⟨_,_,_,.simple 116 9 hx h2 (.inr (.inl ⟨rfl,rfl⟩))⟩
   ·by_cases h3:L[j+1]? =some 34
    ·exact⟨_,_,_,.simple 34 34 hx h3 (.inr (.inr (.inl ⟨rfl,rfl⟩)))⟩
    ·by_cases h4:L[j+1]? =some 92
     ·exact⟨_,_,_,.simple 92 92 hx h4 (.inr (.inr (.inr ⟨rfl,rfl⟩)))⟩
     ·by_cases h5:L[j+1]? =some 120
      ·rcases nohex_or L (j+2)with hn|⟨x,hx1,hx2⟩
       ·exact⟨_,_,_,.hexA hx h5 hn⟩
       ·rcases nohex_or L (j+3)with hn|⟨y,hy1,hy2⟩
        ·exact⟨_,_,_,.hexB x hx h5 hx1 hx2 hn⟩
        ·exact⟨_,_,_,.hex x y hx h5 hx1 hx2 hy1 hy2⟩
      ·exact⟨_,_,_,.none hx ⟨h1,h2,h3,h4,h5⟩⟩
 ·exact⟨_,_,_,.plain _ hx h92⟩
theorem Elt.gt{ok:Bool}(h:Elt L j ok v e):j<e:=by cases h<;>omega
theorem Elt.le{ok:Bool}(h:Elt L j ok v e):e<=L.length:=by
 have lt:∀{i:Nat} {x:UInt8},L[i]? =some x->i<L.length:=λhx=>(List.getElem?_eq_some_iff.1 hx).1;cases h with
 |plain x h hx=>have:=lt h;omega
 |simple c v h hc hv=>have:=lt hc;omega
 |hex x y h hc hx hxd hy hyd=>have:=lt hy;omega
 |hexA h hc hno=>have:=lt hc;omega
 |hexB x h hc hx hxd hno=>have:=lt hx;omega
 |none h hc=>have:=lt h;omega
