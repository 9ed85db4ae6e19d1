import Derived.Test.YtkhdehngobkkfaaGreatDoorATfu
import Derived.Test.YtkhdehngobkkfaaGreatDoorATkd
import Derived.Shelf.Strings.Repeat
set_option maxHeartbeats 16000000
namespace Go.Proofs.YtkhdehngobkkfaaGreatDoor
open Go.ChangeShapes Go.WideShapes Go.ChangeAt Go.RowKit
set_option linter.unusedVariables false
set_option maxRecDepth 100000
theorem is_base(b:Int)(h2:2<=b)(h3:b<=36)(w:World):Calls Tryz.prog 136 #[.int .i64 b] w λe w'=>e=.returned (.bool true)/\w'=w:=by
 have h4:decide (b<=36)=true:=by simpa using h3
 go_enter Tryz.func136,Tryz.ntmps136;go_wp2_with fail;go_ret;exact⟨rfl,rfl⟩
theorem im_wint(n:Int)(h0:-9223372036854775808<=n)(h1:n<=9223372036854775807)(w:World)(hp:Pw w):
  Calls Tryz.prog 131 #[.int .i64 n,.int .i64 10] w λe w'=>e=.returned (.string (itx n))/\Below w.heap.size w w':=by
 have hf:=impl_fmt n h0 h1 w hp;have hb:=is_base 10 (by decide) (by decide) w;clear hp h0 h1;generalize itx n=T at*;go_enter Tryz.func131,Tryz.ntmps131;go_wp2_with fail;refine hb.mono ?_;rintro e w1 ⟨rfl,rfl⟩;clear hb;go_wp2_with fail;refine hf.mono ?_;rintro e w2 ⟨rfl,hg⟩;clear hf;go_wp2_with fail;go_ret;exact⟨rfl,hg⟩
theorem im_fmtu0(n:Int)(hn:0<=n)(hn2:n<=18446744073709551615)(w:World)(ht:Fm.Tab w):
  Calls Tryz.prog 140 #[.int .u64 n,.int .i64 16] w λe w'=>e=.returned (.string ⟨(Fm.wrt 16 n.toNat).toArray⟩)/\Grown w w':=by
 have hf:=Fm.fmt_pow n 16 (by decide) (by decide) (by decide) 4 (by decide) (by decide) (λw h=>Fm.tz16 w h) (by decide+kernel) hn hn2 w ht;clear ht hn hn2;generalize (⟨(Fm.wrt 16 n.toNat).toArray⟩:ByteArray)=T at*;go_enter Tryz.func140,Tryz.ntmps140;go_wp2_with fail;refine hf.mono ?_;rintro e w1 ⟨rfl,hg⟩;clear hf;go_wp2_with fail;go_ret;exact⟨rfl,hg⟩
theorem im_fmtu(n:Int)(hn:0<=n)(hn2:n<=18446744073709551615)(w:World)(ht:Fm.Tab w):
  Calls Tryz.prog 137 #[.int .u64 n,.int .i64 16] w λe w'=>e=.returned (.string ⟨(Fm.wrt 16 n.toNat).toArray⟩)/\Grown w w':=by
 have hf:=im_fmtu0 n hn hn2 w ht;clear ht hn hn2;generalize (⟨(Fm.wrt 16 n.toNat).toArray⟩:ByteArray)=T at*;go_enter Tryz.func137,Tryz.ntmps137;go_wp2_with fail;refine hf.mono ?_;rintro e w1 ⟨rfl,hg⟩;clear hf;go_wp2_with fail;go_ret;exact⟨rfl,hg⟩
theorem im_wbits(n:Int)(h0:-9223372036854775808<=n)(h1:n<0)(w:World)(ht:Fm.Tab w):
  Calls Tryz.prog 130 #[.int .i64 n,.int .i64 16] w λe w'=>e=.returned (.string ⟨(Fm.wr 16 (n+18446744073709551616).toNat).toArray⟩)/\Grown w w':=by
 have hf:=im_fmtu (n+18446744073709551616) (by omega) (by omega) w ht;have e1:Fm.wrt 16 (n+18446744073709551616).toNat=Fm.wr 16 (n+18446744073709551616).toNat:=by unfold Fm.wrt;rw[if_neg (by omega)]
 rw[e1]at hf;have e2:IntKind.u64.wrap n=n+18446744073709551616:=by simp only[IntKind.wrap,IntKind.signed,IntKind.bits];simp;omega
 rw[<-e2]at hf;have hb:=is_base 16 (by decide) (by decide) w;rw[<-e2];clear ht h0 h1 e1 e2;generalize (⟨(Fm.wr 16 (IntKind.u64.wrap n).toNat).toArray⟩:ByteArray)=T at*;go_enter Tryz.func130,Tryz.ntmps130;go_wp2_with fail;refine hb.mono ?_;rintro e w1 ⟨rfl,rfl⟩;clear hb;go_wp2_with fail;refine hf.mono ?_;rintro e w2 ⟨rfl,hg⟩;clear hf;go_wp2_with fail;go_ret;exact⟨rfl,hg⟩
end Go.Proofs.YtkhdehngobkkfaaGreatDoor
namespace Go.Proofs.YtkhdehngobkkfaaGreatDoor.Fo
open Go.ChangeShapes Go.WideShapes Go.ChangeAt Go.RowKit
set_option linter.unusedVariables false
set_option maxRecDepth 100000
variable {f:FuncId}{args:Array Value}{w W W':World}{b t p ck:Nat}{fs:Value}{ad pk:Option Addr}{l m X:List UInt8}
theorem one_end{R R':Value->World->Prop}
  (h:Calls Tryz.prog f args w fun|.returned v,w'=>R v w'|_,_=>False) (h':Calls Tryz.prog f args w fun|.returned v,w'=>R' v w'|_,_=>False) (hi:Tryz.prog.inits.idxOf? f=none):
  ∃v w',R v w'/\R' v w':=by
 obtain⟨n,v,w1,e1,r1⟩:=h.done hi;obtain⟨m,v',w2,e2,r2⟩:=h'.done hi;have a:=runN_ended e1 m;have b:=runN_ended e2 n;rw[Nat.add_comm,a]at b
 injection b with ho hw
 injection ho with hv
 subst hv hw;exact⟨_,_,r1,r2⟩
theorem one_bol{a b:Bool}{R R':World->Prop}
  (h:Calls Tryz.prog f args w λe w'=>e=.returned (.bool a)/\R w') (h':Calls Tryz.prog f args w λe w'=>e=.returned (.bool b)/\R' w') (hi:Tryz.prog.inits.idxOf? f=none):a=b:=by
 obtain⟨v,w',h1,h2⟩:=one_end (R:=λv _=>v=.bool a) (R':=λv _=>v=.bool b) (h.mono λe w' ⟨he,_⟩=>by subst he;rfl) (h'.mono λe w' ⟨he,_⟩=>by subst he;rfl) hi;rw[h1]at h2
 injection h2
theorem nm_tx(x:ByteArray)(hx:nmp x)(f t l nn:Int)(w:World)(hg:Gd w):
  Calls Tryz.prog 121 #[.agg #[.int .i64 1,.int .i64 f,.int .i64 t,.int .i64 l,.int .i64 nn,.string x]] w λe w'=>e=.returned (.string x)/\Rd.Kept w w':=by
 obtain⟨R,⟨z,h1,hR,_⟩,h2⟩:=txt_name x
 have hz:z=true:=by
  have h3:=nm_s x w;rw[dc_t hx]at h3;exact one_bol (h1 w) h3 (by kernel_rfl)
 rw[hz,if_pos rfl]at hR;rw[hR]at h2;exact im_tt1 1 (.inl rfl) f t l nn x x (λw hg=>h2 f t l nn w hg) w hg
theorem fl_tx(x:ByteArray)(hx:flp x)(f t l nn:Int)(w:World)(hg:Gd w):
  Calls Tryz.prog 121 #[.agg #[.int .i64 3,.int .i64 f,.int .i64 t,.int .i64 l,.int .i64 nn,.string x]] w λe w'=>e=.returned (.string x)/\Rd.Kept w w':=by
 obtain⟨R,⟨z,h1,hR,_⟩,h2⟩:=txt_flt x
 have hz:z=true:=by
  have h3:=fl_s x w;rw[dc_t hx]at h3;exact one_bol (h1 w) h3 (by kernel_rfl)
 rw[hz,if_pos rfl]at hR;rw[hR]at h2;exact im_tt1 3 (.inr rfl) f t l nn x x (λw hg=>h2 f t l nn w hg) w hg
theorem st_tx(x:ByteArray)(f t l nn:Int)(w:World):
  Calls Tryz.prog 121 #[.agg #[.int .i64 4,.int .i64 f,.int .i64 t,.int .i64 l,.int .i64 nn,.string x]] w λe w'=>e=.returned (.string (qt x))/\Rd.Kept w w':=
 im_tt4 f t l nn x (qt x) (λw=>impl_qt x w) w
theorem below_kept{a b:World}(h:Below a.heap.size a b):Rd.Kept a b:=h.frame _
theorem in_tx(m:Int)(h0:-9223372036854775808<=m)(h1:m<=9223372036854775807)(x:ByteArray)(f t l:Int)(w:World)(hp:∀o,Pw (w.alloc o))(ht:∀o,Fm.Tab (w.alloc o)):
  Calls Tryz.prog 121 #[.agg #[.int .i64 2,.int .i64 f,.int .i64 t,.int .i64 l,.int .i64 m,.string x]] w λe w'=>e=.returned (.string (inx m))/\Rd.Kept w w':=by
 by_cases h:m<0
 ·have e:inx m=⟨#[48,120]⟩++⟨(Fm.wr 16 (m+18446744073709551616).toNat).toArray⟩:=by unfold inx;rw[if_pos h]
  rw[e]
  have hL:=wr_len_pow 16 (by decide) 16 (m+18446744073709551616).toNat (by
   have e:(16:Nat)^ 16=18446744073709551616:=by decide
   rw[e];omega)
  have hf:=λo=>im_wbits m h0 h (w.alloc o) (ht o)
  have hsz:¬9223372036854775807<2+(⟨(Fm.wr 16 (m+18446744073709551616).toNat).toArray⟩:ByteArray).size:=by
   show ¬9223372036854775807<2+(Fm.wr 16 (m+18446744073709551616).toNat).toArray.size
   simp;omega
  generalize (⟨(Fm.wr 16 (m+18446744073709551616).toNat).toArray⟩:ByteArray)=T at*;clear e hL hp ht h0 h1;go_enter Tryz.func121,Tryz.ntmps121;go_wp2_with fail;refine(hf _).mono ?_;rintro e w1 ⟨rfl,hg⟩;have HK:Hid (Rd.Kept w w1):=kept_via hg.1;clear hf hg;go_wp2_with fail;go_ret;exact⟨rfl,HK⟩
 ·have e:inx m=itx m:=by unfold inx;rw[if_neg h]
  rw[e];have hf:=λo=>im_wint m h0 h1 (w.alloc o) (hp o);generalize itx m=T at*;clear e hp ht h0 h1;go_enter Tryz.func121,Tryz.ntmps121;go_wp2_with fail;refine(hf _).mono ?_;rintro e w1 ⟨rfl,hg⟩;have HK:Hid (Rd.Kept w w1):=kept_via (below_kept hg);clear hf hg;go_wp2_with fail;go_ret;exact⟨rfl,HK⟩
theorem sp_tx(k:Int)(hk:10<=k)(x:ByteArray)(f t l m:Int)(w:World)(hg:Gd w):
  Calls Tryz.prog 121 #[.agg #[.int .i64 k,.int .i64 f,.int .i64 t,.int .i64 l,.int .i64 m,.string x]] w λe w'=>e=.returned (.string (spl k))/\Rd.Kept w w':=by
 have hs:=λo=>impl_spell k (w.alloc o) (hg.kb hg.size (Kb.new _ w o));have n1:(k==1)=false:=by rw[beq_eq_false_iff_ne];omega
 have n2:(k==2)=false:=by rw[beq_eq_false_iff_ne];omega
 have n3:(k==3)=false:=by rw[beq_eq_false_iff_ne];omega
 have n4:(k==4)=false:=by rw[beq_eq_false_iff_ne];omega
 have HK:Hid (∀o,Rd.Kept w (w.alloc o)):=(λo=>below_kept (bel1 w o):∀o,Rd.Kept w (w.alloc o))
 generalize spl k=R at*;clear hk hg;go_enter Tryz.func121,Tryz.ntmps121;go_wp2_with fail;refine(hs _).mono ?_;rintro e w1 ⟨rfl,hw1⟩;rw[hw1];clear hs hw1;go_wp2_with fail;go_ret;exact⟨rfl,(uh HK) _⟩
structure Wa (w:World) (b:Nat) (fs:Value) (t:Nat) (ad:Option Addr) (m:List UInt8) (W:World):Prop where
 hb:b=w.heap.size
 bo:Kz w W
 bx:∃v,W.heap[b]? =some (.cells #[fs,.int .i64 t,.pointer ad,v] 53 (0,0))/\W.ownsRow (b+1) 5 1 v m.length (Lib.byteCells m)
def Wb(w:World)(b:Nat)(fs:Value)(t:Nat)(m:List UInt8)(W:World):Prop:=Wa w b fs t none m W\/Wa w b fs t (some ⟨b,2,none⟩) m W
theorem Wa.call(h:Wa w b fs t ad l W)(hb:Kz W W'):Wa w b fs t ad l W':=by
 obtain⟨v,h1,h2⟩:=h.bx;have hlt:=(Array.getElem?_eq_some_iff.1 h1).1;refine⟨h.hb,h.bo.trans hb,v,(hb.block b hlt).trans h1,h2.1,?_⟩;rcases h2.2 with q|⟨g,cap,cur,q1,q2,q3,q4⟩
 ·exact .inl q
 ·exact .inr ⟨g,cap,cur,q1,q2,(hb.block g (h2.lt g (by rw[q1];rfl)).2).trans q3,q4⟩
theorem bd_len(h:Wa w b fs t ad m W):
  Calls Tryz.prog 16 #[.pointer (some ⟨b,2,none⟩)] W λe w'=>e=.returned (.int .i64 m.length)/\w'=W:=by
 obtain⟨v,h1,h2⟩:=h.bx;obtain⟨p,c,rfl⟩:=own_sh h2;have c1:W.cell? ⟨b,3,none⟩=some (.slice p m.length c):=by unfold World.cell?;rw[h1];rfl
 clear h h1 h2;go_enter Tryz.func16,Tryz.ntmps16;go_wp2_with fail;go_ret;exact⟨rfl,rfl⟩
theorem bd_used(h:Wa w b fs t (some ⟨b,2,none⟩) m W):
  Calls Tryz.prog 87 #[.pointer (some ⟨b,2,none⟩)] W λe w'=>e=.returned (.tuple #[])/\w'=W:=by
 obtain⟨v,h1,h2⟩:=h.bx;have c1:W.cell? ⟨b,2,none⟩=some (.pointer (some ⟨b,2,none⟩)):=by unfold World.cell?;rw[h1];rfl
 obtain⟨j,hj,_⟩:∃j,Tryz.prog.info? 51=some j/\j.size=2:=Option.map_eq_some_iff.1 (by kernel_rfl);clear h h1 h2;go_enter Tryz.func87,Tryz.ntmps87;go_wp2;rw[Lib.run_neq_ptr_same W ⟨b,2,none⟩ Tryz.underlying49 hj];go_wp2
 go_end0
 exact⟨rfl,rfl⟩
theorem lies_b:liesAt Tryz.prog Tryz.prog.depth 53 (4 / Tryz.prog.cellsOf 53) 2 51 1=true:=by kernel_rfl
theorem bd_fresh(h:Wa w b fs t none m W):
  Calls Tryz.prog 87 #[.pointer (some ⟨b,2,none⟩)] W λe w'=>e=.returned (.tuple #[])/\w'=W.setCell ⟨b,2,none⟩ (.pointer (some ⟨b,2,none⟩)):=by
 obtain⟨v,h1,h2⟩:=h.bx;have c1:W.cell? ⟨b,2,none⟩=some (.pointer none):=by unfold World.cell?;rw[h1];rfl
 have f1:W.frozen? ⟨b,2,none⟩=false:=by unfold World.frozen?;rw[h1];rfl
 have hsh:W.shape? b=some (53,4):=by unfold World.shape?;rw[h1];rfl
 obtain⟨j,hj,hjs⟩:∃j,Tryz.prog.info? 51=some j/\j.size=2:=Option.map_eq_some_iff.1 (by kernel_rfl);clear h h1 h2;go_enter Tryz.func87,Tryz.ntmps87;go_wp2;rw[Lib.run_to_unsafe W ⟨b,2,none⟩ Tryz.underlying49 Tryz.underlying140 hj (by rw[hjs];decide) hsh (show 2<4 by decide)];simp only[Result.andThen];rw[Oper.upon_value];go_wp2;rw[run_callFunc_extern Tryz.func105 (by kernel_rfl) (by kernel_rfl) (by kernel_rfl) (e:=Extern.AbiNoEscape.same) (by kernel_rfl)];rw[Lib.run_noEscape];simp only[Result.andThen];rw[Oper.upon_value];go_wp2;rw[Lib.run_from_unsafe W ⟨b,2,none⟩ Tryz.underlying140 Tryz.underlying49 hj hsh lies_b];simp only[Result.andThen];rw[Oper.upon_value];go_wp2
 go_end0
 exact⟨rfl,rfl⟩
theorem Wa.use(h:Wa w b fs t none m W):Wa w b fs t (some ⟨b,2,none⟩) m (W.setCell ⟨b,2,none⟩ (.pointer (some ⟨b,2,none⟩))):=by
 obtain⟨v,h1,h2⟩:=h.bx;refine⟨h.hb,h.bo.setNew ⟨b,2,none⟩ (Nat.le_of_eq h.hb.symm) _,v,?_,h2.1,?_⟩
 ·rw[set_known _ h1];rfl
 ·rcases h2.2 with q|⟨g,cap,cur,q1,q2,q3,q4⟩
  ·exact .inl q
  ·refine .inr ⟨g,cap,cur,q1,q2,?_,q4⟩;rw[Below.heap_setCell _ _ _ _ (show g≠b by omega)];exact q3
theorem bd_check(h:Wb w b fs t m W):
  Calls Tryz.prog 87 #[.pointer (some ⟨b,2,none⟩)] W λe w'=>e=.returned (.tuple #[])/\Wa w b fs t (some ⟨b,2,none⟩) m w'/\Lib.OthersKept 5 (some b) W w':=by
 rcases h with h|h
 ·refine(bd_fresh h).mono ?_;rintro e w' ⟨rfl,rfl⟩;exact⟨rfl,h.use,(Lib.OthersKept.refl _ _ _).setCell ⟨b,2,none⟩ rfl _⟩
 ·refine(bd_used h).mono ?_;rintro e w' ⟨rfl,rfl⟩;exact⟨rfl,h,Lib.OthersKept.refl _ _ _⟩
theorem bd_write{W0:World}(s:ByteArray)(h0:Wb w b fs t l W0)(hlen:l.length+s.size<=1000000000000):
  Calls Tryz.prog 54 #[.pointer (some ⟨b,2,none⟩),.string s] W0 λe w'=>e=.returned (.tuple #[.int .i64 s.size,.nilIface])/\Wb w b fs t (l++byt s) w'/\Lib.OthersKept 5 (some b) W0 w':=by
 have hck:=bd_check h0;clear h0;go_enter Tryz.func54,Tryz.ntmps54;go_wp2_with fail;refine hck.mono ?_;rintro e W ⟨rfl,h,hk0⟩;have HK0:Hid (Lib.OthersKept 5 (some b) W0 W):=hk0;clear hck hk0;obtain⟨v,h1,h2⟩:=h.bx;have c1:W.cell? ⟨b,3,none⟩=some v:=by unfold World.cell?;rw[h1];rfl
 obtain⟨i0,hi0,hz0,hz1,hz2⟩:=info_parts info5;have hlt:=(Array.getElem?_eq_some_iff.1 h1).1
 have HST:Hid (∀v' w4,w4.ownsRow (b+1) 5 1 v' (l.length+s.size) (Lib.byteCells l++Lib.strCells s)->W.grownBy w4 v.ownBlock->w4.cell? ⟨b,3,none⟩=some v/\w4.frozen? ⟨b,3,none⟩=false/\Wb w b fs t (l++byt s) (w4.setCell ⟨b,3,none⟩ v')/\Lib.OthersKept 5 (some b) W0 (w4.setCell ⟨b,3,none⟩ v')):=(λv' w4 ho hg=>by
  have hne:∀g,v.ownBlock=some g->b≠g:=λg e=>by have:=(h2.lt g e).1;omega
  have hb4:w4.heap[b]? =some (.cells #[fs,.int .i64 t,.pointer (some ⟨b,2,none⟩),v] 53 (0,0)):=(hg.block b hlt (λe=>hne b e.symm rfl)).trans h1;refine⟨by unfold World.cell?;rw[hb4];rfl,by unfold World.frozen?;rw[hb4];rfl,.inr ⟨h.hb,?_,v',?_,?_⟩,(uh HK0).trans (Lib.OthersKept.setCell (Lib.OthersKept.grown (Lib.OthersKept.refl _ _ _) hg (λg e=>own_kd h2 e)) ⟨b,3,none⟩ rfl v')⟩
  ·refine Kz.setNew ⟨hg.os.trans h.bo.os,hg.output.trans h.bo.output,Nat.le_trans h.bo.size hg.size,λk hk=>?_⟩ ⟨b,3,none⟩ (Nat.le_of_eq h.hb.symm) _;have hk':k<b:=by rw[h.hb];exact hk
   exact(hg.block k (by have:=h.bo.size;have:=h.hb;omega) (λe=>by have:=(h2.lt k e.symm).1;omega)).trans (h.bo.block k hk)
  ·rw[set_known _ hb4];rfl
  ·have e:Lib.byteCells (l++byt s)=Lib.byteCells l++Lib.strCells s:=by rw[bc_append];rfl
   rw[List.length_append,byt_len,e];refine⟨ho.1,?_⟩;rcases ho.2 with q|⟨g,cap,cur,q1,q2,q3,q4⟩
   ·exact .inl q
   ·refine .inr ⟨g,cap,cur,q1,q2,?_,q4⟩;rw[Below.heap_setCell _ _ _ _ (show g≠b by omega)]
    exact q3:∀v' w4,_)
 have HI0:Hid (Tryz.prog.info? 5=some i0):=hi0;have hbw:b+1<=W.heap.size:=hlt;clear h h1 hi0 hlt HK0;go_wp2_with (at_builtin;refine Lib.wpList_append_own_string _ rfl (.tmp 12) (.tmp 13) 38 9 rfl (b+1) 5 i0 Tryz.underlying38 Tryz.underlying9 HI0 hz0 hz1 hz2 v _ _ rfl h2 s rfl (by unfold maxLen;omega) (by omega) hbw ?_;intro v' w4 hown4 hgrow4 _;obtain⟨pv,cv,rfl⟩:=own_sh hown4;obtain⟨q1,q2,q3⟩:=(uh HST) _ _ hown4 hgrow4;have HX:Hid (Wb w b fs t (l++byt s) (w4.setCell ⟨b,3,none⟩ (.slice pv (l.length+s.size) cv))/\Lib.OthersKept 5 (some b) W0 (w4.setCell ⟨b,3,none⟩ (.slice pv (l.length+s.size) cv))):=q3;clear hown4 hgrow4 HST h2 q3 c1);go_ret2;exact⟨rfl,HX⟩
def Wq(w:World)(b:Nat)(fs:Value)(t:Nat)(l:List UInt8)(W:World):Prop:=∃m,Wb w b fs t m W/\(m=l\/(65536<m.length/\65536<l.length))
def fl(xs:List ByteArray):List UInt8:=(xs.map byt).flatten
theorem fl_take(xs:List ByteArray)(i:Nat)(h:i<xs.length):fl (xs.take (i+1))=fl (xs.take i)++byt xs[i]:=by
 unfold fl;rw[List.take_succ_eq_append_getElem h,List.map_append,List.flatten_append]
 congr 1
 simp
theorem Wb.len(h:Wb w b fs t m W):
  Calls Tryz.prog 16 #[.pointer (some ⟨b,2,none⟩)] W λe w'=>e=.returned (.int .i64 m.length)/\w'=W:=by
 rcases h with h|h
 ·exact bd_len h
 ·exact bd_len h
def PuI(w:World)(b:Nat)(fs:Value)(t:Nat)(l:List UInt8)(W wr:World):Prop:=Wq w b fs t l wr/\Lib.OthersKept 5 (some b) W wr
theorem pt_put(w:World)(b:Nat)(fs:Value)(t:Nat)(l:List UInt8)(W:World)(xs:List ByteArray)(g cap T:Nat)(C:Array Value)(fz:Nat×Nat)(h:Wq w b fs t l W)(hx:∀j (hj:j<xs.length),xs[j].size<=1000000000)
  (hg:W.heap[g]? =some (.cells C T fz)) (hT:T≠5) (hgb:g≠b) (hc:∀j (hj:j<xs.length),C[j]? =some (.string xs[j])) (hn:xs.length<=1000):
  Calls Tryz.prog 30 #[.pointer (some ⟨b,0,none⟩),.slice (some ⟨g,0,none⟩) xs.length cap] W λe w'=>e=.returned (.tuple #[])/\PuI w b fs t (l++fl xs) W w':=by
 have HX:Hid (∀j (hj:j<xs.length),xs[j].size<=1000000000/\C[j]? =some (.string xs[j])):=(λj hj=>⟨hx j hj,hc j hj⟩:∀j hj,_/\_)
 have HG:Hid (W.heap[g]? =some (.cells C T fz)/\T≠5/\g≠b):=(⟨hg,hT,hgb⟩:_/\_/\_)
 have H0:Hid (PuI w b fs t (l++fl (xs.take 0)) W W):=(⟨by rw[List.take_zero];show Wq w b fs t (l++[]) W;rw[List.append_nil];exact h,Lib.OthersKept.refl _ _ _⟩:_/\_)
 clear hx hc hg hT hgb h;go_enter Tryz.func30,Tryz.ntmps30;go_wp2_with fail
 go_loopw [8] (λs8 wr=>∃i:Nat,s8=.int .i64 i/\i<=xs.length/\Hid (PuI w b fs t (l++fl (xs.take i)) W wr)) (λs8 _=>xs.length-(intOf s8).toNat)
 case atStart=>exact⟨0,rfl,Nat.zero_le _,H0⟩
 case round=>
  clear H0;obtain⟨i,rfl,hi,HI⟩:=hrel;by_cases hj:i<xs.length
  ·obtain⟨hxs,hcs⟩:=(uh HX) i hj;obtain⟨hg,hT,hgb⟩:=(uh HG)
   obtain⟨⟨m,hm,hml⟩,hok⟩:=(uh HI)
   have hgr:=hok g _ hg (by simpa using hgb) (λc fz e=>by injection e with _ e2;exact hT e2);have hcell:wr.cell? ⟨g,i,none⟩=some (.string xs[i]):=by unfold World.cell?;rw[hgr];exact hcs
   have hlen:=Wb.len hm;have hj2:(i:Int)<(xs.length:Int):=by omega
   have HIW:Hid (PuI w b fs t (l++fl (xs.take (i+1))) W wr\/m.length<=65536):=(by
    by_cases hm1:m.length<=65536
    ·exact .inr hm1
    ·refine .inl ⟨⟨m,hm,.inr ⟨by omega,?_⟩⟩,hok⟩;rw[fl_take xs i hj,<-List.append_assoc,List.length_append];rcases hml with rfl|⟨_,h2⟩
     ·omega
     ·omega)
   have HWR:Hid (m.length<=65536->Calls Tryz.prog 54 #[.pointer (some ⟨b,2,none⟩),.string xs[i]] wr λe w'=>e=.returned (.tuple #[.int .i64 (xs[i].size:Int),.nilIface])/\PuI w b fs t (l++fl (xs.take (i+1))) W w'):=(λhm1=>by
    refine(bd_write xs[i] hm (by omega)).mono ?_;rintro e w' ⟨rfl,h2,h3⟩;refine⟨rfl,⟨m++byt xs[i],h2,?_⟩,hok.trans h3⟩;rcases hml with e|⟨h4,_⟩
    ·left;rw[fl_take xs i hj,<-List.append_assoc,e]
    ·omega:m.length<=65536->_)
   clear hm hml hok hgr hcs hg hT hgb HI HX HG;go_wp2_with fail;refine hlen.mono ?_;rintro e w1 ⟨rfl,rfl⟩;clear hlen;by_cases hm1:m.length<=65536
   ·have hm2:decide ((m.length:Int)<=65536)=true:=by rw[decide_eq_true_iff];omega
    have hw:=(uh HWR) hm1;clear HWR HIW;go_wp2_with fail;refine hw.mono ?_;rintro e w2 ⟨rfl,h2⟩;have HN:Hid (PuI w b fs t (l++fl (xs.take (i+1))) W w2):=h2;clear hw h2;go_wp2_with fail;go_roundw
    case rel=>exact⟨i+1,by go_num,by omega,HN⟩
    case measure=>simp[intOf];omega
   ·have hm2:¬(m.length:Int)<=65536:=by omega
    have HN:Hid (PuI w b fs t (l++fl (xs.take (i+1))) W w1):=((uh HIW).resolve_right hm1)
    clear HWR HIW;go_wp2_with fail;go_roundw
    case rel=>exact⟨i+1,by go_num,by omega,HN⟩
    case measure=>simp[intOf];omega
  ·obtain rfl:i=xs.length:=by omega
   have hI:=(uh HI)
   rw[List.take_length]at hI;have HN:Hid (PuI w b fs t (l++fl xs) W wr):=hI;clear HI hI HX HG;go_wp2_with fail
   go_end0
   exact⟨rfl,HN⟩
theorem Wq.wa(h:Wq w b fs t l W):∃ad m,Wa w b fs t ad m W:=by
 obtain⟨m,h|h,_⟩:=h
 ·exact⟨_,m,h⟩
 ·exact⟨_,m,h⟩
theorem Wq.callz(h:Wq w b fs t l W)(hb:Kz W W'):Wq w b fs t l W':=by
 obtain⟨m,h|h,e⟩:=h
 ·exact⟨m,.inl (h.call hb),e⟩
 ·exact⟨m,.inr (h.call hb),e⟩
theorem Wq.call(h:Wq w b fs t l W)(hb:Below W.heap.size W W'):Wq w b fs t l W':=h.callz (.of_below hb)
theorem Wq.bel(h:Wq w b fs t l W):Kz w W:=by
 obtain⟨ad,m,h⟩:=h.wa;exact h.bo
theorem Wq.frm(h:Wq w b fs t l W):W.cell? ⟨b,0,none⟩=some fs:=by
 obtain⟨ad,m,h⟩:=h.wa;obtain⟨v,h1,_⟩:=h.bx;unfold World.cell?;rw[h1];rfl
theorem Wq.tab(h:Wq w b fs t l W):W.cell? ⟨b,1,none⟩=some (.int .i64 t):=by
 obtain⟨ad,m,h⟩:=h.wa;obtain⟨v,h1,_⟩:=h.bx;unfold World.cell?;rw[h1];rfl
theorem Wq.lt(h:Wq w b fs t l W):b<W.heap.size:=by
 obtain⟨ad,m,h⟩:=h.wa;obtain⟨v,h1,_⟩:=h.bx;exact(Array.getElem?_eq_some_iff.1 h1).1
def Cq(w:World)(b:Nat)(fs:Value)(t:Nat)(f:Nat)(args:Array Value)(T:List UInt8):Prop:=∀l W,Wq w b fs t l W->Calls Tryz.prog f args W λe W'=>e=.returned (.tuple #[])/\Wq w b fs t (l++T) W'/\Lib.OthersKept 5 (some b) W W'
theorem Cq.congr{f:Nat}{T U:List UInt8}(h:Cq w b fs t f args T)(e:T=U):Cq w b fs t f args U:=by rw[<-e];exact h
theorem pt_say(w:World)(b:Nat)(fs:Value)(t:Nat)(xs:List ByteArray)(hx:∀x ∈ xs,x.size<=1000000000)(hn:xs.length<=1000)(h:Wq w b fs t l W)(cap T:Nat)(hT:T≠5):
  Calls Tryz.prog 30 #[.pointer (some ⟨b,0,none⟩),.slice (some ⟨W.heap.size,0,none⟩) xs.length cap] (W.alloc (.cells (xs.map Value.string).toArray T)) λe w'=>e=.returned (.tuple #[])/\Wq w b fs t (l++fl xs) w'/\Lib.OthersKept 5 (some b) W w':=by
 refine(pt_put w b fs t l (W.alloc (.cells (xs.map Value.string).toArray T)) xs W.heap.size cap T (xs.map Value.string).toArray (0,0) (h.call (bel1 W _)) (λj hj=>hx _ (List.getElem_mem hj)) (alloc_at W _ _) hT (by have:=h.lt;omega) (λj hj=>by simp[hj]) hn).mono ?_;rintro e w' ⟨rfl,h1,h2⟩;exact⟨rfl,h1,((Lib.OthersKept.refl _ _ _).alloc _).trans h2⟩
theorem ql_0{n i cf:Nat}{cd:Addr}{F:Nat->Gv}(hf:RowF w (.slice (some cd) n cf) n F)(hi:i<n)(hn:n<=3000)(hq:(F i).q=0):Cq w b (.slice (some cd) n cf) t 58 #[.pointer (some ⟨b,0,none⟩),.int .i64 i] ([123,125]):=by
 intro l W h;obtain⟨_,_,e1,hf2⟩:=id hf;obtain⟨rfl,-,rfl⟩:=(Value.slice.injEq _ _ _ _ _ _).mp e1;obtain⟨_,e2,hcc,hrc⟩:=hf2 (by omega);obtain rfl:=Option.some.inj e2;obtain⟨vn,vk,hc9,hrn,hrk⟩:=hrc i hi;obtain⟨pn,cn,rfl,-⟩:=id hrn;obtain⟨pk,ck,rfl,hrk2⟩:=id hrk;obtain⟨d0,d1,d2,d3,d4,d5,d6,d7,d8⟩:=hc9.kz h.bel;have c0:=h.frm;have hiI:(i:Int)<(n:Int):=by omega
 have hccI:(n:Int)<=3000:=by omega
 have HC:=λcap T hT=>pt_say w b (.slice (some cd) n cf) t [⟨#[123,125]⟩] (by decide) (by decide) h cap T hT;rw[hq]at d8;clear h hc9 hf hf2 hrc hrn hrk hrk2 d0 d1 d2 d3 d4 d5 d6 d7;go_enter Tryz.func58,Tryz.ntmps58;go_wp2_with fail;refine(HC _ _ (by decide)).mono ?_;rintro e w2 ⟨rfl,hW,hO⟩;have HN:Hid (Wq w b (.slice (some cd) n cf) t (l++[123,125]) w2/\Lib.OthersKept 5 (some b) W w2):=(⟨hW,hO⟩:_/\_)
 clear HC hW hO d8 c0;go_wp2_with fail;exact⟨rfl,.tuple #[],by simp[results,Tryz.results58],rfl,HN⟩
def Qe(w:World)(b:Nat)(cd:Addr)(n cf:Nat)(F:Nat->Gv)(t ki:Nat)(T:List UInt8):Prop:=ki<n/\∃vn vk,Cel9 w (cd.add (ki*9)) (F ki).a vn vk/\Cq w b (.slice (some cd) n cf) t 94 #[.pointer (some ⟨b,0,none⟩),fmv (F ki).a vn vk] T
theorem qx_list(w:World)(b:Nat)(cd:Addr)(n cf:Nat)(F:Nat->Gv)(t:Nat){v:Value}{K:Nat->Int}(hncf:n<=cf)(hn:n<=3000)(hr:RowV w v p (λi=>.int .i64 (K i)))(hp:p<=1048576){ts:Nat->List UInt8}
  (HTS:Hid (∀i,i<p->∃ki:Nat,K i=(ki:Int)/\Qe w b cd n cf F t ki (ts i))):
  Cq w b (.slice (some cd) n cf) t 62 #[.pointer (some ⟨b,0,none⟩),v] (cmj ts p):=by
 intro l W h;obtain⟨pa,cap,rfl,hr2⟩:=id hr;have hpI:(p:Int)<=1048576:=by omega
 have H1:Hid (Wq w b (.slice (some cd) n cf) t (l++cmj ts 0) W/\Lib.OthersKept 5 (some b) W W):=by
  refine(⟨?_,Lib.OthersKept.refl _ _ _⟩:_/\_);show Wq w b (.slice (some cd) n cf) t (l++[]) W;rw[List.append_nil];exact h
 have HR:Hid (∀W l',Wq w b (.slice (some cd) n cf) t l' W->∀i,i<p->∃a,pa=some a/\p<=cap/\W.cell? (a.add i)=some (.int .i64 (K i))):=(λW l' hW i hi=>by
  obtain⟨a,e1,e2,e3⟩:=hr2 (by omega)
  exact⟨a,e1,e2,(hW.bel.cell (lt_of_cell' (e3 i hi))).trans (e3 i hi)⟩:∀W l',_)
 have HCF:Hid (n<=cf/\n<=3000):=(⟨hncf,hn⟩:_/\_)
 clear h hr hr2 hncf hn;go_enter Tryz.func62,Tryz.ntmps62;go_wp2_with fail
 go_loopw [8] (λs8 wr=>∃i:Nat,s8=.int .i64 i/\i<=p/\Hid (Wq w b (.slice (some cd) n cf) t (l++cmj ts i) wr/\Lib.OthersKept 5 (some b) W wr)) (λs8 _=>p-(intOf s8).toNat)
 case atStart=>exact⟨0,rfl,Nat.zero_le _,H1⟩
 case round=>
  clear H1;obtain⟨i,rfl,hip,HX⟩:=hrel;obtain⟨hX,hO⟩:=(uh HX)
  by_cases hi:i<p
  ·have hiI:(i:Int)<(p:Int):=by omega
   obtain⟨a,rfl,hcap,ca⟩:=(uh HR) wr _ hX i hi;obtain⟨hcf,hn⟩:=(uh HCF)
   obtain⟨ki,hK,hkn,vn,vk,hc9,hq⟩:=(uh HTS) i hi;rw[hK]at ca;have hkI:(ki:Int)<(n:Int):=by omega
   have hnI:(n:Int)<=3000:=by omega
   have HO:Hid (Lib.OthersKept 5 (some b) W wr):=hO;have hcons:cmj ts (i+1)=cmj ts i++(if i=0 then []else [44,32])++ts i:=rfl;by_cases h0:i=0
   ·obtain⟨d0,d1,d2,d3,d4,d5,d6,d7,d8⟩:=hc9.kz hX.bel;have c0:=hX.frm;have HC:=hq (l++cmj ts i) wr hX;unfold fmv at HC
    have HEQ:Hid (l++cmj ts i++ts i=l++cmj ts (i+1)):=by
     show _=_;rw[hcons,if_pos h0,List.append_nil,List.append_assoc]
    have g0:¬(0:Int)<(i:Int):=by omega
    clear hX HX hcons h0 hO hq hc9;go_wp2_with fail;refine HC.mono ?_;rintro e w2 ⟨rfl,h2,ho2⟩
    have HN:Hid (Wq w b (.slice (some cd) n cf) t (l++cmj ts (i+1)) w2/\Lib.OthersKept 5 (some b) W w2):=by
     refine(⟨?_,(uh HO).trans ho2⟩:_/\_);rw[<-(uh HEQ)];exact h2
    clear HC h2 ca HEQ g0 ho2 HO c0 d0 d1 d2 d3 d4 d5 d6 d7 d8;go_wp2_with fail;go_roundw
    case rel=>exact⟨i+1,by go_num,by omega,HN⟩
    case measure=>simp[intOf];omega
   ·have g0:(0:Int)<(i:Int):=by omega
    have HS:=λcap T hT=>pt_say w b (.slice (some cd) n cf) t [⟨#[44,32]⟩] (by decide) (by decide) hX cap T hT
    have HEQ:Hid (l++cmj ts i++[44,32]++ts i=l++cmj ts (i+1)):=by
     show _=_;rw[hcons,if_neg h0];simp only[List.append_assoc]
    have HQ:Hid (Cq w b (.slice (some cd) n cf) t 94 #[.pointer (some ⟨b,0,none⟩),fmv (F ki).a vn vk] (ts i)/\Cel9 w (cd.add (ki*9)) (F ki).a vn vk):=(⟨hq,hc9⟩:_/\_)
    clear hX HX hcons h0 hO hq hc9;go_wp2_with fail;refine(HS _ _ (by decide)).mono ?_;rintro e w1 ⟨rfl,h1,ho1⟩;obtain⟨hq,hc9⟩:=(uh HQ)
    obtain⟨d0,d1,d2,d3,d4,d5,d6,d7,d8⟩:=hc9.kz h1.bel;have c0:=h1.frm;have HC:=hq _ w1 h1;unfold fmv at HC;have HO1:Hid (Lib.OthersKept 5 (some b) W w1):=(uh HO).trans ho1;clear HS h1 ca ho1 HO HQ hq hc9;go_wp2_with fail;refine HC.mono ?_;rintro e w2 ⟨rfl,h2,ho2⟩
    have HN:Hid (Wq w b (.slice (some cd) n cf) t (l++cmj ts (i+1)) w2/\Lib.OthersKept 5 (some b) W w2):=by
     refine(⟨?_,(uh HO1).trans ho2⟩:_/\_);rw[<-(uh HEQ)];exact h2
    clear HC h2 HEQ g0 ho2 HO1 c0 d0 d1 d2 d3 d4 d5 d6 d7 d8;go_wp2_with fail;go_roundw
    case rel=>exact⟨i+1,by go_num,by omega,HN⟩
    case measure=>simp[intOf];omega
  ·obtain rfl:i=p:=by omega
   clear hX hi hO;go_wp2_with fail;exact⟨rfl,.tuple #[],by simp[results,Tryz.results62],rfl,HX⟩
theorem fl_1(x:ByteArray):fl [x]=byt x:=by unfold fl;simp
theorem say1(w:World)(b:Nat)(fs:Value)(t:Nat)(x:ByteArray)(hx:x.size<=1000000000)(h:Wq w b fs t l W)(T:Nat)(hT:T≠5):
  Calls Tryz.prog 30 #[.pointer (some ⟨b,0,none⟩),.slice (some ⟨W.heap.size,0,none⟩) 1 1] (W.alloc (.cells #[.string x] T)) λe w'=>e=.returned (.tuple #[])/\Wq w b fs t (l++byt x) w'/\Lib.OthersKept 5 (some b) W w':=by
 have:=pt_say w b fs t [x] (by simpa using hx) (by simp) h 1 T hT;rw[fl_1]at this;exact this
theorem qx_encl(w:World)(b:Nat)(fs:Value)(t:Nat)(o c:ByteArray)(ho:o.size<=1000000000)(hc:c.size<=1000000000)
  (HL:Cq w b fs t 62 #[.pointer (some ⟨b,0,none⟩),.slice pk p ck] X):
  Cq w b fs t 112 #[.pointer (some ⟨b,0,none⟩),.string o,.slice pk p ck,.string c] (byt o++X++byt c):=by
 intro l W h;have H1:=λT hT=>say1 w b fs t o ho h T hT;have HC:Hid (c.size<=1000000000):=hc;have HLL:Hid (Cq w b fs t 62 #[.pointer (some ⟨b,0,none⟩),.slice pk p ck] X):=HL;clear h ho hc HL;go_enter Tryz.func112,Tryz.ntmps112;go_wp2_with fail;refine(H1 _ (by decide)).mono ?_;rintro e w1 ⟨rfl,h1,o1⟩;have HO1:Hid (Lib.OthersKept 5 (some b) W w1):=o1;have H2:=(uh HLL) _ w1 h1;clear H1 h1 o1 HLL;go_wp2_with fail;refine H2.mono ?_;rintro e w2 ⟨rfl,h2,o2⟩;have HO2:Hid (Lib.OthersKept 5 (some b) W w2):=(uh HO1).trans o2;have H3:=λT hT=>say1 w b fs t c (uh HC) h2 T hT;clear H2 h2 o2 HC HO1;go_wp2_with fail;refine(H3 _ (by decide)).mono ?_;rintro e w3 ⟨rfl,h3,o3⟩
 have HN:Hid (Wq w b fs t (l++(byt o++X++byt c)) w3/\Lib.OthersKept 5 (some b) W w3):=by
  refine(⟨?_,(uh HO2).trans o3⟩:_/\_)
  simpa only[List.append_assoc]using h3
 clear H3 h3 o3 HO2;go_wp2_with fail;exact⟨rfl,.tuple #[],by simp[results,Tryz.results112],rfl,HN⟩
theorem qx_beh0(w:World)(b:Nat)(fs:Value)(t:Nat)(o:ByteArray):
  Cq w b fs t 60 #[.pointer (some ⟨b,0,none⟩),.string o,.slice pk 0 ck] []:=by
 intro l W h;have HN:Hid (Wq w b fs t (l++[]) W/\Lib.OthersKept 5 (some b) W W):=(⟨by rw[List.append_nil];exact h,Lib.OthersKept.refl _ _ _⟩:_/\_)
 clear h;go_enter Tryz.func60,Tryz.ntmps60;go_wp2_with fail;exact⟨rfl,.tuple #[],by simp[results,Tryz.results60],rfl,HN⟩
theorem qx_beh1(w:World)(b:Nat)(fs:Value)(t:Nat)(o:ByteArray)(ho:o.size<=1000000000)(hp:0<p)
  (HL:Cq w b fs t 62 #[.pointer (some ⟨b,0,none⟩),.slice pk p ck] X):
  Cq w b fs t 60 #[.pointer (some ⟨b,0,none⟩),.string o,.slice pk p ck] (byt o++X):=by
 intro l W h;have hpI:(0:Int)<(p:Int):=by omega
 have H1:=λT hT=>say1 w b fs t o ho h T hT;have HLL:Hid (Cq w b fs t 62 #[.pointer (some ⟨b,0,none⟩),.slice pk p ck] X):=HL;clear h ho HL hp;go_enter Tryz.func60,Tryz.ntmps60;go_wp2_with fail;refine(H1 _ (by decide)).mono ?_;rintro e w1 ⟨rfl,h1,o1⟩;have HO1:Hid (Lib.OthersKept 5 (some b) W w1):=o1;have H2:=(uh HLL) _ w1 h1;clear H1 h1 o1 HLL;go_wp2_with fail;refine H2.mono ?_;rintro e w2 ⟨rfl,h2,o2⟩
 have HN:Hid (Wq w b fs t (l++(byt o++X)) w2/\Lib.OthersKept 5 (some b) W w2):=by
  refine(⟨?_,(uh HO1).trans o2⟩:_/\_)
  simpa only[List.append_assoc]using h2
 clear H2 h2 o2 HO1;go_wp2_with fail;exact⟨rfl,.tuple #[],by simp[results,Tryz.results60],rfl,HN⟩
end Go.Proofs.YtkhdehngobkkfaaGreatDoor.Fo
namespace Go.Proofs.YtkhdehngobkkfaaGreatDoor.Fo
open Go.Shelf Go.ChangeShapes Go.WideShapes Go.ChangeAt Go.RowKit
set_option linter.unusedVariables false
def renR:Go.Shelf.Ren:=⟨fun|99=>56|105=>31|165=>57|166=>54|169=>17|170=>16|206=>90|212=>55|240=>87|241=>91|263=>88|264=>89|276=>105|277=>106|n=>n,fun|0=>0|3=>3|4=>4|5=>5|9=>9|20=>20|37=>38|46=>90|51=>117|53=>120|70=>49|72=>51|75=>87|76=>88|80=>56|109=>91|127=>69|146=>118|148=>121|164=>140|n=>n,fun|n=>n⟩
theorem laysR:Go.Proofs.Lays.n105 Tryz.prog renR:={
 mixed:=by kernel_rfl
 f99:=Tryz.func56.trans (congrArg some (by kernel_rfl))
 f105:=Tryz.func31.trans (congrArg some (by kernel_rfl))
 f165:=Tryz.func57.trans (congrArg some (by kernel_rfl))
 f166:=Tryz.func54.trans (congrArg some (by kernel_rfl))
 f169:=Tryz.func17.trans (congrArg some (by kernel_rfl))
 f170:=Tryz.func16.trans (congrArg some (by kernel_rfl))
 f206:=Tryz.func90.trans (congrArg some (by kernel_rfl))
 f212:=Tryz.func55.trans (congrArg some (by kernel_rfl))
 f240:=Tryz.func87.trans (congrArg some (by kernel_rfl))
 f241:=Tryz.func91.trans (congrArg some (by kernel_rfl))
 f263:=Tryz.func88.trans (congrArg some (by kernel_rfl))
 f264:=Tryz.func89.trans (congrArg some (by kernel_rfl))
 f276:=Tryz.func105.trans (congrArg some (by kernel_rfl))
 f277:=Tryz.func106.trans (congrArg some (by kernel_rfl))
 t0:=Tryz.underlying0
 a0:=Tryz.isAgg0
 z0:=Tryz.sizeOf0
 v0:=Tryz.zeroValue0
 t3:=Tryz.underlying3
 a3:=Tryz.isAgg3
 z3:=Tryz.sizeOf3
 v3:=Tryz.zeroValue3
 t4:=Tryz.underlying4
 a4:=Tryz.isAgg4
 z4:=Tryz.sizeOf4
 v4:=Tryz.zeroValue4
 t5:=Tryz.underlying5
 a5:=Tryz.isAgg5
 z5:=Tryz.sizeOf5
 v5:=Tryz.zeroValue5
 t9:=Tryz.underlying9
 a9:=Tryz.isAgg9
 z9:=Tryz.sizeOf9
 v9:=Tryz.zeroValue9
 t20:=Tryz.underlying20
 a20:=Tryz.isAgg20
 z20:=Tryz.sizeOf20
 v20:=Tryz.zeroValue20
 t37:=Tryz.underlying38
 a37:=Tryz.isAgg38
 z37:=Tryz.sizeOf38
 v37:=Tryz.zeroValue38
 t46:=Tryz.underlying90
 a46:=Tryz.isAgg90
 z46:=Tryz.sizeOf90
 v46:=Tryz.zeroValue90
 t51:=Tryz.underlying117
 a51:=Tryz.isAgg117
 z51:=Tryz.sizeOf117
 v51:=Tryz.zeroValue117
 t53:=Tryz.underlying120
 a53:=Tryz.isAgg120
 z53:=Tryz.sizeOf120
 v53:=Tryz.zeroValue120
 t70:=Tryz.underlying49
 a70:=Tryz.isAgg49
 z70:=Tryz.sizeOf49
 v70:=Tryz.zeroValue49
 t72:=Tryz.underlying51
 a72:=Tryz.isAgg51
 z72:=Tryz.sizeOf51
 v72:=Tryz.zeroValue51
 t75:=Tryz.underlying87
 a75:=Tryz.isAgg87
 z75:=Tryz.sizeOf87
 v75:=Tryz.zeroValue87
 t76:=Tryz.underlying88
 a76:=Tryz.isAgg88
 z76:=Tryz.sizeOf88
 v76:=Tryz.zeroValue88
 t109:=Tryz.underlying91
 a109:=Tryz.isAgg91
 z109:=Tryz.sizeOf91
 v109:=Tryz.zeroValue91
 t127:=Tryz.underlying69
 a127:=Tryz.isAgg69
 z127:=Tryz.sizeOf69
 v127:=Tryz.zeroValue69
 t146:=Tryz.underlying118
 a146:=Tryz.isAgg118
 z146:=Tryz.sizeOf118
 v146:=Tryz.zeroValue118
 t148:=Tryz.underlying121
 a148:=Tryz.isAgg121
 z148:=Tryz.sizeOf121
 v148:=Tryz.zeroValue121
 t164:=Tryz.underlying140
 a164:=Tryz.isAgg140
 z164:=Tryz.sizeOf140
 v164:=Tryz.zeroValue140}
theorem extraR:Builder.Extra Tryz.prog renR:={
 sizeBuilder:=by kernel_rfl
 liesBuilder:=by kernel_rfl
 t5:=Tryz.underlying5
 a5:=Tryz.isAgg5
 z5:=Tryz.sizeOf5
 v5:=Tryz.zeroValue5
 infoByte:=by kernel_rfl
 cellsByte:=by kernel_rfl
 sizeByte:=by kernel_rfl
 neB5:=by decide}
theorem rep_list(c:Nat):Lib.repeatL [9] c=tbs c:=by
 induction c with
 |zero=>rfl
 |succ c ih=>
  rw[show Lib.repeatL ([9]:List UInt8) (c+1)=[9]++Lib.repeatL [9] c from rfl,ih];rfl
theorem im_tabs(t:Nat)(w:World)(ht:t<=100000):Calls Tryz.prog 31 #[.string ⟨#[9]⟩,.int .i64 t] w λe w'=>e=.returned (.string ⟨(tbs t).toArray⟩)/\Below w.heap.size w w':=by
 have h:=Any.strings_Repeat laysR extraR ⟨#[9]⟩ t w (by omega) (by show 1*t<=_;omega);rw[show(⟨#[9]⟩:ByteArray).data.toList=[9]from rfl,rep_list]at h;exact h
end Go.Proofs.YtkhdehngobkkfaaGreatDoor.Fo
namespace Go.Proofs.YtkhdehngobkkfaaGreatDoor.Fo
open Go.ChangeShapes Go.WideShapes Go.ChangeAt Go.RowKit
set_option linter.unusedVariables false
set_option maxRecDepth 100000
variable {W w:World}{b t:Nat}{ts:Nat->List UInt8}{fs:Value}{l:List UInt8}
def lnq (t:Nat) (ts:Nat->List UInt8):Nat->List UInt8
 |0=>[]
 |p+1=>lnq t ts p++(tbs t++ts p++[10])
theorem lnq_lns(t:Nat)(ts:Nat->List UInt8)(p:Nat):10::lnq t ts p=lns t ts p++[10]:=by
 induction p with
 |zero=>rfl
 |succ p ih=>
  show 10::(lnq t ts p++(tbs t++ts p++[10]))=(lns t ts p++(10::(tbs t++ts p)))++[10];rw[<-List.cons_append,ih]
  simp
theorem byt_mk(l:List UInt8):byt ⟨l.toArray⟩=l:=by simp[byt]
theorem Wq.oth{W':World}(hb:Below W.heap.size W W'):Lib.OthersKept 5 (some b) W W':=λk o hk _ _=>(hb.block k (Array.getElem?_eq_some_iff.1 hk).1).trans hk
theorem qx_lines(w:World)(b:Nat)(fs:Value)(t:Nat)(ht:t<=100000){v:Value}{p:Nat}{K:Nat->Int}(hr:RowV w v p (λi=>.int .i64 (K i)))(hp:p<=1048576)
  (HTS:Hid (∀i,i<p->∃ki:Nat,K i=(ki:Int)/\Cq w b fs t 32 #[.pointer (some ⟨b,0,none⟩),.int .i64 ki] (ts i))):
  Cq w b fs t 15 #[.pointer (some ⟨b,0,none⟩),v] (lnq t ts p):=by
 intro l W h;obtain⟨pa,cap,rfl,hr2⟩:=id hr;have hpI:(p:Int)<=1048576:=by omega
 have H1:Hid (Wq w b fs t (l++lnq t ts 0) W/\Lib.OthersKept 5 (some b) W W):=by
  refine(⟨?_,Lib.OthersKept.refl _ _ _⟩:_/\_);show Wq w b fs t (l++[]) W;rw[List.append_nil];exact h
 have HR:Hid (∀W l',Wq w b fs t l' W->∀i,i<p->∃a,pa=some a/\p<=cap/\W.cell? (a.add i)=some (.int .i64 (K i))):=(λW l' hW i hi=>by
  obtain⟨a,e1,e2,e3⟩:=hr2 (by omega)
  exact⟨a,e1,e2,(hW.bel.cell (lt_of_cell' (e3 i hi))).trans (e3 i hi)⟩:∀W l',_)
 have HTT:Hid (t<=100000):=ht;clear h hr hr2 ht;go_enter Tryz.func15,Tryz.ntmps15;go_wp2_with fail
 go_loopw [8] (λs8 wr=>∃i:Nat,s8=.int .i64 i/\i<=p/\Hid (Wq w b fs t (l++lnq t ts i) wr/\Lib.OthersKept 5 (some b) W wr)) (λs8 _=>p-(intOf s8).toNat)
 case atStart=>exact⟨0,rfl,Nat.zero_le _,H1⟩
 case round=>
  clear H1;obtain⟨i,rfl,hip,HX⟩:=hrel;obtain⟨hX,hO⟩:=(uh HX)
  by_cases hi:i<p
  ·have hiI:(i:Int)<(p:Int):=by omega
   obtain⟨a,rfl,hcap,ca⟩:=(uh HR) wr _ hX i hi;obtain⟨ki,hK,hq⟩:=(uh HTS) i hi;rw[hK]at ca;have HO:Hid (Lib.OthersKept 5 (some b) W wr):=hO
   have HEQ:Hid (l++lnq t ts i++tbs t++ts i++[10]=l++lnq t ts (i+1)):=by
    show _=l++(lnq t ts i++(tbs t++ts i++[10]));simp only[List.append_assoc]
   have HQ:Hid (Cq w b fs t 32 #[.pointer (some ⟨b,0,none⟩),.int .i64 ki] (ts i)):=hq;have HXX:Hid (Wq w b fs t (l++lnq t ts i) wr):=hX;have ct:=hX.tab;have HT:=im_tabs t wr (uh HTT);clear hX HX hO hq;go_wp2_with fail;refine HT.mono ?_;rintro e w1 ⟨rfl,b1⟩
   have H2:=λT hT=>say1 w b fs t ⟨(tbs t).toArray⟩ (by
    have h1:=(uh HTT)
    have h2:(tbs t).length=t:=by unfold tbs;simp
    show(tbs t).toArray.size<=_
    simp;omega) ((uh HXX).call b1) T hT
   rw[byt_mk]at H2;have HO1:Hid (Lib.OthersKept 5 (some b) W w1):=(uh HO).trans (Wq.oth b1);clear HT b1 HXX HO ct ca;go_wp2_with fail;refine(H2 _ (by decide)).mono ?_;rintro e w2 ⟨rfl,h2,o2⟩;have H3:=(uh HQ) _ w2 h2;have HO2:Hid (Lib.OthersKept 5 (some b) W w2):=(uh HO1).trans o2;clear H2 h2 o2 HQ HO1;go_wp2_with fail;refine H3.mono ?_;rintro e w3 ⟨rfl,h3,o3⟩;have H4:=λT hT=>say1 w b fs t ⟨#[10]⟩ (by decide) h3 T hT;have HO3:Hid (Lib.OthersKept 5 (some b) W w3):=(uh HO2).trans o3;clear H3 h3 o3 HO2;go_wp2_with fail;refine(H4 _ (by decide)).mono ?_;rintro e w4 ⟨rfl,h4,o4⟩
   have HN:Hid (Wq w b fs t (l++lnq t ts (i+1)) w4/\Lib.OthersKept 5 (some b) W w4):=by
    refine(⟨?_,(uh HO3).trans o4⟩:_/\_);rw[<-(uh HEQ)];exact h4
   clear H4 h4 o4 HO3 HEQ;go_wp2_with fail;go_roundw
   case rel=>exact⟨i+1,by go_num,by omega,HN⟩
   case measure=>simp[intOf];omega
  ·obtain rfl:i=p:=by omega
   clear hX hi hO;go_wp2_with fail;exact⟨rfl,.tuple #[],by simp[results,Tryz.results15],rfl,HX⟩
theorem Wa.retab{ad:Option Addr}{m:List UInt8}(h:Wa w b fs t ad m W)(t':Nat):W.frozen? ⟨b,1,none⟩=false/\Wa w b fs t' ad m (W.setCell ⟨b,1,none⟩ (.int .i64 t')):=by
 obtain⟨v,h1,h2⟩:=h.bx;refine⟨frozen_of h1,h.hb,h.bo.setNew ⟨b,1,none⟩ (Nat.le_of_eq h.hb.symm) _,v,set_known _ h1,h2.1,?_⟩;rcases h2.2 with q|⟨g,cap,cur,q1,q2,q3,q4⟩
 ·exact .inl q
 ·exact .inr ⟨g,cap,cur,q1,q2,(Below.heap_setCell _ _ _ _ (show g≠b by omega)).trans q3,q4⟩
theorem Wq.retab(h:Wq w b fs t l W)(t':Nat):W.cell? ⟨b,1,none⟩=some (.int .i64 t)/\W.frozen? ⟨b,1,none⟩=false/\Wq w b fs t' l (W.setCell ⟨b,1,none⟩ (.int .i64 t'))/\Lib.OthersKept 5 (some b) W (W.setCell ⟨b,1,none⟩ (.int .i64 t')):=by
 refine⟨h.tab,?_,?_,Lib.OthersKept.setCell (Lib.OthersKept.refl _ _ _) ⟨b,1,none⟩ rfl _⟩
 ·obtain⟨ad,m,h⟩:=h.wa;exact(h.retab t').1
 ·obtain⟨m,h|h,e⟩:=h
  ·exact⟨m,.inl (h.retab t').2,e⟩
  ·exact⟨m,.inr (h.retab t').2,e⟩
theorem say2(w:World)(b:Nat)(fs:Value)(t:Nat)(x y:ByteArray)(hx:x.size<=1000000000)(hy:y.size<=1000000000)(h:Wq w b fs t l W)(T:Nat)(hT:T≠5):
  Calls Tryz.prog 30 #[.pointer (some ⟨b,0,none⟩),.slice (some ⟨W.heap.size,0,none⟩) 2 2] (W.alloc (.cells #[.string x,.string y] T)) λe w'=>e=.returned (.tuple #[])/\Wq w b fs t (l++(byt x++byt y)) w'/\Lib.OthersKept 5 (some b) W w':=by
 have:=pt_say w b fs t [x,y] (by simp[hx,hy]) (by simp) h 2 T hT;rw[show fl [x,y]=byt x++byt y by unfold fl;simp]at this;exact this
theorem tbs_b(t:Nat)(h:t<=100000):(⟨(tbs t).toArray⟩:ByteArray).size<=1000000000:=by
 have h2:(tbs t).length=t:=by unfold tbs;simp
 show(tbs t).toArray.size<=_
 simp;omega
theorem ql_1{n i cf:Nat}{cd:Addr}{F:Nat->Gv}(hf:RowF w (.slice (some cd) n cf) n F)(hi:i<n)(hn:n<=3000)(ht:t<=6100)(hq:0<(F i).q)(hqB:(F i).q<=1048576)
  (HTS:Hid (∀j,j<(F i).q->∃ki:Nat,(F i).K j=(ki:Int)/\Cq w b (.slice (some cd) n cf) (t+1) 32 #[.pointer (some ⟨b,0,none⟩),.int .i64 ki] (ts j))):
  Cq w b (.slice (some cd) n cf) t 58 #[.pointer (some ⟨b,0,none⟩),.int .i64 i] ([123]++lns (t+1) ts (F i).q++(10::(tbs t++[125]))):=by
 intro l W h;obtain⟨_,_,e1,hf2⟩:=id hf;obtain⟨rfl,-,rfl⟩:=(Value.slice.injEq _ _ _ _ _ _).mp e1;obtain⟨_,e2,hcc,hrc⟩:=hf2 (by omega);obtain rfl:=Option.some.inj e2;obtain⟨vn,vk,hc9,hrn,hrk⟩:=hrc i hi;obtain⟨pn,cn,rfl,-⟩:=id hrn;obtain⟨pk,ck,rfl,hrk2⟩:=id hrk;obtain⟨d0,d1,d2,d3,d4,d5,d6,d7,d8⟩:=hc9.kz h.bel;have c0:=h.frm;have hiI:(i:Int)<(n:Int):=by omega
 have hccI:(n:Int)<=3000:=by omega
 obtain⟨ad,rfl,hcap,-⟩:=hrk2 hq;have HLI:Hid (Cq w b (.slice (some cd) n cf) (t+1) 15 #[.pointer (some ⟨b,0,none⟩),.slice (some ad) (F i).q ck] (lnq (t+1) ts (F i).q)):=qx_lines w b (.slice (some cd) n cf) (t+1) (by omega) hrk hqB HTS;have HC:=λT hT=>say1 w b (.slice (some cd) n cf) t ⟨#[123,10]⟩ (by decide) h T hT;have hq0:((F i).q=0)=False:=eq_false (by omega);have hqI:((F i).q:Int)<=1048576:=by omega
 have htI:(t:Int)<=6100:=by omega
 have HTB:Hid (t<=6100):=ht;clear h hc9 hf hf2 hrc hrn hrk hrk2 d0 d1 d2 d3 d4 d5 d6 d7 HTS ht;go_enter Tryz.func58,Tryz.ntmps58;go_wp2_with fail;refine(HC _ (by decide)).mono ?_;rintro e w2 ⟨rfl,hW2,hO2⟩;obtain⟨c2,f2,hW3,hO3⟩:=hW2.retab (t+1);obtain⟨w3,hw3⟩:∃w3,w3=w2.setCell ⟨b,1,none⟩ (.int .i64 ((t+1:Nat):Int)):=⟨_,rfl⟩
 rw[<-hw3]at hW3 hO3;have H3:=(uh HLI) _ w3 hW3;have HO3:Hid (Lib.OthersKept 5 (some b) W w3):=hO2.trans hO3;have hWd:w2.setCell ⟨b,1,none⟩ (.int .i64 ((t:Int)+1))=w3:=by rw[hw3];rfl
 have hov:IntKind.i64.wrap ((t:Int)+1)=(t:Int)+1:=by rw[IntKind.wrap_i64];omega
 clear HC hW2 hO2 hW3 hO3 hw3 d8 c0 HLI;go_upto_region 5 with fail
 try rw[hWd]
 clear c2 f2 hWd hov;go_wp2_with fail;refine H3.mono ?_;rintro e wr ⟨rfl,hX,hO⟩;obtain⟨c2,f2,hW3,hO3⟩:=hX.retab t;obtain⟨w4,hw4⟩:∃w4,w4=wr.setCell ⟨b,1,none⟩ (.int .i64 t):=⟨_,rfl⟩
 rw[<-hw4]at hW3 hO3;have hWd:wr.setCell ⟨b,1,none⟩ (.int .i64 t)=w4:=hw4.symm;have hov:IntKind.i64.wrap (((t:Int)+1)-1)=(t:Int):=by rw[IntKind.wrap_i64];omega
 have hov2:IntKind.i64.wrap (t:Int)=(t:Int):=by rw[IntKind.wrap_i64];omega
 have c2':wr.cell? ⟨b,1,none⟩=some (.int .i64 ((t:Int)+1)):=by rw[c2];rfl
 have HO4:Hid (Lib.OthersKept 5 (some b) W w4):=((uh HO3).trans hO).trans hO3;have ct:=hW3.tab;have HT:=im_tabs t w4 (by have:=(uh HTB);omega);have HW4:Hid (Wq w b (.slice (some cd) n cf) t (l++byt ⟨#[123,10]⟩++lnq (t+1) ts (F i).q) w4):=hW3;clear H3 hX hO hO3 hW3 hw4 c2 HO3;go_upto_region 7 with fail
 try rw[hWd]
 clear hWd hov hov2 c2' f2;go_wp2_with fail;refine HT.mono ?_;rintro e w5 ⟨rfl,b5⟩;have H5:=λT hT=>say2 w b (.slice (some cd) n cf) t ⟨(tbs t).toArray⟩ ⟨#[125]⟩ (tbs_b t (by have:=(uh HTB);omega)) (by decide) ((uh HW4).call b5) T hT;rw[byt_mk]at H5;have HO5:Hid (Lib.OthersKept 5 (some b) W w5):=(uh HO4).trans (Wq.oth b5);clear HT b5 HW4 HO4 ct;go_wp2_with fail;refine(H5 _ (by decide)).mono ?_;rintro e w6 ⟨rfl,h6,o6⟩
 have HN:Hid (Wq w b (.slice (some cd) n cf) t (l++([123]++lns (t+1) ts (F i).q++(10::(tbs t++[125])))) w6/\Lib.OthersKept 5 (some b) W w6):=by
  refine(⟨?_,(uh HO5).trans o6⟩:_/\_)
  have e:l++([123]++lns (t+1) ts (F i).q++(10::(tbs t++[125])))=l++byt ⟨#[123,10]⟩++lnq (t+1) ts (F i).q++(tbs t++byt ⟨#[125]⟩):=by
   have e1:=lnq_lns (t+1) ts (F i).q;show _=l++[123,10]++lnq (t+1) ts (F i).q++(tbs t++[125]);rw[List.append_assoc l,show([123,10]:List UInt8)++lnq (t+1) ts (F i).q=123::(10::lnq (t+1) ts (F i).q)from rfl,e1]
   simp
  rw[e];exact h6
 clear H5 h6 o6 HO5;go_wp2_with fail;exact⟨rfl,.tuple #[],by simp[results,Tryz.results58],rfl,HN⟩
