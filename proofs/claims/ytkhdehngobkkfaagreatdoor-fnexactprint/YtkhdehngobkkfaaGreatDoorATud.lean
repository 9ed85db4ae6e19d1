import Derived.Test.YtkhdehngobkkfaaGreatDoorATkb
import Derived.Test.YtkhdehngobkkfaaGreatDoorAQsh
import Derived.Test.YtkhdehngobkkfaaGreatDoorASko
set_option maxRecDepth 100000
set_option maxHeartbeats 4000000
namespace Go.Proofs.YtkhdehngobkkfaaGreatDoor
open Go.ChangeShapes Go.WideShapes Go.ChangeAt Go.RowKit
set_option linter.unusedVariables false
def qt(T:ByteArray):ByteArray:=if 4000<T.size then⟨#[]⟩else⟨(quo T.data.toList T.data.toList.length++[34]).toArray⟩
theorem impl_qt(T:ByteArray)(w:World):Calls Tryz.prog 129 #[.string T] w λe w'=>e=.returned (.string (qt T))/\Below w.heap.size w w':=by
 by_cases h:4000<T.size
 ·have e:qt T=⟨#[]⟩:=by unfold qt;rw[if_pos h]
  rw[e];have hi:(4000:Int)<(T.size:Int):=by omega
  clear e h;go_enter Tryz.func129,Tryz.ntmps129;go_wp2_with fail;go_ret;exact⟨rfl,Below.refl _ _⟩
 ·have e:qt T=⟨(quo T.data.toList T.data.toList.length++[34]).toArray⟩:=by unfold qt;rw[if_neg h]
  rw[e];exact impl_quote T T.data.toList rfl (by simp;omega) w
end Go.Proofs.YtkhdehngobkkfaaGreatDoor
namespace Go.Proofs.YtkhdehngobkkfaaGreatDoor.Fo
open Go.ChangeShapes Go.WideShapes Go.ChangeAt Go.RowKit
set_option linter.unusedVariables false
variable {w W:World}{x:Obj}
theorem below_new(h:Below (w.alloc x).heap.size (w.alloc x) W):Below w.heap.size w W:=((Below.refl _ w).alloc (Nat.le_refl _) _).trans (h.mono (by simp))
theorem kept_via(h:Rd.Kept (w.alloc x) W):Rd.Kept w W:=Kb.kept (B:=w.heap.size) ((Kb.new _ _ _).trans (Kb.of_kept h)) (Nat.le_refl _)
theorem kept_below(h:Below (w.alloc x).heap.size (w.alloc x) W):Rd.Kept w W:=Kb.kept (B:=w.heap.size) (Kb.of_below (below_new h) (Nat.le_refl _)) (Nat.le_refl _)
theorem im_tt1(kd:Int)(hk:kd=1\/kd=3)(f t l n:Int)(x R:ByteArray)(h:∀w,Gd w->Calls Tryz.prog 128 #[.agg #[.int .i64 kd,.int .i64 f,.int .i64 t,.int .i64 l,.int .i64 n,.string x],.int .i64 40] w λe w'=>e=.returned (.string R)/\Rd.Kept w w')(w:World)(hg:Gd w):
  Calls Tryz.prog 121 #[.agg #[.int .i64 kd,.int .i64 f,.int .i64 t,.int .i64 l,.int .i64 n,.string x]] w λe w'=>e=.returned (.string R)/\Rd.Kept w w':=by
 have h1:=λo=>h (w.alloc o) (hg.kb hg.size (Kb.new _ w o));clear h hg;rcases hk with rfl|rfl
 all_goals
  go_enter Tryz.func121,Tryz.ntmps121;go_wp2_with fail;refine(h1 _).mono ?_;rintro e w1 ⟨rfl,hb1⟩;have HB2:Hid (Rd.Kept w w1):=kept_via hb1;clear h1 hb1;go_wp2_with fail;go_ret;exact⟨rfl,HB2⟩
theorem im_tt4(f t l n:Int)(x R:ByteArray)(h:∀w,Calls Tryz.prog 129 #[.string x] w λe w'=>e=.returned (.string R)/\Below w.heap.size w w')(w:World):
  Calls Tryz.prog 121 #[.agg #[.int .i64 4,.int .i64 f,.int .i64 t,.int .i64 l,.int .i64 n,.string x]] w λe w'=>e=.returned (.string R)/\Rd.Kept w w':=by
 have h1:=λo=>h (w.alloc o);clear h;go_enter Tryz.func121,Tryz.ntmps121;go_wp2_with fail;refine(h1 _).mono ?_;rintro e w1 ⟨rfl,hb1⟩;have HB2:Hid (Rd.Kept w w1):=kept_below hb1;clear h1 hb1;go_wp2_with fail;go_ret;exact⟨rfl,HB2⟩
def Wr(kd:Int)(x:ByteArray)(z:Bool):Prop:=∀(f t l nn:Int) (w:World),Gd w->Calls Tryz.prog 121 #[.agg #[.int .i64 kd,.int .i64 f,.int .i64 t,.int .i64 l,.int .i64 nn,.string x]] w λe w'=>∃R:ByteArray,e=.returned (.string R)/\(R=⟨#[]⟩↔z=false)/\Rd.Kept w w'
theorem wr_of{sf:Nat}{kd:Int}(hk:kd=1\/kd=3){x R:ByteArray}(h:TxtC sf kd x R):∃z:Bool,(∀w,Calls Tryz.prog sf #[.string x] w λe w'=>e=.returned (.bool z)/\Below w.heap.size w w')/\Wr kd x z:=by
 obtain⟨⟨z,h1,hR,hz⟩,h2⟩:=h;refine⟨z,h1,λf t l nn w hg=>(im_tt1 kd hk f t l nn x R (λw hg=>h2 f t l nn w hg) w hg).mono λe w' h=>⟨R,h.1,?_,h.2⟩⟩;cases z with
 |false=>rw[hR];simp
 |true=>
  have hs:=hz rfl;rw[hR]
  simp
  intro e;rw[e]at hs;exact absurd hs (by decide)
theorem nm_ex(x:ByteArray):∃z:Bool,(∀w,Calls Tryz.prog 73 #[.string x] w λe w'=>e=.returned (.bool z)/\Below w.heap.size w w')/\Wr 1 x z:=by
 obtain⟨R,h⟩:=txt_name x;exact wr_of (.inl rfl) h
theorem fl_ex(x:ByteArray):∃z:Bool,(∀w,Calls Tryz.prog 72 #[.string x] w λe w'=>e=.returned (.bool z)/\Below w.heap.size w w')/\Wr 3 x z:=by
 obtain⟨R,h⟩:=txt_flt x;exact wr_of (.inr rfl) h
def nmp(x:ByteArray):Prop:=Classical.choose (nm_ex x)=true
def flp(x:ByteArray):Prop:=Classical.choose (fl_ex x)=true
theorem dc_b(z:Bool):dc (z=true)=z:=by
 cases z with
 |true=>exact dc_t rfl
 |false=>exact dc_f (by decide)
theorem nm_s:NmS nmp:=λx w=>by
 rw[show dc (nmp x)=Classical.choose (nm_ex x)from dc_b _];exact(Classical.choose_spec (nm_ex x)).1 w
theorem fl_s:FlS flp:=λx w=>by
 rw[show dc (flp x)=Classical.choose (fl_ex x)from dc_b _];exact(Classical.choose_spec (fl_ex x)).1 w
theorem nm_w(x:ByteArray):Wr 1 x (dc (nmp x)):=by
 rw[show dc (nmp x)=Classical.choose (nm_ex x)from dc_b _];exact(Classical.choose_spec (nm_ex x)).2
theorem fl_w(x:ByteArray):Wr 3 x (dc (flp x)):=by
 rw[show dc (flp x)=Classical.choose (fl_ex x)from dc_b _];exact(Classical.choose_spec (fl_ex x)).2
theorem st_w(x:ByteArray):Wr 4 x (dc (x.size<=4000)):=λf t l nn w hg=>(im_tt4 f t l nn x (qt x) (λw=>impl_qt x w) w).mono λe w' h=>⟨qt x,h.1,by
 unfold qt;by_cases h4:4000<x.size
 ·rw[if_pos h4,dc_f (by omega)];simp
 ·rw[if_neg h4,dc_t (by omega)]
  simp,h.2⟩
def shv(t:TypeId)(a:Fv)(vn vk:Value):Value:=.iface t (fmv a vn vk)
theorem im_holds(x y k:Int)(w:World):Calls Tryz.prog 117 #[.agg #[.int .i64 x,.int .i64 y],.int .i64 k] w λe w'=>e=.returned (.bool (dc (x<=k/\k<=y)))/\Below w.heap.size w w':=by
 rcases Int.lt_or_le k x with h|h
 ·rw[dc_f (by omega)];have h':¬x<=k:=by omega
  clear h;go_enter Tryz.func117,Tryz.ntmps117;go_wp2_with fail;go_ret;exact⟨rfl,bel1 _ _⟩
 ·rcases Int.lt_or_le y k with g|g
  ·rw[dc_f (by omega)];have g':¬k<=y:=by omega
   clear g;go_enter Tryz.func117,Tryz.ntmps117;go_wp2_with fail;go_ret;exact⟨rfl,bel1 _ _⟩
  ·rw[dc_t ⟨h,g⟩];go_enter Tryz.func117,Tryz.ntmps117;go_wp2_with fail;go_ret;exact⟨rfl,bel1 _ _⟩
theorem im_just(k:Int)(w:World):Calls Tryz.prog 210 #[.int .i64 k] w λe w'=>e=.returned (.agg #[.int .i64 k,.int .i64 k])/\Below w.heap.size w w':=by
 go_enter Tryz.func210,Tryz.ntmps210;go_wp2_with fail;go_returns;exact⟨rfl,bel1 _ _⟩
def tx(s k:Int):Prop:=s=3\/(s=4/\k≠27)\/(s=5/\(k=26\/k=32\/k=33))\/(s=6/\k=34)\/(s=7/\(k=34\/k=27))\/(s=8/\k=36)
theorem im_tx(s k:Int)(hs:0<=s/\s<=9)(w:World):Calls Tryz.prog 127 #[.int .i64 s,.int .i64 k] w λe w'=>e=.returned (.bool (dc (tx s k)))/\w'=w:=by
 have hs':s=0\/s=1\/s=2\/s=3\/s=4\/s=5\/s=6\/s=7\/s=8\/s=9:=by omega
 clear hs;rcases hs' with rfl|rfl|rfl|rfl|rfl|rfl|rfl|rfl|rfl|rfl
 ·rw[dc_f (by unfold tx;omega)];go_enter Tryz.func127,Tryz.ntmps127;go_wp2_with fail;go_ret;exact⟨rfl,rfl⟩
 ·rw[dc_f (by unfold tx;omega)];go_enter Tryz.func127,Tryz.ntmps127;go_wp2_with fail;go_ret;exact⟨rfl,rfl⟩
 ·rw[dc_f (by unfold tx;omega)];go_enter Tryz.func127,Tryz.ntmps127;go_wp2_with fail;go_ret;exact⟨rfl,rfl⟩
 ·rw[dc_t (by unfold tx;omega)];go_enter Tryz.func127,Tryz.ntmps127;go_wp2_with fail;go_ret;exact⟨rfl,rfl⟩
 ·by_cases h27:k=27
  ·rw[dc_f (by unfold tx;omega)];have g27:(k !=27)=false:=by rw[h27];rfl
   clear h27;go_enter Tryz.func127,Tryz.ntmps127;go_wp2_with fail;go_ret;exact⟨rfl,rfl⟩
  ·have g27:(k !=27)=true:=bne_iff_ne.2 h27;rw[dc_t (by unfold tx;omega)];clear h27;go_enter Tryz.func127,Tryz.ntmps127;go_wp2_with fail;go_ret;exact⟨rfl,rfl⟩
 ·by_cases h26:k=26
  ·rw[dc_t (by unfold tx;omega)];have g26:=beq1 h26;clear h26;go_enter Tryz.func127,Tryz.ntmps127;go_wp2_with fail;go_ret;exact⟨rfl,rfl⟩
  ·have g26:=bne h26;by_cases h32:k=32
   ·rw[dc_t (by unfold tx;omega)];have g32:=beq1 h32;clear h26 h32;go_enter Tryz.func127,Tryz.ntmps127;go_wp2_with fail;go_ret;exact⟨rfl,rfl⟩
   ·have g32:=bne h32;by_cases h33:k=33
    ·rw[dc_t (by unfold tx;omega)];have g33:=beq1 h33;clear h26 h32 h33;go_enter Tryz.func127,Tryz.ntmps127;go_wp2_with fail;go_ret;exact⟨rfl,rfl⟩
    ·have g33:=bne h33;rw[dc_f (by unfold tx;omega)];clear h26 h32 h33;go_enter Tryz.func127,Tryz.ntmps127;go_wp2_with fail;go_ret;exact⟨rfl,rfl⟩
 ·by_cases h34:k=34
  ·rw[dc_t (by unfold tx;omega)];have g34:=beq1 h34;clear h34;go_enter Tryz.func127,Tryz.ntmps127;go_wp2_with fail;go_ret;exact⟨rfl,rfl⟩
  ·have g34:=bne h34;rw[dc_f (by unfold tx;omega)];clear h34;go_enter Tryz.func127,Tryz.ntmps127;go_wp2_with fail;go_ret;exact⟨rfl,rfl⟩
 ·by_cases h34:k=34
  ·rw[dc_t (by unfold tx;omega)];have g34:=beq1 h34;clear h34;go_enter Tryz.func127,Tryz.ntmps127;go_wp2_with fail;go_ret;exact⟨rfl,rfl⟩
  ·have g34:=bne h34;by_cases h27:k=27
   ·rw[dc_t (by unfold tx;omega)];have g27:=beq1 h27;clear h34 h27;go_enter Tryz.func127,Tryz.ntmps127;go_wp2_with fail;go_ret;exact⟨rfl,rfl⟩
   ·have g27:=bne h27;rw[dc_f (by unfold tx;omega)];clear h34 h27;go_enter Tryz.func127,Tryz.ntmps127;go_wp2_with fail;go_ret;exact⟨rfl,rfl⟩
 ·by_cases h36:k=36
  ·rw[dc_t (by unfold tx;omega)];have g36:=beq1 h36;clear h36;go_enter Tryz.func127,Tryz.ntmps127;go_wp2_with fail;go_ret;exact⟨rfl,rfl⟩
  ·have g36:=bne h36;rw[dc_f (by unfold tx;omega)];clear h36;go_enter Tryz.func127,Tryz.ntmps127;go_wp2_with fail;go_ret;exact⟨rfl,rfl⟩
 ·rw[dc_f (by unfold tx;omega)];go_enter Tryz.func127,Tryz.ntmps127;go_wp2_with fail;go_ret;exact⟨rfl,rfl⟩
theorem im_shs(a:Fv)(vn vk:Value)(h:1<=a.k/\a.k<=16)(w:World):Calls Tryz.prog 100 #[fmv a vn vk] w λe w'=>e=.returned (shv 153 a vn vk)/\Below w.heap.size w w':=by
 have h1:1<=a.k:=h.1;have h2:a.k<=16:=h.2;clear h;unfold fmv shv;go_enter Tryz.func100,Tryz.ntmps100;go_wp2_with fail;go_ret;exact⟨rfl,bel1 _ _⟩
theorem im_she(a:Fv)(vn vk:Value)(h:20<=a.k/\a.k<=37)(w:World):Calls Tryz.prog 100 #[fmv a vn vk] w λe w'=>e=.returned (shv 154 a vn vk)/\Below w.heap.size w w':=by
 have h1:20<=a.k:=h.1;have h2:a.k<=37:=h.2;have n1:¬a.k<=16:=by omega
 have y1:1<=a.k:=by omega
 clear h;unfold fmv shv;go_enter Tryz.func100,Tryz.ntmps100;go_wp2_with fail;go_ret;exact⟨rfl,bel1 _ _⟩
theorem im_sht(a:Fv)(vn vk:Value)(h:40<=a.k/\a.k<=42)(w:World):Calls Tryz.prog 100 #[fmv a vn vk] w λe w'=>e=.returned (shv 155 a vn vk)/\Below w.heap.size w w':=by
 have h1:40<=a.k:=h.1;have h2:a.k<=42:=h.2;have n1:¬a.k<=16:=by omega
 have y1:1<=a.k:=by omega
 have n2:¬a.k<=37:=by omega
 have y2:20<=a.k:=by omega
 clear h;unfold fmv shv;go_enter Tryz.func100,Tryz.ntmps100;go_wp2_with fail;go_ret;exact⟨rfl,bel1 _ _⟩
theorem im_shn(a:Fv)(vn vk:Value)(h:¬(1<=a.k/\a.k<=16)/\¬(20<=a.k/\a.k<=37)/\¬(40<=a.k/\a.k<=42))(w:World):Calls Tryz.prog 100 #[fmv a vn vk] w λe w'=>e=.returned .nilIface/\Below w.heap.size w w':=by
 have h4:a.k<1\/(16<a.k/\a.k<20)\/(37<a.k/\a.k<40)\/42<a.k:=by omega
 clear h;unfold fmv;rcases h4 with g|g|g|g
 ·have n1:¬1<=a.k:=by omega
  have n2:¬20<=a.k:=by omega
  have n3:¬40<=a.k:=by omega
  clear g;go_enter Tryz.func100,Tryz.ntmps100;go_wp2_with fail;go_ret;exact⟨rfl,bel1 _ _⟩
 ·have n1:¬a.k<=16:=by omega
  have n0:1<=a.k:=by omega
  have n2:¬20<=a.k:=by omega
  have n3:¬40<=a.k:=by omega
  clear g;go_enter Tryz.func100,Tryz.ntmps100;go_wp2_with fail;go_ret;exact⟨rfl,bel1 _ _⟩
 ·have n1:¬a.k<=16:=by omega
  have n0:1<=a.k:=by omega
  have n2:¬a.k<=37:=by omega
  have n4:20<=a.k:=by omega
  have n3:¬40<=a.k:=by omega
  clear g;go_enter Tryz.func100,Tryz.ntmps100;go_wp2_with fail;go_ret;exact⟨rfl,bel1 _ _⟩
 ·have n1:¬a.k<=16:=by omega
  have n0:1<=a.k:=by omega
  have n2:¬a.k<=37:=by omega
  have n4:20<=a.k:=by omega
  have n3:¬a.k<=42:=by omega
  have n5:40<=a.k:=by omega
  clear g;go_enter Tryz.func100,Tryz.ntmps100;go_wp2_with fail;go_ret;exact⟨rfl,bel1 _ _⟩
def sdk(k m:Int)(q i:Nat):Int:=
 match k.toNat with
 |1=>0
 |4=>8
 |6=>6
 |16=>6
 |14=>1
 |5=>if(i:Int)<m then 5 else 3
 |7=>if i=0 then 3 else if i=1 then 1 else 2
 |8=>if i+1=q then 1 else 3
 |9=>if i+1=q then 1 else 3
 |10=>if i+1=q then 1 else 3
 |32=>if i=0 then 4 else 3
 |33=>if i=0 then 4 else 3
 |34=>if i=0 then 4 else 3
 |35=>9
 |36=>1
 |37=>7
 |_=>3
theorem im_kids(a:Fv)(vn:Value)(pk:Option Addr)(q ck i:Nat)(h:1<=a.k/\a.k<=16)(hq:q<=1048576)(hi:i<q)(h7:a.k=7->q<=3)(w:World):Calls Tryz.prog 208 #[fmv a vn (.slice pk q ck),.int .i64 i] w λe w'=>e=.returned (.int .i64 (sdk a.k a.m q i))/\Below w.heap.size w w':=by
 obtain⟨k,f,t,l,o,m,x⟩:=a
 have h':k=1\/k=2\/k=3\/k=4\/k=5\/k=6\/k=7\/k=8\/k=9\/k=10\/k=11\/k=12\/k=13\/k=14\/k=15\/k=16:=by
  have h1:1<=k:=h.1;have h2:k<=16:=h.2;omega
 have hqI:(q:Int)<=1048576:=by omega
 have hiI:(i:Int)<(q:Int):=by omega
 clear h hq;unfold fmv;rcases h' with rfl|rfl|rfl|rfl|rfl|rfl|rfl|rfl|rfl|rfl|rfl|rfl|rfl|rfl|rfl|rfl
 ·show Calls Tryz.prog 208 _ w λe w'=>e=.returned (.int .i64 (0))/\Below w.heap.size w w';clear h7 hi;go_enter Tryz.func208,Tryz.ntmps208;go_wp2_with fail;go_ret;exact⟨rfl,bel1 _ _⟩
 ·show Calls Tryz.prog 208 _ w λe w'=>e=.returned (.int .i64 (3))/\Below w.heap.size w w';clear h7 hi;go_enter Tryz.func208,Tryz.ntmps208;go_wp2_with fail;go_ret;exact⟨rfl,bel1 _ _⟩
 ·show Calls Tryz.prog 208 _ w λe w'=>e=.returned (.int .i64 (3))/\Below w.heap.size w w';clear h7 hi;go_enter Tryz.func208,Tryz.ntmps208;go_wp2_with fail;go_ret;exact⟨rfl,bel1 _ _⟩
 ·show Calls Tryz.prog 208 _ w λe w'=>e=.returned (.int .i64 (8))/\Below w.heap.size w w';clear h7 hi;go_enter Tryz.func208,Tryz.ntmps208;go_wp2_with fail;go_ret;exact⟨rfl,bel1 _ _⟩
 ·show Calls Tryz.prog 208 _ w λe w'=>e=.returned (.int .i64 (if(i:Int)<m then 5 else 3))/\Below w.heap.size w w';by_cases g:(i:Int)<m
  ·rw[if_pos g];clear h7 hi;go_enter Tryz.func208,Tryz.ntmps208;go_wp2_with fail;go_ret;exact⟨rfl,bel1 _ _⟩
  ·rw[if_neg g];clear h7 hi;go_enter Tryz.func208,Tryz.ntmps208;go_wp2_with fail;go_ret;exact⟨rfl,bel1 _ _⟩
 ·show Calls Tryz.prog 208 _ w λe w'=>e=.returned (.int .i64 (6))/\Below w.heap.size w w';clear h7 hi;go_enter Tryz.func208,Tryz.ntmps208;go_wp2_with fail;go_ret;exact⟨rfl,bel1 _ _⟩
 ·show Calls Tryz.prog 208 _ w λe w'=>e=.returned (.int .i64 (if i=0 then 3 else if i=1 then 1 else 2))/\Below w.heap.size w w';have hi3:i=0\/i=1\/i=2:=by have:=h7 rfl;omega
  rcases hi3 with rfl|rfl|rfl
  ·show Calls Tryz.prog 208 #[_,.int .i64 0] w λe w'=>e=.returned (.int .i64 3)/\Below w.heap.size w w';clear h7 hi hiI;have hix:∀W,Sem.run Tryz.prog (Instr.index 239 (.agg #[.int .i64 3,.int .i64 1,.int .i64 2]) (.int .i64 0)) W=.ok (.int .i64 3) W:=λW=>by kernel_rfl
   go_enter Tryz.func208,Tryz.ntmps208;go_wp2_with fail;go_ret;exact⟨rfl,bel1 _ _⟩
  ·show Calls Tryz.prog 208 #[_,.int .i64 1] w λe w'=>e=.returned (.int .i64 1)/\Below w.heap.size w w';clear h7 hi hiI;have hix:∀W,Sem.run Tryz.prog (Instr.index 239 (.agg #[.int .i64 3,.int .i64 1,.int .i64 2]) (.int .i64 1)) W=.ok (.int .i64 1) W:=λW=>by kernel_rfl
   go_enter Tryz.func208,Tryz.ntmps208;go_wp2_with fail;go_ret;exact⟨rfl,bel1 _ _⟩
  ·show Calls Tryz.prog 208 #[_,.int .i64 2] w λe w'=>e=.returned (.int .i64 2)/\Below w.heap.size w w';clear h7 hi hiI;have hix:∀W,Sem.run Tryz.prog (Instr.index 239 (.agg #[.int .i64 3,.int .i64 1,.int .i64 2]) (.int .i64 2)) W=.ok (.int .i64 2) W:=λW=>by kernel_rfl
   go_enter Tryz.func208,Tryz.ntmps208;go_wp2_with fail;go_ret;exact⟨rfl,bel1 _ _⟩
 ·show Calls Tryz.prog 208 _ w λe w'=>e=.returned (.int .i64 (if i+1=q then 1 else 3))/\Below w.heap.size w w';by_cases g:i+1=q
  ·rw[if_pos g];have g1:((i:Int)==(q:Int)-1)=true:=beq1 (by omega);clear g;clear h7 hi;go_enter Tryz.func208,Tryz.ntmps208;go_wp2_with fail;go_ret;exact⟨rfl,bel1 _ _⟩
  ·rw[if_neg g];have g1:((i:Int)==(q:Int)-1)=false:=bne (by omega);clear g;clear h7 hi;go_enter Tryz.func208,Tryz.ntmps208;go_wp2_with fail;go_ret;exact⟨rfl,bel1 _ _⟩
 ·show Calls Tryz.prog 208 _ w λe w'=>e=.returned (.int .i64 (if i+1=q then 1 else 3))/\Below w.heap.size w w';by_cases g:i+1=q
  ·rw[if_pos g];have g1:((i:Int)==(q:Int)-1)=true:=beq1 (by omega);clear g;clear h7 hi;go_enter Tryz.func208,Tryz.ntmps208;go_wp2_with fail;go_ret;exact⟨rfl,bel1 _ _⟩
  ·rw[if_neg g];have g1:((i:Int)==(q:Int)-1)=false:=bne (by omega);clear g;clear h7 hi;go_enter Tryz.func208,Tryz.ntmps208;go_wp2_with fail;go_ret;exact⟨rfl,bel1 _ _⟩
 ·show Calls Tryz.prog 208 _ w λe w'=>e=.returned (.int .i64 (if i+1=q then 1 else 3))/\Below w.heap.size w w';by_cases g:i+1=q
  ·rw[if_pos g];have g1:((i:Int)==(q:Int)-1)=true:=beq1 (by omega);clear g;clear h7 hi;go_enter Tryz.func208,Tryz.ntmps208;go_wp2_with fail;go_ret;exact⟨rfl,bel1 _ _⟩
  ·rw[if_neg g];have g1:((i:Int)==(q:Int)-1)=false:=bne (by omega);clear g;clear h7 hi;go_enter Tryz.func208,Tryz.ntmps208;go_wp2_with fail;go_ret;exact⟨rfl,bel1 _ _⟩
 ·show Calls Tryz.prog 208 _ w λe w'=>e=.returned (.int .i64 (3))/\Below w.heap.size w w';clear h7 hi;go_enter Tryz.func208,Tryz.ntmps208;go_wp2_with fail;go_ret;exact⟨rfl,bel1 _ _⟩
 ·show Calls Tryz.prog 208 _ w λe w'=>e=.returned (.int .i64 (3))/\Below w.heap.size w w';clear h7 hi;go_enter Tryz.func208,Tryz.ntmps208;go_wp2_with fail;go_ret;exact⟨rfl,bel1 _ _⟩
 ·show Calls Tryz.prog 208 _ w λe w'=>e=.returned (.int .i64 (3))/\Below w.heap.size w w';clear h7 hi;go_enter Tryz.func208,Tryz.ntmps208;go_wp2_with fail;go_ret;exact⟨rfl,bel1 _ _⟩
 ·show Calls Tryz.prog 208 _ w λe w'=>e=.returned (.int .i64 (1))/\Below w.heap.size w w';clear h7 hi;go_enter Tryz.func208,Tryz.ntmps208;go_wp2_with fail;go_ret;exact⟨rfl,bel1 _ _⟩
 ·show Calls Tryz.prog 208 _ w λe w'=>e=.returned (.int .i64 (3))/\Below w.heap.size w w';clear h7 hi;go_enter Tryz.func208,Tryz.ntmps208;go_wp2_with fail;go_ret;exact⟨rfl,bel1 _ _⟩
 ·show Calls Tryz.prog 208 _ w λe w'=>e=.returned (.int .i64 (6))/\Below w.heap.size w w';clear h7 hi;go_enter Tryz.func208,Tryz.ntmps208;go_wp2_with fail;go_ret;exact⟨rfl,bel1 _ _⟩
theorem im_kide(a:Fv)(vn:Value)(pk:Option Addr)(q ck i:Nat)(h:20<=a.k/\a.k<=37)(hq:q<=1048576)(hi:i<q)(h7:a.k=7->q<=3)(w:World):Calls Tryz.prog 211 #[fmv a vn (.slice pk q ck),.int .i64 i] w λe w'=>e=.returned (.int .i64 (sdk a.k a.m q i))/\Below w.heap.size w w':=by
 obtain⟨k,f,t,l,o,m,x⟩:=a
 have h':k=20\/k=21\/k=22\/k=23\/k=24\/k=25\/k=26\/k=27\/k=28\/k=29\/k=30\/k=31\/k=32\/k=33\/k=34\/k=35\/k=36\/k=37:=by
  have h1:20<=k:=h.1;have h2:k<=37:=h.2;omega
 have hqI:(q:Int)<=1048576:=by omega
 have hiI:(i:Int)<(q:Int):=by omega
 clear h hq;unfold fmv;rcases h' with rfl|rfl|rfl|rfl|rfl|rfl|rfl|rfl|rfl|rfl|rfl|rfl|rfl|rfl|rfl|rfl|rfl|rfl
 ·show Calls Tryz.prog 211 _ w λe w'=>e=.returned (.int .i64 (3))/\Below w.heap.size w w';clear h7 hi;go_enter Tryz.func211,Tryz.ntmps211;go_wp2_with fail;go_ret;exact⟨rfl,bel1 _ _⟩
 ·show Calls Tryz.prog 211 _ w λe w'=>e=.returned (.int .i64 (3))/\Below w.heap.size w w';clear h7 hi;go_enter Tryz.func211,Tryz.ntmps211;go_wp2_with fail;go_ret;exact⟨rfl,bel1 _ _⟩
 ·show Calls Tryz.prog 211 _ w λe w'=>e=.returned (.int .i64 (3))/\Below w.heap.size w w';clear h7 hi;go_enter Tryz.func211,Tryz.ntmps211;go_wp2_with fail;go_ret;exact⟨rfl,bel1 _ _⟩
 ·show Calls Tryz.prog 211 _ w λe w'=>e=.returned (.int .i64 (3))/\Below w.heap.size w w';clear h7 hi;go_enter Tryz.func211,Tryz.ntmps211;go_wp2_with fail;go_ret;exact⟨rfl,bel1 _ _⟩
 ·show Calls Tryz.prog 211 _ w λe w'=>e=.returned (.int .i64 (3))/\Below w.heap.size w w';clear h7 hi;go_enter Tryz.func211,Tryz.ntmps211;go_wp2_with fail;go_ret;exact⟨rfl,bel1 _ _⟩
 ·show Calls Tryz.prog 211 _ w λe w'=>e=.returned (.int .i64 (3))/\Below w.heap.size w w';clear h7 hi;go_enter Tryz.func211,Tryz.ntmps211;go_wp2_with fail;go_ret;exact⟨rfl,bel1 _ _⟩
 ·show Calls Tryz.prog 211 _ w λe w'=>e=.returned (.int .i64 (3))/\Below w.heap.size w w';clear h7 hi;go_enter Tryz.func211,Tryz.ntmps211;go_wp2_with fail;go_ret;exact⟨rfl,bel1 _ _⟩
 ·show Calls Tryz.prog 211 _ w λe w'=>e=.returned (.int .i64 (3))/\Below w.heap.size w w';clear h7 hi;go_enter Tryz.func211,Tryz.ntmps211;go_wp2_with fail;go_ret;exact⟨rfl,bel1 _ _⟩
 ·show Calls Tryz.prog 211 _ w λe w'=>e=.returned (.int .i64 (3))/\Below w.heap.size w w';clear h7 hi;go_enter Tryz.func211,Tryz.ntmps211;go_wp2_with fail;go_ret;exact⟨rfl,bel1 _ _⟩
 ·show Calls Tryz.prog 211 _ w λe w'=>e=.returned (.int .i64 (3))/\Below w.heap.size w w';clear h7 hi;go_enter Tryz.func211,Tryz.ntmps211;go_wp2_with fail;go_ret;exact⟨rfl,bel1 _ _⟩
 ·show Calls Tryz.prog 211 _ w λe w'=>e=.returned (.int .i64 (3))/\Below w.heap.size w w';clear h7 hi;go_enter Tryz.func211,Tryz.ntmps211;go_wp2_with fail;go_ret;exact⟨rfl,bel1 _ _⟩
 ·show Calls Tryz.prog 211 _ w λe w'=>e=.returned (.int .i64 (3))/\Below w.heap.size w w';clear h7 hi;go_enter Tryz.func211,Tryz.ntmps211;go_wp2_with fail;go_ret;exact⟨rfl,bel1 _ _⟩
 ·show Calls Tryz.prog 211 _ w λe w'=>e=.returned (.int .i64 (if i=0 then 4 else 3))/\Below w.heap.size w w';by_cases g:i=0
  ·rw[if_pos g];have g1:((i:Int)==0)=true:=beq1 (by omega);clear g;clear h7 hi;go_enter Tryz.func211,Tryz.ntmps211;go_wp2_with fail;go_ret;exact⟨rfl,bel1 _ _⟩
  ·rw[if_neg g];have g1:((i:Int)==0)=false:=bne (by omega);clear g;clear h7 hi;go_enter Tryz.func211,Tryz.ntmps211;go_wp2_with fail;go_ret;exact⟨rfl,bel1 _ _⟩
 ·show Calls Tryz.prog 211 _ w λe w'=>e=.returned (.int .i64 (if i=0 then 4 else 3))/\Below w.heap.size w w';by_cases g:i=0
  ·rw[if_pos g];have g1:((i:Int)==0)=true:=beq1 (by omega);clear g;clear h7 hi;go_enter Tryz.func211,Tryz.ntmps211;go_wp2_with fail;go_ret;exact⟨rfl,bel1 _ _⟩
  ·rw[if_neg g];have g1:((i:Int)==0)=false:=bne (by omega);clear g;clear h7 hi;go_enter Tryz.func211,Tryz.ntmps211;go_wp2_with fail;go_ret;exact⟨rfl,bel1 _ _⟩
 ·show Calls Tryz.prog 211 _ w λe w'=>e=.returned (.int .i64 (if i=0 then 4 else 3))/\Below w.heap.size w w';by_cases g:i=0
  ·rw[if_pos g];have g1:((i:Int)==0)=true:=beq1 (by omega);clear g;clear h7 hi;go_enter Tryz.func211,Tryz.ntmps211;go_wp2_with fail;go_ret;exact⟨rfl,bel1 _ _⟩
  ·rw[if_neg g];have g1:((i:Int)==0)=false:=bne (by omega);clear g;clear h7 hi;go_enter Tryz.func211,Tryz.ntmps211;go_wp2_with fail;go_ret;exact⟨rfl,bel1 _ _⟩
 ·show Calls Tryz.prog 211 _ w λe w'=>e=.returned (.int .i64 (9))/\Below w.heap.size w w';clear h7 hi;go_enter Tryz.func211,Tryz.ntmps211;go_wp2_with fail;go_ret;exact⟨rfl,bel1 _ _⟩
 ·show Calls Tryz.prog 211 _ w λe w'=>e=.returned (.int .i64 (1))/\Below w.heap.size w w';clear h7 hi;go_enter Tryz.func211,Tryz.ntmps211;go_wp2_with fail;go_ret;exact⟨rfl,bel1 _ _⟩
 ·show Calls Tryz.prog 211 _ w λe w'=>e=.returned (.int .i64 (7))/\Below w.heap.size w w';clear h7 hi;go_enter Tryz.func211,Tryz.ntmps211;go_wp2_with fail;go_ret;exact⟨rfl,bel1 _ _⟩
theorem im_kidt(a:Fv)(vn:Value)(pk:Option Addr)(q ck i:Nat)(h:40<=a.k/\a.k<=42)(hq:q<=1048576)(hi:i<q)(h7:a.k=7->q<=3)(w:World):Calls Tryz.prog 213 #[fmv a vn (.slice pk q ck),.int .i64 i] w λe w'=>e=.returned (.int .i64 (sdk a.k a.m q i))/\Below w.heap.size w w':=by
 obtain⟨k,f,t,l,o,m,x⟩:=a
 have h':k=40\/k=41\/k=42:=by
  have h1:40<=k:=h.1;have h2:k<=42:=h.2;omega
 have hqI:(q:Int)<=1048576:=by omega
 have hiI:(i:Int)<(q:Int):=by omega
 clear h hq;unfold fmv;rcases h' with rfl|rfl|rfl
 ·show Calls Tryz.prog 213 _ w λe w'=>e=.returned (.int .i64 (3))/\Below w.heap.size w w';clear h7 hi;go_enter Tryz.func213,Tryz.ntmps213;go_wp2_with fail;go_ret;exact⟨rfl,bel1 _ _⟩
 ·show Calls Tryz.prog 213 _ w λe w'=>e=.returned (.int .i64 (3))/\Below w.heap.size w w';clear h7 hi;go_enter Tryz.func213,Tryz.ntmps213;go_wp2_with fail;go_ret;exact⟨rfl,bel1 _ _⟩
 ·show Calls Tryz.prog 213 _ w λe w'=>e=.returned (.int .i64 (3))/\Below w.heap.size w w';clear h7 hi;go_enter Tryz.func213,Tryz.ntmps213;go_wp2_with fail;go_ret;exact⟨rfl,bel1 _ _⟩
def tk(s k:Int):Prop:=(1<=k/\k<=16/\(s=0\/(s=1/\k=1)\/(s=2/\(k=1\/k=7))))\/(20<=k/\k<=37/\tx s k)\/(40<=k/\k<=42/\s=9)
theorem ta_ss(v:Value)(W:World):Sem.run Tryz.prog (Instr.typeAssert (.iface 153 v) 129 153 true) W=.ok (.tuple #[v,.bool true]) W:=by kernel_rfl
theorem ta_es(v:Value)(W:World):Sem.run Tryz.prog (Instr.typeAssert (.iface 154 v) 129 153 true) W=.ok (.tuple #[.agg #[.int .i64 0,.int .i64 0,.int .i64 0,.int .i64 0,.int .i64 0,.int .i64 0,.string ⟨#[]⟩,.slice none 0 0,.slice none 0 0],.bool false]) W:=by kernel_rfl
theorem ta_ee(v:Value)(W:World):Sem.run Tryz.prog (Instr.typeAssert (.iface 154 v) 129 154 true) W=.ok (.tuple #[v,.bool true]) W:=by kernel_rfl
theorem ta_ns(v:Value)(W:World):Sem.run Tryz.prog (Instr.typeAssert (.iface 155 v) 129 153 true) W=.ok (.tuple #[.agg #[.int .i64 0,.int .i64 0,.int .i64 0,.int .i64 0,.int .i64 0,.int .i64 0,.string ⟨#[]⟩,.slice none 0 0,.slice none 0 0],.bool false]) W:=by kernel_rfl
theorem ta_ne(v:Value)(W:World):Sem.run Tryz.prog (Instr.typeAssert (.iface 155 v) 129 154 true) W=.ok (.tuple #[.agg #[.int .i64 0,.int .i64 0,.int .i64 0,.int .i64 0,.int .i64 0,.int .i64 0,.string ⟨#[]⟩,.slice none 0 0,.slice none 0 0],.bool false]) W:=by kernel_rfl
theorem ta_nn(v:Value)(W:World):Sem.run Tryz.prog (Instr.typeAssert (.iface 155 v) 129 155 true) W=.ok (.tuple #[v,.bool true]) W:=by kernel_rfl
theorem ta_zs(v:Value)(W:World):Sem.run Tryz.prog (Instr.typeAssert (.nilIface) 129 153 true) W=.ok (.tuple #[.agg #[.int .i64 0,.int .i64 0,.int .i64 0,.int .i64 0,.int .i64 0,.int .i64 0,.string ⟨#[]⟩,.slice none 0 0,.slice none 0 0],.bool false]) W:=by kernel_rfl
theorem ta_ze(v:Value)(W:World):Sem.run Tryz.prog (Instr.typeAssert (.nilIface) 129 154 true) W=.ok (.tuple #[.agg #[.int .i64 0,.int .i64 0,.int .i64 0,.int .i64 0,.int .i64 0,.int .i64 0,.string ⟨#[]⟩,.slice none 0 0,.slice none 0 0],.bool false]) W:=by kernel_rfl
theorem ta_zn(v:Value)(W:World):Sem.run Tryz.prog (Instr.typeAssert (.nilIface) 129 155 true) W=.ok (.tuple #[.agg #[.int .i64 0,.int .i64 0,.int .i64 0,.int .i64 0,.int .i64 0,.int .i64 0,.string ⟨#[]⟩,.slice none 0 0,.slice none 0 0],.bool false]) W:=by kernel_rfl
theorem im_tks(s:Int)(a:Fv)(pn:Option Addr)(p cn:Nat)(pk:Option Addr)(q ck:Nat)(hs:0<=s/\s<=9)(h:1<=a.k/\a.k<=16)(w:World):Calls Tryz.prog 120 #[.int .i64 s,fmv a (.slice pn p cn) (.slice pk q ck)] w λe w'=>e=.returned (.bool (dc (tk s a.k)))/\Below w.heap.size w w':=by
 have HE:Hid (∀W,Calls Tryz.prog 100 #[fmv a (.slice pn p cn) (.slice pk q ck)] W λe w'=>e=.returned (shv 153 a  (.slice pn p cn) (.slice pk q ck))/\Below W.heap.size W w'):=(λW=>im_shs a (.slice pn p cn) (.slice pk q ck) h W:∀W,_)
 obtain⟨R,hR⟩:∃R,R=dc (tk s a.k):=⟨_,rfl⟩
 have HR:Hid (R=dc (tk s a.k)):=hR;rw[<-hR];clear hR;obtain⟨k,f,t,l,o,m,x⟩:=a;obtain⟨W2,hW2⟩:∃W2,W2=w.alloc (.cells #[.int .i64 k,.int .i64 f,.int .i64 t,.int .i64 l,.int .i64 o,.int .i64 m,.string x,.slice pn p cn,.slice pk q ck] 44):=⟨_,rfl⟩
 have HB:Hid (Below w.heap.size w W2):=by show Below w.heap.size w W2;rw[hW2];exact bel1 _ _
 unfold fmv at*;go_enter Tryz.func120,Tryz.ntmps120;go_wp2_with fail;rw[<-hW2];clear hW2;refine((uh HE) W2).mono ?_;rintro e W3 ⟨rfl,b3⟩;have HB3:Hid (Below w.heap.size w W3):=(uh HB).trans (b3.mono (uh HB).size);clear b3 HB HE;have h':1<=k/\k<=16:=h;have HR':Hid (R=dc (tk s k)):=HR;clear h HR;have hc:(s=0)\/(s=1/\k=1)\/(s=1/\k≠1)\/(s=2/\k=1)\/(s=2/\k=7)\/(s=2/\k≠1/\k≠7)\/(s≠0/\s≠1/\s≠2):=by omega
 unfold shv fmv;have ta:=λW=>ta_ss (.agg #[.int .i64 k,.int .i64 f,.int .i64 t,.int .i64 l,.int .i64 o,.int .i64 m,.string x,.slice pn p cn,.slice pk q ck]) W;rcases hc with hc|hc|hc|hc|hc|hc|hc
 ·have HX:Hid (R=true):=(show R=_ from HR').trans (dc_t (by unfold tk tx;omega));have g0:(s==0)=true:=beq1 (by omega);clear hc h' hs HR';go_wp2_with fail;go_ret;exact⟨by rw[show R=_ from HX];rfl,by first|exact HB3|exact(uh HB3).alloc (uh HB3).size _⟩
 ·have HX:Hid (R=true):=(show R=_ from HR').trans (dc_t (by unfold tk tx;omega));have g0:(s==0)=false:=bne (by omega);have g1:(s==1)=true:=beq1 (by omega);have j1:(k==1)=true:=beq1 (by omega);clear hc h' hs HR';go_wp2_with fail;go_ret;exact⟨by rw[show R=_ from HX];rfl,by first|exact HB3|exact(uh HB3).alloc (uh HB3).size _⟩
 ·have HX:Hid (R=false):=(show R=_ from HR').trans (dc_f (by unfold tk tx;omega));have g0:(s==0)=false:=bne (by omega);have g1:(s==1)=true:=beq1 (by omega);have j1:(k==1)=false:=bne (by omega);have g2:(s==2)=false:=bne (by omega);clear hc h' hs HR';go_wp2_with fail;go_ret;exact⟨by rw[show R=_ from HX];rfl,by first|exact HB3|exact(uh HB3).alloc (uh HB3).size _⟩
 ·have HX:Hid (R=true):=(show R=_ from HR').trans (dc_t (by unfold tk tx;omega));have g0:(s==0)=false:=bne (by omega);have g1:(s==1)=false:=bne (by omega);have j1:(k==1)=true:=beq1 (by omega);have g2:(s==2)=true:=beq1 (by omega);clear hc h' hs HR';go_wp2_with fail;go_ret;exact⟨by rw[show R=_ from HX];rfl,by first|exact HB3|exact(uh HB3).alloc (uh HB3).size _⟩
 ·have HX:Hid (R=true):=(show R=_ from HR').trans (dc_t (by unfold tk tx;omega));have g0:(s==0)=false:=bne (by omega);have g1:(s==1)=false:=bne (by omega);have j1:(k==1)=false:=bne (by omega);have g2:(s==2)=true:=beq1 (by omega);have j7:(k==7)=true:=beq1 (by omega);clear hc h' hs HR';go_wp2_with fail;go_ret;exact⟨by rw[show R=_ from HX];rfl,by first|exact HB3|exact(uh HB3).alloc (uh HB3).size _⟩
 ·have HX:Hid (R=false):=(show R=_ from HR').trans (dc_f (by unfold tk tx;omega));have g0:(s==0)=false:=bne (by omega);have g1:(s==1)=false:=bne (by omega);have j1:(k==1)=false:=bne (by omega);have g2:(s==2)=true:=beq1 (by omega);have j7:(k==7)=false:=bne (by omega);clear hc h' hs HR';go_wp2_with fail;go_ret;exact⟨by rw[show R=_ from HX];rfl,by first|exact HB3|exact(uh HB3).alloc (uh HB3).size _⟩
 ·have HX:Hid (R=false):=(show R=_ from HR').trans (dc_f (by unfold tk tx;omega));have g0:(s==0)=false:=bne (by omega);have g1:(s==1)=false:=bne (by omega);have g2:(s==2)=false:=bne (by omega);clear hc h' hs HR';go_wp2_with fail;go_ret;exact⟨by rw[show R=_ from HX];rfl,by first|exact HB3|exact(uh HB3).alloc (uh HB3).size _⟩
theorem im_tke(s:Int)(a:Fv)(pn:Option Addr)(p cn:Nat)(pk:Option Addr)(q ck:Nat)(hs:0<=s/\s<=9)(h:20<=a.k/\a.k<=37)(w:World):Calls Tryz.prog 120 #[.int .i64 s,fmv a (.slice pn p cn) (.slice pk q ck)] w λe w'=>e=.returned (.bool (dc (tk s a.k)))/\Below w.heap.size w w':=by
 have HE:Hid (∀W,Calls Tryz.prog 100 #[fmv a (.slice pn p cn) (.slice pk q ck)] W λe w'=>e=.returned (shv 154 a  (.slice pn p cn) (.slice pk q ck))/\Below W.heap.size W w'):=(λW=>im_she a (.slice pn p cn) (.slice pk q ck) h W:∀W,_)
 have HX:Hid (∀W,Calls Tryz.prog 127 #[.int .i64 s,.int .i64 a.k] W λe w'=>e=.returned (.bool (dc (tk s a.k)))/\w'=W):=(λW=>by rw[show dc (tk s a.k)=dc (tx s a.k)from dc_iff (by unfold tk tx;omega)];exact im_tx s a.k hs W:∀W,_)
 obtain⟨R,hR⟩:∃R,R=dc (tk s a.k):=⟨_,rfl⟩
 rw[<-hR]at HX;rw[<-hR];clear hs h hR;obtain⟨k,f,t,l,o,m,x⟩:=a;obtain⟨W2,hW2⟩:∃W2,W2=w.alloc (.cells #[.int .i64 k,.int .i64 f,.int .i64 t,.int .i64 l,.int .i64 o,.int .i64 m,.string x,.slice pn p cn,.slice pk q ck] 44):=⟨_,rfl⟩
 have HB:Hid (Below w.heap.size w W2):=by show Below w.heap.size w W2;rw[hW2];exact bel1 _ _
 unfold fmv at*;go_enter Tryz.func120,Tryz.ntmps120;go_wp2_with fail;rw[<-hW2];clear hW2;refine((uh HE) W2).mono ?_;rintro e W3 ⟨rfl,b3⟩;have HB3:Hid (Below w.heap.size w W3):=(uh HB).trans (b3.mono (uh HB).size);clear b3 HB HE;unfold shv fmv;have ta:=λW=>ta_es (.agg #[.int .i64 k,.int .i64 f,.int .i64 t,.int .i64 l,.int .i64 o,.int .i64 m,.string x,.slice pn p cn,.slice pk q ck]) W;have tb:=λW=>ta_ee (.agg #[.int .i64 k,.int .i64 f,.int .i64 t,.int .i64 l,.int .i64 o,.int .i64 m,.string x,.slice pn p cn,.slice pk q ck]) W;go_wp2_with fail;refine((uh HX) _).mono ?_;rintro e W4 ⟨rfl,rfl⟩;clear HX ta tb;go_wp2_with fail;go_ret;exact⟨rfl,(uh HB3).alloc (uh HB3).size _⟩
theorem im_tkt(s:Int)(a:Fv)(pn:Option Addr)(p cn:Nat)(pk:Option Addr)(q ck:Nat)(hs:0<=s/\s<=9)(h:40<=a.k/\a.k<=42)(w:World):Calls Tryz.prog 120 #[.int .i64 s,fmv a (.slice pn p cn) (.slice pk q ck)] w λe w'=>e=.returned (.bool (dc (tk s a.k)))/\Below w.heap.size w w':=by
 have HE:Hid (∀W,Calls Tryz.prog 100 #[fmv a (.slice pn p cn) (.slice pk q ck)] W λe w'=>e=.returned (shv 155 a  (.slice pn p cn) (.slice pk q ck))/\Below W.heap.size W w'):=(λW=>im_sht a (.slice pn p cn) (.slice pk q ck) h W:∀W,_)
 obtain⟨R,hR⟩:∃R,R=dc (tk s a.k):=⟨_,rfl⟩
 have HR:Hid (R=dc (tk s a.k)):=hR;rw[<-hR];clear hR;obtain⟨k,f,t,l,o,m,x⟩:=a;obtain⟨W2,hW2⟩:∃W2,W2=w.alloc (.cells #[.int .i64 k,.int .i64 f,.int .i64 t,.int .i64 l,.int .i64 o,.int .i64 m,.string x,.slice pn p cn,.slice pk q ck] 44):=⟨_,rfl⟩
 have HB:Hid (Below w.heap.size w W2):=by show Below w.heap.size w W2;rw[hW2];exact bel1 _ _
 unfold fmv at*;go_enter Tryz.func120,Tryz.ntmps120;go_wp2_with fail;rw[<-hW2];clear hW2;refine((uh HE) W2).mono ?_;rintro e W3 ⟨rfl,b3⟩;have HB3:Hid (Below w.heap.size w W3):=(uh HB).trans (b3.mono (uh HB).size);clear b3 HB HE;have h':40<=k/\k<=42:=h;have HR':Hid (R=dc (tk s k)):=HR;clear h HR;unfold shv fmv;have ta:=λW=>ta_ns (.agg #[.int .i64 k,.int .i64 f,.int .i64 t,.int .i64 l,.int .i64 o,.int .i64 m,.string x,.slice pn p cn,.slice pk q ck]) W;have tb:=λW=>ta_ne (.agg #[.int .i64 k,.int .i64 f,.int .i64 t,.int .i64 l,.int .i64 o,.int .i64 m,.string x,.slice pn p cn,.slice pk q ck]) W;have tc:=λW=>ta_nn (.agg #[.int .i64 k,.int .i64 f,.int .i64 t,.int .i64 l,.int .i64 o,.int .i64 m,.string x,.slice pn p cn,.slice pk q ck]) W;rcases Classical.em (s=9)with hc|hc
 ·have HX:Hid (R=true):=(show R=_ from HR').trans (dc_t (by unfold tk tx;omega));have g0:(s==9)=true:=beq1 hc;clear hc h' hs HR';go_wp2_with fail;go_ret;exact⟨by rw[show R=_ from HX];rfl,by first|exact HB3|exact(uh HB3).alloc (uh HB3).size _⟩
 ·have HX:Hid (R=false):=(show R=_ from HR').trans (dc_f (by unfold tk tx;omega));have g0:(s==9)=false:=bne hc;clear hc h' hs HR';go_wp2_with fail;go_ret;exact⟨by rw[show R=_ from HX];rfl,by first|exact HB3|exact(uh HB3).alloc (uh HB3).size _⟩
theorem im_tkn(s:Int)(a:Fv)(pn:Option Addr)(p cn:Nat)(pk:Option Addr)(q ck:Nat)(hs:0<=s/\s<=9)(h:¬(1<=a.k/\a.k<=16)/\¬(20<=a.k/\a.k<=37)/\¬(40<=a.k/\a.k<=42))(w:World):Calls Tryz.prog 120 #[.int .i64 s,fmv a (.slice pn p cn) (.slice pk q ck)] w λe w'=>e=.returned (.bool (dc (tk s a.k)))/\Below w.heap.size w w':=by
 have HE:Hid (∀W,Calls Tryz.prog 100 #[fmv a (.slice pn p cn) (.slice pk q ck)] W λe w'=>e=.returned (.nilIface)/\Below W.heap.size W w'):=(λW=>im_shn a (.slice pn p cn) (.slice pk q ck) h W:∀W,_)
 obtain⟨R,hR⟩:∃R,R=dc (tk s a.k):=⟨_,rfl⟩
 have HR:Hid (R=dc (tk s a.k)):=hR;rw[<-hR];clear hR;obtain⟨k,f,t,l,o,m,x⟩:=a;obtain⟨W2,hW2⟩:∃W2,W2=w.alloc (.cells #[.int .i64 k,.int .i64 f,.int .i64 t,.int .i64 l,.int .i64 o,.int .i64 m,.string x,.slice pn p cn,.slice pk q ck] 44):=⟨_,rfl⟩
 have HB:Hid (Below w.heap.size w W2):=by show Below w.heap.size w W2;rw[hW2];exact bel1 _ _
 unfold fmv at*;go_enter Tryz.func120,Tryz.ntmps120;go_wp2_with fail;rw[<-hW2];clear hW2;refine((uh HE) W2).mono ?_;rintro e W3 ⟨rfl,b3⟩;have HB3:Hid (Below w.heap.size w W3):=(uh HB).trans (b3.mono (uh HB).size);clear b3 HB HE;have h':¬(1<=k/\k<=16)/\¬(20<=k/\k<=37)/\¬(40<=k/\k<=42):=h;have HX:Hid (R=false):=(uh HR).trans (dc_f (by unfold tk;omega));clear h HR h' hs;have ta:=λW=>ta_zs .nilIface W;have tb:=λW=>ta_ze .nilIface W;have tc:=λW=>ta_zn .nilIface W;go_wp2_with fail;go_ret;exact⟨by rw[show R=_ from HX];rfl,by first|exact HB3|exact(uh HB3).alloc (uh HB3).size _⟩
theorem im_tk(s:Int)(a:Fv)(pn:Option Addr)(p cn:Nat)(pk:Option Addr)(q ck:Nat)(hs:0<=s/\s<=9)(w:World):Calls Tryz.prog 120 #[.int .i64 s,fmv a (.slice pn p cn) (.slice pk q ck)] w λe w'=>e=.returned (.bool (dc (tk s a.k)))/\Below w.heap.size w w':=by
 by_cases h1:1<=a.k/\a.k<=16
 ·exact im_tks s a pn p cn pk q ck hs h1 w
 ·by_cases h2:20<=a.k/\a.k<=37
  ·exact im_tke s a pn p cn pk q ck hs h2 w
  ·by_cases h3:40<=a.k/\a.k<=42
   ·exact im_tkt s a pn p cn pk q ck hs h3 w
   ·exact im_tkn s a pn p cn pk q ck hs ⟨h1,h2,h3⟩ w
