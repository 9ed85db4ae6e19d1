import Derived.Test.YtohbcpfjjimdnaaGreatDoorMZsq
import Derived.Test.YtohbcpfjjimdnaaGreatDoorMFlt
import Derived.Handy
set_option maxRecDepth 100000
set_option maxHeartbeats 4000000
namespace Go.Proofs.YtohbcpfjjimdnaaGreatDoor
open Go.ChangeShapes Go.WideShapes Go.ChangeAt Go.RowKit
set_option linter.unusedVariables false
set_option maxRecDepth 100000
variable {a w:World}{p:Prop}
theorem Grown.trans{b c:World}(h:Grown a b)(g:Grown b c):Grown a c:=
 ⟨World.keptBut_trans h.1 g.1,λx=>(g.2.1 x).trans (h.2.1 x),Nat.le_trans h.2.2 g.2.2⟩
theorem quo_run{x r:Nat}(h:floatBits .quo .f64 4607182418800017408 x=some r)(w:World):(binOp .quo 149 (.float .f64 4607182418800017408) (.float .f64 x)).run Tryz.prog w=.ok (.float .f64 r) w:=
 run_float_arith w .quo 149 .f64 _ _ _ h
noncomputable def dc(p:Prop):Bool:=@decide p (Classical.propDecidable p)
theorem dc_t(h:p):dc p=true:=@decide_eq_true p (Classical.propDecidable p) h
theorem dc_f(h:¬p):dc p=false:=@decide_eq_false p (Classical.propDecidable p) h
structure Vv where
 k:Int
 m:Int
 g:Nat
 x:ByteArray
 r:Int
def vv(v:Vv):Value:=.agg #[.int .i64 v.k,.int .i64 v.m,.float .f64 v.g,.string v.x,.int .i64 v.r]
def fz(g:Nat):Prop:=FloatKind.f64.format.order g 0=some .eq
def zr(v:Vv)(b1 b2 b3 b4:Bool):Prop:=(b1=true\/v.m=0)/\(b2=true\/fz v.g)/\(b3=true\/v.x.toList=[])/\(b4=true\/v.r=0)
theorem run_equalIn_flt(d:Nat)(a b:Nat)(w:World):(Op.equalIn (d+1) 149 (.float .f64 a) (.float .f64 b)).run Tryz.prog w=.ok (FloatKind.f64.format.order a b==some .eq) w:=by
 simp[Op.equalIn,run_underlying Tryz.underlying149,Op.floatEq]
theorem grown_block(h:Grown a w){i:Nat}(hi:i<a.heap.size):w.heap[i]? =a.heap[i]?:=by
 have h:=h.1.2.2 i hi;generalize a.heap[i]? =o at h⊢;generalize w.heap[i]? =o' at h⊢;split at h
 ·obtain⟨rfl,rfl,g1,g2⟩:=h
  congr 2
  apply Array.ext
  ·exact g1
  ·intro j l1 l2;have:=g2 j (λf=>f);rw[Array.getElem?_eq_getElem l1,Array.getElem?_eq_getElem l2]at this;exact Option.some.inj this
 ·rcases h with h|⟨rfl,rfl⟩
  ·exact h.elim
  ·rfl
 ·exact h
structure Vc (w:World) (B:Nat) (v:Vv):Prop where
 c0:w.cell? ⟨B,0,none⟩=some (.int .i64 v.k)
 c1:w.cell? ⟨B,1,none⟩=some (.int .i64 v.m)
 c2:w.cell? ⟨B,2,none⟩=some (.float .f64 v.g)
 c3:w.cell? ⟨B,3,none⟩=some (.string v.x)
 c4:w.cell? ⟨B,4,none⟩=some (.int .i64 v.r)
theorem Vc.new(w:World)(k m:Int)(g:Nat)(x:ByteArray)(r:Int)(t:TypeId):Vc (w.alloc (.cells #[.int .i64 k,.int .i64 m,.float .f64 g,.string x,.int .i64 r] t)) w.heap.size ⟨k,m,g,x,r⟩:=by
 constructor<;>(rw[World.cell?_alloc_at _ _ _ _ rfl];rfl)
theorem Vc.grown{B:Nat}{v:Vv}(h:Vc a B v)(g:Grown a w):Vc w B v:=by
 have hl:B<a.heap.size:=by
  have:=h.c0;unfold World.cell? at this;cases hh:a.heap[B]? with
  |none=>simp[hh]at this
  |some o=>exact(Array.getElem?_eq_some_iff.1 hh).1
 have e:∀j,w.cell? ⟨B,j,none⟩=a.cell? ⟨B,j,none⟩:=λj=>World.cell?_of_block (grown_block g hl);exact⟨(e _).trans h.c0,(e _).trans h.c1,(e _).trans h.c2,(e _).trans h.c3,(e _).trans h.c4⟩
theorem sp_zero_ffff(v:Vv)(w:World):Calls Tryz.prog 144 #[vv v,.bool false,.bool false,.bool false,.bool false] w λe w'=>e=.returned (.bool (dc (zr v false false false false)))/\Grown w w':=by
 obtain⟨k,m,g,x,r⟩:=v;unfold vv zr fz;dsimp only;by_cases hm:m=0
 case neg=>
  rw[dc_f (by simp[hm])];go_enter Tryz.func144,Tryz.ntmps144;go_wp2_with fail;go_ret;exact⟨by first|rfl|simp[hm],by go_grown⟩
 by_cases hg:FloatKind.f64.format.order g 0=some .eq
 case neg=>
  rw[dc_f (by simp[hg])];go_enter Tryz.func144,Tryz.ntmps144;go_wp2_with fail;go_ret;exact⟨by first|rfl|simp[hg],by go_grown⟩
 by_cases hx:x.toList=[]
 case neg=>
  rw[dc_f (by simp[hx])];go_enter Tryz.func144,Tryz.ntmps144;go_wp2_with fail;go_ret;exact⟨by first|rfl|simp[hx],by go_grown⟩
 by_cases hr:r=0
 case neg=>
  rw[dc_f (by simp[hr])];go_enter Tryz.func144,Tryz.ntmps144;go_wp2_with fail;go_ret;exact⟨by first|rfl|simp[hr],by go_grown⟩
 rw[dc_t (by simp[hm,hg,hx,hr])];go_enter Tryz.func144,Tryz.ntmps144;go_wp2_with fail;go_ret;exact⟨by first|rfl|simp[hm,hg,hx,hr],by go_grown⟩
theorem sp_zero_tfff(v:Vv)(w:World):Calls Tryz.prog 144 #[vv v,.bool true,.bool false,.bool false,.bool false] w λe w'=>e=.returned (.bool (dc (zr v true false false false)))/\Grown w w':=by
 obtain⟨k,m,g,x,r⟩:=v;unfold vv zr fz;dsimp only;by_cases hg:FloatKind.f64.format.order g 0=some .eq
 case neg=>
  rw[dc_f (by simp[hg])];go_enter Tryz.func144,Tryz.ntmps144;go_wp2_with fail;go_ret;exact⟨by first|rfl|simp[hg],by go_grown⟩
 by_cases hx:x.toList=[]
 case neg=>
  rw[dc_f (by simp[hx])];go_enter Tryz.func144,Tryz.ntmps144;go_wp2_with fail;go_ret;exact⟨by first|rfl|simp[hx],by go_grown⟩
 by_cases hr:r=0
 case neg=>
  rw[dc_f (by simp[hr])];go_enter Tryz.func144,Tryz.ntmps144;go_wp2_with fail;go_ret;exact⟨by first|rfl|simp[hr],by go_grown⟩
 rw[dc_t (by simp[hg,hx,hr])];go_enter Tryz.func144,Tryz.ntmps144;go_wp2_with fail;go_ret;exact⟨by first|rfl|simp[hg,hx,hr],by go_grown⟩
theorem sp_zero_ftff(v:Vv)(w:World):Calls Tryz.prog 144 #[vv v,.bool false,.bool true,.bool false,.bool false] w λe w'=>e=.returned (.bool (dc (zr v false true false false)))/\Grown w w':=by
 obtain⟨k,m,g,x,r⟩:=v;unfold vv zr fz;dsimp only;by_cases hm:m=0
 case neg=>
  rw[dc_f (by simp[hm])];go_enter Tryz.func144,Tryz.ntmps144;go_wp2_with fail;go_ret;exact⟨by first|rfl|simp[hm],by go_grown⟩
 by_cases hx:x.toList=[]
 case neg=>
  rw[dc_f (by simp[hx])];go_enter Tryz.func144,Tryz.ntmps144;go_wp2_with fail;go_ret;exact⟨by first|rfl|simp[hx],by go_grown⟩
 by_cases hr:r=0
 case neg=>
  rw[dc_f (by simp[hr])];go_enter Tryz.func144,Tryz.ntmps144;go_wp2_with fail;go_ret;exact⟨by first|rfl|simp[hr],by go_grown⟩
 rw[dc_t (by simp[hm,hx,hr])];go_enter Tryz.func144,Tryz.ntmps144;go_wp2_with fail;go_ret;exact⟨by first|rfl|simp[hm,hx,hr],by go_grown⟩
theorem sp_zero_fftf(v:Vv)(w:World):Calls Tryz.prog 144 #[vv v,.bool false,.bool false,.bool true,.bool false] w λe w'=>e=.returned (.bool (dc (zr v false false true false)))/\Grown w w':=by
 obtain⟨k,m,g,x,r⟩:=v;unfold vv zr fz;dsimp only;by_cases hm:m=0
 case neg=>
  rw[dc_f (by simp[hm])];go_enter Tryz.func144,Tryz.ntmps144;go_wp2_with fail;go_ret;exact⟨by first|rfl|simp[hm],by go_grown⟩
 by_cases hg:FloatKind.f64.format.order g 0=some .eq
 case neg=>
  rw[dc_f (by simp[hg])];go_enter Tryz.func144,Tryz.ntmps144;go_wp2_with fail;go_ret;exact⟨by first|rfl|simp[hg],by go_grown⟩
 by_cases hr:r=0
 case neg=>
  rw[dc_f (by simp[hr])];go_enter Tryz.func144,Tryz.ntmps144;go_wp2_with fail;go_ret;exact⟨by first|rfl|simp[hr],by go_grown⟩
 rw[dc_t (by simp[hm,hg,hr])];go_enter Tryz.func144,Tryz.ntmps144;go_wp2_with fail;go_ret;exact⟨by first|rfl|simp[hm,hg,hr],by go_grown⟩
theorem sp_zero_ffft(v:Vv)(w:World):Calls Tryz.prog 144 #[vv v,.bool false,.bool false,.bool false,.bool true] w λe w'=>e=.returned (.bool (dc (zr v false false false true)))/\Grown w w':=by
 obtain⟨k,m,g,x,r⟩:=v;unfold vv zr fz;dsimp only;by_cases hm:m=0
 case neg=>
  rw[dc_f (by simp[hm])];go_enter Tryz.func144,Tryz.ntmps144;go_wp2_with fail;go_ret;exact⟨by first|rfl|simp[hm],by go_grown⟩
 by_cases hg:FloatKind.f64.format.order g 0=some .eq
 case neg=>
  rw[dc_f (by simp[hg])];go_enter Tryz.func144,Tryz.ntmps144;go_wp2_with fail;go_ret;exact⟨by first|rfl|simp[hg],by go_grown⟩
 by_cases hx:x.toList=[]
 case neg=>
  rw[dc_f (by simp[hx])];go_enter Tryz.func144,Tryz.ntmps144;go_wp2_with fail;go_ret;exact⟨by first|rfl|simp[hx],by go_grown⟩
 rw[dc_t (by simp[hm,hg,hx])];go_enter Tryz.func144,Tryz.ntmps144;go_wp2_with fail;go_ret;exact⟨by first|rfl|simp[hm,hg,hx],by go_grown⟩
def vok(v:Vv):Prop:=(v.k=0/\zr v false false false false/\True)\/(v.k=1/\zr v true false false false/\(v.m=0\/v.m=1))\/(v.k=2/\zr v true false false false/\True)\/(v.k=3/\zr v false true false false/\True)\/(v.k=4/\zr v false false true false/\v.x.size<=4000)\/(v.k=5/\zr v false false false true/\0<=v.r)\/(v.k=6/\zr v false false false true/\0<=v.r)\/(v.k=7/\zr v false false false true/\0<=v.r)\/(v.k=8/\zr v true false false false/\(0<=v.m/\v.m<15))
theorem vok0{v:Vv}(h:v.k=0):vok v↔(zr v false false false false/\True):=by
 unfold vok;rw[h]
 simp
theorem vok1{v:Vv}(h:v.k=1):vok v↔(zr v true false false false/\(v.m=0\/v.m=1)):=by
 unfold vok;rw[h]
 simp
theorem vok2{v:Vv}(h:v.k=2):vok v↔(zr v true false false false/\True):=by
 unfold vok;rw[h]
 simp
theorem vok3{v:Vv}(h:v.k=3):vok v↔(zr v false true false false/\True):=by
 unfold vok;rw[h]
 simp
theorem vok4{v:Vv}(h:v.k=4):vok v↔(zr v false false true false/\v.x.size<=4000):=by
 unfold vok;rw[h]
 simp
theorem vok5{v:Vv}(h:v.k=5):vok v↔(zr v false false false true/\0<=v.r):=by
 unfold vok;rw[h]
 simp
theorem vok6{v:Vv}(h:v.k=6):vok v↔(zr v false false false true/\0<=v.r):=by
 unfold vok;rw[h]
 simp
theorem vok7{v:Vv}(h:v.k=7):vok v↔(zr v false false false true/\0<=v.r):=by
 unfold vok;rw[h]
 simp
theorem vok8{v:Vv}(h:v.k=8):vok v↔(zr v true false false false/\(0<=v.m/\v.m<15)):=by
 unfold vok;rw[h]
 simp
theorem vokx{v:Vv}(h:¬(v.k=0\/v.k=1\/v.k=2\/v.k=3\/v.k=4\/v.k=5\/v.k=6\/v.k=7\/v.k=8)):¬vok v:=by
 unfold vok;rintro(h1|h1|h1|h1|h1|h1|h1|h1|h1)<;>(have:=h1.1;omega)
attribute [local go_sem] run_equalIn_flt
theorem sp_okx(v:Vv)(hk:¬(v.k=0\/v.k=1\/v.k=2\/v.k=3\/v.k=4\/v.k=5\/v.k=6\/v.k=7\/v.k=8))(w:World):Calls Tryz.prog 130 #[vv v] w λe w'=>e=.returned (.bool (dc (vok v)))/\Grown w w':=by
 rw[dc_f (vokx hk)];obtain⟨k,m,g,x,r⟩:=v;unfold vv;dsimp only at hk⊢;have n0:¬k=0:=by omega
 have n1:¬k=1:=by omega
 have n2:¬k=2:=by omega
 have n3:¬k=3:=by omega
 have n4:¬k=4:=by omega
 have n5:¬k=5:=by omega
 have n6:¬k=6:=by omega
 have n7:¬k=7:=by omega
 have n8:¬k=8:=by omega
 clear hk;have hst:=hst0;go_enter Tryz.func130,Tryz.ntmps130;go_wp2_with fail;go_ret;exact⟨rfl,by go_grown⟩
theorem sp_ok0(v:Vv)(hk:v.k=0)(hx:(v.x.size:Int)<=1048576)(w:World):Calls Tryz.prog 130 #[vv v] w λe w'=>e=.returned (.bool (dc (vok v)))/\Grown w w':=by
 have hv:=vok0 hk;have hz:=λw=>sp_zero_ffff v w;by_cases p:zr v false false false false
 case neg=>
  rw[dc_f p]at hz;rw[dc_f (λh=>p (hv.1 h).1)];obtain⟨k,m,g,x,r⟩:=v;unfold vv at hz⊢;dsimp only at hk hx hz⊢;subst hk;clear hv p;have hst:=hst0;go_enter Tryz.func130,Tryz.ntmps130;go_wp2_with (go_at_call 144;refine(hz _).mono ?_;rintro e w1 ⟨rfl,g1⟩;obtain⟨c0,c1,c2,c3,c4⟩:=(Vc.new w _ _ _ _ _ _).grown g1);go_ret;exact⟨by first|rfl|simp[*],by first|exact g1|(refine Grown.trans ?_ g1;go_grown)|go_grown⟩
 rw[dc_t p]at hz;rw[dc_t (hv.2 ⟨p,trivial⟩)];obtain⟨k,m,g,x,r⟩:=v;unfold vv at hz⊢;dsimp only at hk hx hz⊢;subst hk;clear hv p;have hst:=hst0;go_enter Tryz.func130,Tryz.ntmps130;go_wp2_with (go_at_call 144;refine(hz _).mono ?_;rintro e w1 ⟨rfl,g1⟩;obtain⟨c0,c1,c2,c3,c4⟩:=(Vc.new w _ _ _ _ _ _).grown g1);go_ret;exact⟨by first|rfl|simp[*],by first|exact g1|(refine Grown.trans ?_ g1;go_grown)|go_grown⟩
theorem sp_ok1(v:Vv)(hk:v.k=1)(hx:(v.x.size:Int)<=1048576)(w:World):Calls Tryz.prog 130 #[vv v] w λe w'=>e=.returned (.bool (dc (vok v)))/\Grown w w':=by
 have hv:=vok1 hk;have hz:=λw=>sp_zero_tfff v w;by_cases q1:v.m=0
 case pos=>
  by_cases p:zr v true false false false
  case neg=>
   rw[dc_f p]at hz;rw[dc_f (λh=>p (hv.1 h).1)];obtain⟨k,m,g,x,r⟩:=v;unfold vv at hz⊢;dsimp only at hk hx hz q1⊢;subst q1;subst hk;clear hv p;have hst:=hst0;go_enter Tryz.func130,Tryz.ntmps130;go_wp2_with (go_at_call 144;refine(hz _).mono ?_;rintro e w1 ⟨rfl,g1⟩;obtain⟨c0,c1,c2,c3,c4⟩:=(Vc.new w _ _ _ _ _ _).grown g1);go_ret;exact⟨by first|rfl|simp[*],by first|exact g1|(refine Grown.trans ?_ g1;go_grown)|go_grown⟩
  rw[dc_t p]at hz;rw[dc_t (hv.2 ⟨p,.inl q1⟩)];obtain⟨k,m,g,x,r⟩:=v;unfold vv at hz⊢;dsimp only at hk hx hz q1⊢;subst q1;subst hk;clear hv p;have hst:=hst0;go_enter Tryz.func130,Tryz.ntmps130;go_wp2_with (go_at_call 144;refine(hz _).mono ?_;rintro e w1 ⟨rfl,g1⟩;obtain⟨c0,c1,c2,c3,c4⟩:=(Vc.new w _ _ _ _ _ _).grown g1);go_ret;exact⟨by first|rfl|simp[*],by first|exact g1|(refine Grown.trans ?_ g1;go_grown)|go_grown⟩
 by_cases q2:v.m=1
 case pos=>
  by_cases p:zr v true false false false
  case neg=>
   rw[dc_f p]at hz;rw[dc_f (λh=>p (hv.1 h).1)];obtain⟨k,m,g,x,r⟩:=v;unfold vv at hz⊢;dsimp only at hk hx hz q1 q2⊢;subst q2;subst hk;clear hv p;have hst:=hst0;go_enter Tryz.func130,Tryz.ntmps130;go_wp2_with (go_at_call 144;refine(hz _).mono ?_;rintro e w1 ⟨rfl,g1⟩;obtain⟨c0,c1,c2,c3,c4⟩:=(Vc.new w _ _ _ _ _ _).grown g1);go_ret;exact⟨by first|rfl|simp[*],by first|exact g1|(refine Grown.trans ?_ g1;go_grown)|go_grown⟩
  rw[dc_t p]at hz;rw[dc_t (hv.2 ⟨p,.inr q2⟩)];obtain⟨k,m,g,x,r⟩:=v;unfold vv at hz⊢;dsimp only at hk hx hz q1 q2⊢;subst q2;subst hk;clear hv p;have hst:=hst0;go_enter Tryz.func130,Tryz.ntmps130;go_wp2_with (go_at_call 144;refine(hz _).mono ?_;rintro e w1 ⟨rfl,g1⟩;obtain⟨c0,c1,c2,c3,c4⟩:=(Vc.new w _ _ _ _ _ _).grown g1);go_ret;exact⟨by first|rfl|simp[*],by first|exact g1|(refine Grown.trans ?_ g1;go_grown)|go_grown⟩
 by_cases p:zr v true false false false
 case neg=>
  rw[dc_f p]at hz;rw[dc_f (λh=>p (hv.1 h).1)];obtain⟨k,m,g,x,r⟩:=v;unfold vv at hz⊢;dsimp only at hk hx hz q1 q2⊢;subst hk;clear hv p;have hst:=hst0;go_enter Tryz.func130,Tryz.ntmps130;go_wp2_with (go_at_call 144;refine(hz _).mono ?_;rintro e w1 ⟨rfl,g1⟩;obtain⟨c0,c1,c2,c3,c4⟩:=(Vc.new w _ _ _ _ _ _).grown g1);go_ret;exact⟨by first|rfl|simp[*],by first|exact g1|(refine Grown.trans ?_ g1;go_grown)|go_grown⟩
 rw[dc_t p]at hz;rw[dc_f (λh=>(hv.1 h).2.elim q1 q2)];obtain⟨k,m,g,x,r⟩:=v;unfold vv at hz⊢;dsimp only at hk hx hz q1 q2⊢;subst hk;clear hv p;have hst:=hst0;go_enter Tryz.func130,Tryz.ntmps130;go_wp2_with (go_at_call 144;refine(hz _).mono ?_;rintro e w1 ⟨rfl,g1⟩;obtain⟨c0,c1,c2,c3,c4⟩:=(Vc.new w _ _ _ _ _ _).grown g1);go_ret;exact⟨by first|rfl|simp[*],by first|exact g1|(refine Grown.trans ?_ g1;go_grown)|go_grown⟩
theorem sp_ok2(v:Vv)(hk:v.k=2)(hx:(v.x.size:Int)<=1048576)(w:World):Calls Tryz.prog 130 #[vv v] w λe w'=>e=.returned (.bool (dc (vok v)))/\Grown w w':=by
 have hv:=vok2 hk;have hz:=λw=>sp_zero_tfff v w;by_cases p:zr v true false false false
 case neg=>
  rw[dc_f p]at hz;rw[dc_f (λh=>p (hv.1 h).1)];obtain⟨k,m,g,x,r⟩:=v;unfold vv at hz⊢;dsimp only at hk hx hz⊢;subst hk;clear hv p;have hst:=hst0;go_enter Tryz.func130,Tryz.ntmps130;go_wp2_with (go_at_call 144;refine(hz _).mono ?_;rintro e w1 ⟨rfl,g1⟩;obtain⟨c0,c1,c2,c3,c4⟩:=(Vc.new w _ _ _ _ _ _).grown g1);go_ret;exact⟨by first|rfl|simp[*],by first|exact g1|(refine Grown.trans ?_ g1;go_grown)|go_grown⟩
 rw[dc_t p]at hz;rw[dc_t (hv.2 ⟨p,trivial⟩)];obtain⟨k,m,g,x,r⟩:=v;unfold vv at hz⊢;dsimp only at hk hx hz⊢;subst hk;clear hv p;have hst:=hst0;go_enter Tryz.func130,Tryz.ntmps130;go_wp2_with (go_at_call 144;refine(hz _).mono ?_;rintro e w1 ⟨rfl,g1⟩;obtain⟨c0,c1,c2,c3,c4⟩:=(Vc.new w _ _ _ _ _ _).grown g1);go_ret;exact⟨by first|rfl|simp[*],by first|exact g1|(refine Grown.trans ?_ g1;go_grown)|go_grown⟩
attribute [local go_sem] run_equalIn_flt
theorem sp_ok3(v:Vv)(hk:v.k=3)(hx:(v.x.size:Int)<=1048576)(w:World):Calls Tryz.prog 130 #[vv v] w λe w'=>e=.returned (.bool (dc (vok v)))/\Grown w w':=by
 have hv:=vok3 hk;have hz:=λw=>sp_zero_ftff v w;by_cases p:zr v false true false false
 case neg=>
  rw[dc_f p]at hz;rw[dc_f (λh=>p (hv.1 h).1)];obtain⟨k,m,g,x,r⟩:=v;unfold vv at hz⊢;dsimp only at hk hx hz⊢;subst hk;clear hv p;have hst:=hst0;go_enter Tryz.func130,Tryz.ntmps130;go_wp2_with (go_at_call 144;refine(hz _).mono ?_;rintro e w1 ⟨rfl,g1⟩;obtain⟨c0,c1,c2,c3,c4⟩:=(Vc.new w _ _ _ _ _ _).grown g1);go_ret;exact⟨by first|rfl|simp[*],by first|exact g1|(refine Grown.trans ?_ g1;go_grown)|go_grown⟩
 rw[dc_t p]at hz;rw[dc_t (hv.2 ⟨p,trivial⟩)];obtain⟨k,m,g,x,r⟩:=v;unfold vv at hz⊢;dsimp only at hk hx hz⊢;subst hk;clear hv p;have hst:=hst0;go_enter Tryz.func130,Tryz.ntmps130;go_wp2_with (go_at_call 144;refine(hz _).mono ?_;rintro e w1 ⟨rfl,g1⟩;obtain⟨c0,c1,c2,c3,c4⟩:=(Vc.new w _ _ _ _ _ _).grown g1);go_ret;exact⟨by first|rfl|simp[*],by first|exact g1|(refine Grown.trans ?_ g1;go_grown)|go_grown⟩
theorem sp_ok4(v:Vv)(hk:v.k=4)(hx:(v.x.size:Int)<=1048576)(w:World):Calls Tryz.prog 130 #[vv v] w λe w'=>e=.returned (.bool (dc (vok v)))/\Grown w w':=by
 have hv:=vok4 hk;have hz:=λw=>sp_zero_fftf v w;by_cases q1:v.x.size<=4000
 case neg=>
  have q1i:¬(v.x.size:Int)<=4000:=by omega
  by_cases p:zr v false false true false
  case neg=>
   rw[dc_f p]at hz;rw[dc_f (λh=>p (hv.1 h).1)];obtain⟨k,m,g,x,r⟩:=v;unfold vv at hz⊢;dsimp only at hk hx hz q1 q1i⊢;subst hk;clear hv p;have hst:=hst0;go_enter Tryz.func130,Tryz.ntmps130;go_wp2_with (go_at_call 144;refine(hz _).mono ?_;rintro e w1 ⟨rfl,g1⟩;obtain⟨c0,c1,c2,c3,c4⟩:=(Vc.new w _ _ _ _ _ _).grown g1);go_ret;exact⟨by first|rfl|simp[*],by first|exact g1|(refine Grown.trans ?_ g1;go_grown)|go_grown⟩
  rw[dc_t p]at hz;rw[dc_f (λh=>q1 (hv.1 h).2)];obtain⟨k,m,g,x,r⟩:=v;unfold vv at hz⊢;dsimp only at hk hx hz q1 q1i⊢;subst hk;clear hv p;have hst:=hst0;go_enter Tryz.func130,Tryz.ntmps130;go_wp2_with (go_at_call 144;refine(hz _).mono ?_;rintro e w1 ⟨rfl,g1⟩;obtain⟨c0,c1,c2,c3,c4⟩:=(Vc.new w _ _ _ _ _ _).grown g1);go_ret;exact⟨by first|rfl|simp[*],by first|exact g1|(refine Grown.trans ?_ g1;go_grown)|go_grown⟩
 have q1i:(v.x.size:Int)<=4000:=by omega
 by_cases p:zr v false false true false
 case neg=>
  rw[dc_f p]at hz;rw[dc_f (λh=>p (hv.1 h).1)];obtain⟨k,m,g,x,r⟩:=v;unfold vv at hz⊢;dsimp only at hk hx hz q1 q1i⊢;subst hk;clear hv p;have hst:=hst0;go_enter Tryz.func130,Tryz.ntmps130;go_wp2_with (go_at_call 144;refine(hz _).mono ?_;rintro e w1 ⟨rfl,g1⟩;obtain⟨c0,c1,c2,c3,c4⟩:=(Vc.new w _ _ _ _ _ _).grown g1);go_ret;exact⟨by first|rfl|simp[*],by first|exact g1|(refine Grown.trans ?_ g1;go_grown)|go_grown⟩
 rw[dc_t p]at hz;rw[dc_t (hv.2 ⟨p,q1⟩)];obtain⟨k,m,g,x,r⟩:=v;unfold vv at hz⊢;dsimp only at hk hx hz q1 q1i⊢;subst hk;clear hv p;have hst:=hst0;go_enter Tryz.func130,Tryz.ntmps130;go_wp2_with (go_at_call 144;refine(hz _).mono ?_;rintro e w1 ⟨rfl,g1⟩;obtain⟨c0,c1,c2,c3,c4⟩:=(Vc.new w _ _ _ _ _ _).grown g1);go_ret;exact⟨by first|rfl|simp[*],by first|exact g1|(refine Grown.trans ?_ g1;go_grown)|go_grown⟩
theorem sp_ok5(v:Vv)(hk:v.k=5)(hx:(v.x.size:Int)<=1048576)(w:World):Calls Tryz.prog 130 #[vv v] w λe w'=>e=.returned (.bool (dc (vok v)))/\Grown w w':=by
 have hv:=vok5 hk;have hz:=λw=>sp_zero_ffft v w;by_cases q1:0<=v.r
 case neg=>
  by_cases p:zr v false false false true
  case neg=>
   rw[dc_f p]at hz;rw[dc_f (λh=>p (hv.1 h).1)];obtain⟨k,m,g,x,r⟩:=v;unfold vv at hz⊢;dsimp only at hk hx hz q1⊢;subst hk;clear hv p;have hst:=hst0;go_enter Tryz.func130,Tryz.ntmps130;go_wp2_with (go_at_call 144;refine(hz _).mono ?_;rintro e w1 ⟨rfl,g1⟩;obtain⟨c0,c1,c2,c3,c4⟩:=(Vc.new w _ _ _ _ _ _).grown g1);go_ret;exact⟨by first|rfl|simp[*],by first|exact g1|(refine Grown.trans ?_ g1;go_grown)|go_grown⟩
  rw[dc_t p]at hz;rw[dc_f (λh=>q1 (hv.1 h).2)];obtain⟨k,m,g,x,r⟩:=v;unfold vv at hz⊢;dsimp only at hk hx hz q1⊢;subst hk;clear hv p;have hst:=hst0;go_enter Tryz.func130,Tryz.ntmps130;go_wp2_with (go_at_call 144;refine(hz _).mono ?_;rintro e w1 ⟨rfl,g1⟩;obtain⟨c0,c1,c2,c3,c4⟩:=(Vc.new w _ _ _ _ _ _).grown g1);go_ret;exact⟨by first|rfl|simp[*],by first|exact g1|(refine Grown.trans ?_ g1;go_grown)|go_grown⟩
 by_cases p:zr v false false false true
 case neg=>
  rw[dc_f p]at hz;rw[dc_f (λh=>p (hv.1 h).1)];obtain⟨k,m,g,x,r⟩:=v;unfold vv at hz⊢;dsimp only at hk hx hz q1⊢;subst hk;clear hv p;have hst:=hst0;go_enter Tryz.func130,Tryz.ntmps130;go_wp2_with (go_at_call 144;refine(hz _).mono ?_;rintro e w1 ⟨rfl,g1⟩;obtain⟨c0,c1,c2,c3,c4⟩:=(Vc.new w _ _ _ _ _ _).grown g1);go_ret;exact⟨by first|rfl|simp[*],by first|exact g1|(refine Grown.trans ?_ g1;go_grown)|go_grown⟩
 rw[dc_t p]at hz;rw[dc_t (hv.2 ⟨p,q1⟩)];obtain⟨k,m,g,x,r⟩:=v;unfold vv at hz⊢;dsimp only at hk hx hz q1⊢;subst hk;clear hv p;have hst:=hst0;go_enter Tryz.func130,Tryz.ntmps130;go_wp2_with (go_at_call 144;refine(hz _).mono ?_;rintro e w1 ⟨rfl,g1⟩;obtain⟨c0,c1,c2,c3,c4⟩:=(Vc.new w _ _ _ _ _ _).grown g1);go_ret;exact⟨by first|rfl|simp[*],by first|exact g1|(refine Grown.trans ?_ g1;go_grown)|go_grown⟩
attribute [local go_sem] run_equalIn_flt
theorem sp_ok6(v:Vv)(hk:v.k=6)(hx:(v.x.size:Int)<=1048576)(w:World):Calls Tryz.prog 130 #[vv v] w λe w'=>e=.returned (.bool (dc (vok v)))/\Grown w w':=by
 have hv:=vok6 hk;have hz:=λw=>sp_zero_ffft v w;by_cases q1:0<=v.r
 case neg=>
  by_cases p:zr v false false false true
  case neg=>
   rw[dc_f p]at hz;rw[dc_f (λh=>p (hv.1 h).1)];obtain⟨k,m,g,x,r⟩:=v;unfold vv at hz⊢;dsimp only at hk hx hz q1⊢;subst hk;clear hv p;have hst:=hst0;go_enter Tryz.func130,Tryz.ntmps130;go_wp2_with (go_at_call 144;refine(hz _).mono ?_;rintro e w1 ⟨rfl,g1⟩;obtain⟨c0,c1,c2,c3,c4⟩:=(Vc.new w _ _ _ _ _ _).grown g1);go_ret;exact⟨by first|rfl|simp[*],by first|exact g1|(refine Grown.trans ?_ g1;go_grown)|go_grown⟩
  rw[dc_t p]at hz;rw[dc_f (λh=>q1 (hv.1 h).2)];obtain⟨k,m,g,x,r⟩:=v;unfold vv at hz⊢;dsimp only at hk hx hz q1⊢;subst hk;clear hv p;have hst:=hst0;go_enter Tryz.func130,Tryz.ntmps130;go_wp2_with (go_at_call 144;refine(hz _).mono ?_;rintro e w1 ⟨rfl,g1⟩;obtain⟨c0,c1,c2,c3,c4⟩:=(Vc.new w _ _ _ _ _ _).grown g1);go_ret;exact⟨by first|rfl|simp[*],by first|exact g1|(refine Grown.trans ?_ g1;go_grown)|go_grown⟩
 by_cases p:zr v false false false true
 case neg=>
  rw[dc_f p]at hz;rw[dc_f (λh=>p (hv.1 h).1)];obtain⟨k,m,g,x,r⟩:=v;unfold vv at hz⊢;dsimp only at hk hx hz q1⊢;subst hk;clear hv p;have hst:=hst0;go_enter Tryz.func130,Tryz.ntmps130;go_wp2_with (go_at_call 144;refine(hz _).mono ?_;rintro e w1 ⟨rfl,g1⟩;obtain⟨c0,c1,c2,c3,c4⟩:=(Vc.new w _ _ _ _ _ _).grown g1);go_ret;exact⟨by first|rfl|simp[*],by first|exact g1|(refine Grown.trans ?_ g1;go_grown)|go_grown⟩
 rw[dc_t p]at hz;rw[dc_t (hv.2 ⟨p,q1⟩)];obtain⟨k,m,g,x,r⟩:=v;unfold vv at hz⊢;dsimp only at hk hx hz q1⊢;subst hk;clear hv p;have hst:=hst0;go_enter Tryz.func130,Tryz.ntmps130;go_wp2_with (go_at_call 144;refine(hz _).mono ?_;rintro e w1 ⟨rfl,g1⟩;obtain⟨c0,c1,c2,c3,c4⟩:=(Vc.new w _ _ _ _ _ _).grown g1);go_ret;exact⟨by first|rfl|simp[*],by first|exact g1|(refine Grown.trans ?_ g1;go_grown)|go_grown⟩
theorem sp_ok7(v:Vv)(hk:v.k=7)(hx:(v.x.size:Int)<=1048576)(w:World):Calls Tryz.prog 130 #[vv v] w λe w'=>e=.returned (.bool (dc (vok v)))/\Grown w w':=by
 have hv:=vok7 hk;have hz:=λw=>sp_zero_ffft v w;by_cases q1:0<=v.r
 case neg=>
  by_cases p:zr v false false false true
  case neg=>
   rw[dc_f p]at hz;rw[dc_f (λh=>p (hv.1 h).1)];obtain⟨k,m,g,x,r⟩:=v;unfold vv at hz⊢;dsimp only at hk hx hz q1⊢;subst hk;clear hv p;have hst:=hst0;go_enter Tryz.func130,Tryz.ntmps130;go_wp2_with (go_at_call 144;refine(hz _).mono ?_;rintro e w1 ⟨rfl,g1⟩;obtain⟨c0,c1,c2,c3,c4⟩:=(Vc.new w _ _ _ _ _ _).grown g1);go_ret;exact⟨by first|rfl|simp[*],by first|exact g1|(refine Grown.trans ?_ g1;go_grown)|go_grown⟩
  rw[dc_t p]at hz;rw[dc_f (λh=>q1 (hv.1 h).2)];obtain⟨k,m,g,x,r⟩:=v;unfold vv at hz⊢;dsimp only at hk hx hz q1⊢;subst hk;clear hv p;have hst:=hst0;go_enter Tryz.func130,Tryz.ntmps130;go_wp2_with (go_at_call 144;refine(hz _).mono ?_;rintro e w1 ⟨rfl,g1⟩;obtain⟨c0,c1,c2,c3,c4⟩:=(Vc.new w _ _ _ _ _ _).grown g1);go_ret;exact⟨by first|rfl|simp[*],by first|exact g1|(refine Grown.trans ?_ g1;go_grown)|go_grown⟩
 by_cases p:zr v false false false true
 case neg=>
  rw[dc_f p]at hz;rw[dc_f (λh=>p (hv.1 h).1)];obtain⟨k,m,g,x,r⟩:=v;unfold vv at hz⊢;dsimp only at hk hx hz q1⊢;subst hk;clear hv p;have hst:=hst0;go_enter Tryz.func130,Tryz.ntmps130;go_wp2_with (go_at_call 144;refine(hz _).mono ?_;rintro e w1 ⟨rfl,g1⟩;obtain⟨c0,c1,c2,c3,c4⟩:=(Vc.new w _ _ _ _ _ _).grown g1);go_ret;exact⟨by first|rfl|simp[*],by first|exact g1|(refine Grown.trans ?_ g1;go_grown)|go_grown⟩
 rw[dc_t p]at hz;rw[dc_t (hv.2 ⟨p,q1⟩)];obtain⟨k,m,g,x,r⟩:=v;unfold vv at hz⊢;dsimp only at hk hx hz q1⊢;subst hk;clear hv p;have hst:=hst0;go_enter Tryz.func130,Tryz.ntmps130;go_wp2_with (go_at_call 144;refine(hz _).mono ?_;rintro e w1 ⟨rfl,g1⟩;obtain⟨c0,c1,c2,c3,c4⟩:=(Vc.new w _ _ _ _ _ _).grown g1);go_ret;exact⟨by first|rfl|simp[*],by first|exact g1|(refine Grown.trans ?_ g1;go_grown)|go_grown⟩
theorem sp_ok8(v:Vv)(hk:v.k=8)(hx:(v.x.size:Int)<=1048576)(w:World):Calls Tryz.prog 130 #[vv v] w λe w'=>e=.returned (.bool (dc (vok v)))/\Grown w w':=by
 have hv:=vok8 hk;have hz:=λw=>sp_zero_tfff v w;by_cases q1:0<=v.m
 case neg=>
  by_cases p:zr v true false false false
  case neg=>
   rw[dc_f p]at hz;rw[dc_f (λh=>p (hv.1 h).1)];obtain⟨k,m,g,x,r⟩:=v;unfold vv at hz⊢;dsimp only at hk hx hz q1⊢;subst hk;clear hv p;have hst:=hst0;go_enter Tryz.func130,Tryz.ntmps130;go_wp2_with (go_at_call 144;refine(hz _).mono ?_;rintro e w1 ⟨rfl,g1⟩;obtain⟨c0,c1,c2,c3,c4⟩:=(Vc.new w _ _ _ _ _ _).grown g1);go_ret;exact⟨by first|rfl|simp[*],by first|exact g1|(refine Grown.trans ?_ g1;go_grown)|go_grown⟩
  rw[dc_t p]at hz;rw[dc_f (λh=>q1 (hv.1 h).2.1)];obtain⟨k,m,g,x,r⟩:=v;unfold vv at hz⊢;dsimp only at hk hx hz q1⊢;subst hk;clear hv p;have hst:=hst0;go_enter Tryz.func130,Tryz.ntmps130;go_wp2_with (go_at_call 144;refine(hz _).mono ?_;rintro e w1 ⟨rfl,g1⟩;obtain⟨c0,c1,c2,c3,c4⟩:=(Vc.new w _ _ _ _ _ _).grown g1);go_ret;exact⟨by first|rfl|simp[*],by first|exact g1|(refine Grown.trans ?_ g1;go_grown)|go_grown⟩
 by_cases q2:v.m<15
 case neg=>
  by_cases p:zr v true false false false
  case neg=>
   rw[dc_f p]at hz;rw[dc_f (λh=>p (hv.1 h).1)];obtain⟨k,m,g,x,r⟩:=v;unfold vv at hz⊢;dsimp only at hk hx hz q1 q2⊢;subst hk;clear hv p;have hst:=hst0;go_enter Tryz.func130,Tryz.ntmps130;go_wp2_with (go_at_call 144;refine(hz _).mono ?_;rintro e w1 ⟨rfl,g1⟩;obtain⟨c0,c1,c2,c3,c4⟩:=(Vc.new w _ _ _ _ _ _).grown g1);go_ret;exact⟨by first|rfl|simp[*],by first|exact g1|(refine Grown.trans ?_ g1;go_grown)|go_grown⟩
  rw[dc_t p]at hz;rw[dc_f (λh=>q2 (hv.1 h).2.2)];obtain⟨k,m,g,x,r⟩:=v;unfold vv at hz⊢;dsimp only at hk hx hz q1 q2⊢;subst hk;clear hv p;have hst:=hst0;go_enter Tryz.func130,Tryz.ntmps130;go_wp2_with (go_at_call 144;refine(hz _).mono ?_;rintro e w1 ⟨rfl,g1⟩;obtain⟨c0,c1,c2,c3,c4⟩:=(Vc.new w _ _ _ _ _ _).grown g1);go_ret;exact⟨by first|rfl|simp[*],by first|exact g1|(refine Grown.trans ?_ g1;go_grown)|go_grown⟩
 by_cases p:zr v true false false false
 case neg=>
  rw[dc_f p]at hz;rw[dc_f (λh=>p (hv.1 h).1)];obtain⟨k,m,g,x,r⟩:=v;unfold vv at hz⊢;dsimp only at hk hx hz q1 q2⊢;subst hk;clear hv p;have hst:=hst0;go_enter Tryz.func130,Tryz.ntmps130;go_wp2_with (go_at_call 144;refine(hz _).mono ?_;rintro e w1 ⟨rfl,g1⟩;obtain⟨c0,c1,c2,c3,c4⟩:=(Vc.new w _ _ _ _ _ _).grown g1);go_ret;exact⟨by first|rfl|simp[*],by first|exact g1|(refine Grown.trans ?_ g1;go_grown)|go_grown⟩
 rw[dc_t p]at hz;rw[dc_t (hv.2 ⟨p,q1,q2⟩)];obtain⟨k,m,g,x,r⟩:=v;unfold vv at hz⊢;dsimp only at hk hx hz q1 q2⊢;subst hk;clear hv p;have hst:=hst0;go_enter Tryz.func130,Tryz.ntmps130;go_wp2_with (go_at_call 144;refine(hz _).mono ?_;rintro e w1 ⟨rfl,g1⟩;obtain⟨c0,c1,c2,c3,c4⟩:=(Vc.new w _ _ _ _ _ _).grown g1);go_ret;exact⟨by first|rfl|simp[*],by first|exact g1|(refine Grown.trans ?_ g1;go_grown)|go_grown⟩
attribute [local go_sem] run_equalIn_flt
theorem im_okx(v:Vv)(hk:¬(v.k=0\/v.k=1\/v.k=2\/v.k=3\/v.k=4\/v.k=5\/v.k=6\/v.k=7\/v.k=8))(w:World):Calls Tryz.prog 132 #[vv v] w λe w'=>e=.returned (.bool (dc (vok v)))/\Grown w w':=by
 rw[dc_f (vokx hk)];obtain⟨k,m,g,x,r⟩:=v;unfold vv;dsimp only at hk⊢;have n0:¬k=0:=by omega
 have n1:¬k=1:=by omega
 have n2:¬k=2:=by omega
 have n3:¬k=3:=by omega
 have n4:¬k=4:=by omega
 have n5:¬k=5:=by omega
 have n6:¬k=6:=by omega
 have n7:¬k=7:=by omega
 have n8:¬k=8:=by omega
 clear hk;have hst:=hst0;go_enter Tryz.func132,Tryz.ntmps132;go_wp2_with fail;go_ret;exact⟨rfl,by go_grown⟩
theorem im_ok0(v:Vv)(hk:v.k=0)(hx:(v.x.size:Int)<=1048576)(w:World):Calls Tryz.prog 132 #[vv v] w λe w'=>e=.returned (.bool (dc (vok v)))/\Grown w w':=by
 have hv:=vok0 hk;by_cases hm:v.m=0
 case neg=>
  rw[dc_f (λh=>by have h1:=(hv.1 h).1;unfold zr at h1;simp_all)];obtain⟨k,m,g,x,r⟩:=v;unfold vv;dsimp only at hk hx hm⊢;subst hk;clear hv;have hst:=hst0;go_enter Tryz.func132,Tryz.ntmps132;go_wp2_with fail;go_ret;exact⟨by first|rfl|simp[*],by go_grown⟩
 by_cases hg:fz v.g
 case neg=>
  rw[dc_f (λh=>by have h1:=(hv.1 h).1;unfold zr at h1;simp_all)];obtain⟨k,m,g,x,r⟩:=v;unfold vv;dsimp only at hk hx hm hg⊢;unfold fz at hg;subst hk;clear hv;have hst:=hst0;go_enter Tryz.func132,Tryz.ntmps132;go_wp2_with fail;go_ret;exact⟨by first|rfl|simp[*],by go_grown⟩
 by_cases ht:v.x.toList=[]
 case neg=>
  rw[dc_f (λh=>by have h1:=(hv.1 h).1;unfold zr at h1;simp_all)];obtain⟨k,m,g,x,r⟩:=v;unfold vv;dsimp only at hk hx hm hg ht⊢;unfold fz at hg;subst hk;clear hv;have hst:=hst0;go_enter Tryz.func132,Tryz.ntmps132;go_wp2_with fail;go_ret;exact⟨by first|rfl|simp[*],by go_grown⟩
 by_cases hr:v.r=0
 case neg=>
  rw[dc_f (λh=>by have h1:=(hv.1 h).1;unfold zr at h1;simp_all)];obtain⟨k,m,g,x,r⟩:=v;unfold vv;dsimp only at hk hx hm hg ht hr⊢;unfold fz at hg;subst hk;clear hv;have hst:=hst0;go_enter Tryz.func132,Tryz.ntmps132;go_wp2_with fail;go_ret;exact⟨by first|rfl|simp[*],by go_grown⟩
 rw[dc_t (hv.2 ⟨by unfold zr;simp_all,trivial⟩)];obtain⟨k,m,g,x,r⟩:=v;unfold vv;dsimp only at hk hx hm hg ht hr⊢;unfold fz at hg;subst hk;clear hv;have hst:=hst0;go_enter Tryz.func132,Tryz.ntmps132;go_wp2_with fail;go_ret;exact⟨by first|rfl|simp[*],by go_grown⟩
theorem im_ok1(v:Vv)(hk:v.k=1)(hx:(v.x.size:Int)<=1048576)(w:World):Calls Tryz.prog 132 #[vv v] w λe w'=>e=.returned (.bool (dc (vok v)))/\Grown w w':=by
 have hv:=vok1 hk;by_cases q1:v.m=0
 case pos=>
  by_cases hg:fz v.g
  case neg=>
   rw[dc_f (λh=>by have h1:=(hv.1 h).1;unfold zr at h1;simp_all)];obtain⟨k,m,g,x,r⟩:=v;unfold vv;dsimp only at hk hx q1 hg⊢;unfold fz at hg;subst hk;clear hv;have hst:=hst0;go_enter Tryz.func132,Tryz.ntmps132;go_wp2_with fail;go_ret;exact⟨by first|rfl|simp[*],by go_grown⟩
  by_cases ht:v.x.toList=[]
  case neg=>
   rw[dc_f (λh=>by have h1:=(hv.1 h).1;unfold zr at h1;simp_all)];obtain⟨k,m,g,x,r⟩:=v;unfold vv;dsimp only at hk hx q1 hg ht⊢;unfold fz at hg;subst hk;clear hv;have hst:=hst0;go_enter Tryz.func132,Tryz.ntmps132;go_wp2_with fail;go_ret;exact⟨by first|rfl|simp[*],by go_grown⟩
  by_cases hr:v.r=0
  case neg=>
   rw[dc_f (λh=>by have h1:=(hv.1 h).1;unfold zr at h1;simp_all)];obtain⟨k,m,g,x,r⟩:=v;unfold vv;dsimp only at hk hx q1 hg ht hr⊢;unfold fz at hg;subst hk;clear hv;have hst:=hst0;go_enter Tryz.func132,Tryz.ntmps132;go_wp2_with fail;go_ret;exact⟨by first|rfl|simp[*],by go_grown⟩
  rw[dc_t (hv.2 ⟨by unfold zr;simp_all,.inl q1⟩)];obtain⟨k,m,g,x,r⟩:=v;unfold vv;dsimp only at hk hx q1 hg ht hr⊢;unfold fz at hg;subst hk;clear hv;have hst:=hst0;go_enter Tryz.func132,Tryz.ntmps132;go_wp2_with fail;go_ret;exact⟨by first|rfl|simp[*],by go_grown⟩
 by_cases q2:v.m=1
 case pos=>
  by_cases hg:fz v.g
  case neg=>
   rw[dc_f (λh=>by have h1:=(hv.1 h).1;unfold zr at h1;simp_all)];obtain⟨k,m,g,x,r⟩:=v;unfold vv;dsimp only at hk hx q1 q2 hg⊢;unfold fz at hg;subst hk;clear hv;have hst:=hst0;go_enter Tryz.func132,Tryz.ntmps132;go_wp2_with fail;go_ret;exact⟨by first|rfl|simp[*],by go_grown⟩
  by_cases ht:v.x.toList=[]
  case neg=>
   rw[dc_f (λh=>by have h1:=(hv.1 h).1;unfold zr at h1;simp_all)];obtain⟨k,m,g,x,r⟩:=v;unfold vv;dsimp only at hk hx q1 q2 hg ht⊢;unfold fz at hg;subst hk;clear hv;have hst:=hst0;go_enter Tryz.func132,Tryz.ntmps132;go_wp2_with fail;go_ret;exact⟨by first|rfl|simp[*],by go_grown⟩
  by_cases hr:v.r=0
  case neg=>
   rw[dc_f (λh=>by have h1:=(hv.1 h).1;unfold zr at h1;simp_all)];obtain⟨k,m,g,x,r⟩:=v;unfold vv;dsimp only at hk hx q1 q2 hg ht hr⊢;unfold fz at hg;subst hk;clear hv;have hst:=hst0;go_enter Tryz.func132,Tryz.ntmps132;go_wp2_with fail;go_ret;exact⟨by first|rfl|simp[*],by go_grown⟩
  rw[dc_t (hv.2 ⟨by unfold zr;simp_all,.inr q2⟩)];obtain⟨k,m,g,x,r⟩:=v;unfold vv;dsimp only at hk hx q1 q2 hg ht hr⊢;unfold fz at hg;subst hk;clear hv;have hst:=hst0;go_enter Tryz.func132,Tryz.ntmps132;go_wp2_with fail;go_ret;exact⟨by first|rfl|simp[*],by go_grown⟩
 rw[dc_f (λh=>(hv.1 h).2.elim q1 q2)];obtain⟨k,m,g,x,r⟩:=v;unfold vv;dsimp only at hk hx q1 q2⊢;subst hk;clear hv;have hst:=hst0;go_enter Tryz.func132,Tryz.ntmps132;go_wp2_with fail;go_ret;exact⟨by first|rfl|simp[*],by go_grown⟩
