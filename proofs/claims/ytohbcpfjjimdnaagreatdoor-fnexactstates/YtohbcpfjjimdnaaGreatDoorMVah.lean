import Derived.Test.YtohbcpfjjimdnaaGreatDoorMFly
import Derived.Deep.Slices
import Derived.SizedLaws
set_option maxRecDepth 100000
set_option maxHeartbeats 4000000
namespace Go.Proofs.YtohbcpfjjimdnaaGreatDoor
open Go.ChangeShapes Go.WideShapes Go.ChangeAt Go.RowKit
set_option linter.unusedVariables false
set_option maxRecDepth 100000
attribute [local go_sem] run_equalIn_flt
theorem im_ok2(v:Vv)(hk:v.k=2)(hx:(v.x.size:Int)<=1048576)(w:World):Calls Tryz.prog 132 #[vv v] w λe w'=>e=.returned (.bool (dc (vok v)))/\Grown w w':=by
 have hv:=vok2 hk;by_cases hg:fz v.g
 case neg=>
  rw[dc_f (λh=>by have h1:=(hv.1 h).1;unfold zr at h1;simp_all)];obtain⟨k,m,g,x,r⟩:=v;unfold vv;dsimp only at hk hx hg⊢;unfold fz at hg;subst hk;clear hv;have hst:=hst0;go_enter Tryz.func132,Tryz.ntmps132;go_wp2_with fail;go_ret;exact⟨by first|rfl|simp[*],by go_grown⟩
 by_cases ht:v.x.toList=[]
 case neg=>
  rw[dc_f (λh=>by have h1:=(hv.1 h).1;unfold zr at h1;simp_all)];obtain⟨k,m,g,x,r⟩:=v;unfold vv;dsimp only at hk hx hg ht⊢;unfold fz at hg;subst hk;clear hv;have hst:=hst0;go_enter Tryz.func132,Tryz.ntmps132;go_wp2_with fail;go_ret;exact⟨by first|rfl|simp[*],by go_grown⟩
 by_cases hr:v.r=0
 case neg=>
  rw[dc_f (λh=>by have h1:=(hv.1 h).1;unfold zr at h1;simp_all)];obtain⟨k,m,g,x,r⟩:=v;unfold vv;dsimp only at hk hx hg ht hr⊢;unfold fz at hg;subst hk;clear hv;have hst:=hst0;go_enter Tryz.func132,Tryz.ntmps132;go_wp2_with fail;go_ret;exact⟨by first|rfl|simp[*],by go_grown⟩
 rw[dc_t (hv.2 ⟨by unfold zr;simp_all,trivial⟩)];obtain⟨k,m,g,x,r⟩:=v;unfold vv;dsimp only at hk hx hg ht hr⊢;unfold fz at hg;subst hk;clear hv;have hst:=hst0;go_enter Tryz.func132,Tryz.ntmps132;go_wp2_with fail;go_ret;exact⟨by first|rfl|simp[*],by go_grown⟩
theorem im_ok3(v:Vv)(hk:v.k=3)(hx:(v.x.size:Int)<=1048576)(w:World):Calls Tryz.prog 132 #[vv v] w λe w'=>e=.returned (.bool (dc (vok v)))/\Grown w w':=by
 have hv:=vok3 hk;by_cases hm:v.m=0
 case neg=>
  rw[dc_f (λh=>by have h1:=(hv.1 h).1;unfold zr at h1;simp_all)];obtain⟨k,m,g,x,r⟩:=v;unfold vv;dsimp only at hk hx hm⊢;subst hk;clear hv;have hst:=hst0;go_enter Tryz.func132,Tryz.ntmps132;go_wp2_with fail;go_ret;exact⟨by first|rfl|simp[*],by go_grown⟩
 by_cases ht:v.x.toList=[]
 case neg=>
  rw[dc_f (λh=>by have h1:=(hv.1 h).1;unfold zr at h1;simp_all)];obtain⟨k,m,g,x,r⟩:=v;unfold vv;dsimp only at hk hx hm ht⊢;subst hk;clear hv;have hst:=hst0;go_enter Tryz.func132,Tryz.ntmps132;go_wp2_with fail;go_ret;exact⟨by first|rfl|simp[*],by go_grown⟩
 by_cases hr:v.r=0
 case neg=>
  rw[dc_f (λh=>by have h1:=(hv.1 h).1;unfold zr at h1;simp_all)];obtain⟨k,m,g,x,r⟩:=v;unfold vv;dsimp only at hk hx hm ht hr⊢;subst hk;clear hv;have hst:=hst0;go_enter Tryz.func132,Tryz.ntmps132;go_wp2_with fail;go_ret;exact⟨by first|rfl|simp[*],by go_grown⟩
 rw[dc_t (hv.2 ⟨by unfold zr;simp_all,trivial⟩)];obtain⟨k,m,g,x,r⟩:=v;unfold vv;dsimp only at hk hx hm ht hr⊢;subst hk;clear hv;have hst:=hst0;go_enter Tryz.func132,Tryz.ntmps132;go_wp2_with fail;go_ret;exact⟨by first|rfl|simp[*],by go_grown⟩
theorem im_ok4(v:Vv)(hk:v.k=4)(hx:(v.x.size:Int)<=1048576)(w:World):Calls Tryz.prog 132 #[vv v] w λe w'=>e=.returned (.bool (dc (vok v)))/\Grown w w':=by
 have hv:=vok4 hk;by_cases q1:v.x.size<=4000
 case neg=>
  have q1i:¬(v.x.size:Int)<=4000:=by omega
  rw[dc_f (λh=>q1 (hv.1 h).2)];obtain⟨k,m,g,x,r⟩:=v;unfold vv;dsimp only at hk hx q1 q1i⊢;subst hk;clear hv;have hst:=hst0;go_enter Tryz.func132,Tryz.ntmps132;go_wp2_with fail;go_ret;exact⟨by first|rfl|simp[*],by go_grown⟩
 have q1i:(v.x.size:Int)<=4000:=by omega
 by_cases hm:v.m=0
 case neg=>
  rw[dc_f (λh=>by have h1:=(hv.1 h).1;unfold zr at h1;simp_all)];obtain⟨k,m,g,x,r⟩:=v;unfold vv;dsimp only at hk hx q1 q1i hm⊢;subst hk;clear hv;have hst:=hst0;go_enter Tryz.func132,Tryz.ntmps132;go_wp2_with fail;go_ret;exact⟨by first|rfl|simp[*],by go_grown⟩
 by_cases hg:fz v.g
 case neg=>
  rw[dc_f (λh=>by have h1:=(hv.1 h).1;unfold zr at h1;simp_all)];obtain⟨k,m,g,x,r⟩:=v;unfold vv;dsimp only at hk hx q1 q1i hm hg⊢;unfold fz at hg;subst hk;clear hv;have hst:=hst0;go_enter Tryz.func132,Tryz.ntmps132;go_wp2_with fail;go_ret;exact⟨by first|rfl|simp[*],by go_grown⟩
 by_cases hr:v.r=0
 case neg=>
  rw[dc_f (λh=>by have h1:=(hv.1 h).1;unfold zr at h1;simp_all)];obtain⟨k,m,g,x,r⟩:=v;unfold vv;dsimp only at hk hx q1 q1i hm hg hr⊢;unfold fz at hg;subst hk;clear hv;have hst:=hst0;go_enter Tryz.func132,Tryz.ntmps132;go_wp2_with fail;go_ret;exact⟨by first|rfl|simp[*],by go_grown⟩
 rw[dc_t (hv.2 ⟨by unfold zr;simp_all,q1⟩)];obtain⟨k,m,g,x,r⟩:=v;unfold vv;dsimp only at hk hx q1 q1i hm hg hr⊢;unfold fz at hg;subst hk;clear hv;have hst:=hst0;go_enter Tryz.func132,Tryz.ntmps132;go_wp2_with fail;go_ret;exact⟨by first|rfl|simp[*],by go_grown⟩
theorem im_ok5(v:Vv)(hk:v.k=5)(hx:(v.x.size:Int)<=1048576)(w:World):Calls Tryz.prog 132 #[vv v] w λe w'=>e=.returned (.bool (dc (vok v)))/\Grown w w':=by
 have hv:=vok5 hk;by_cases q1:0<=v.r
 case neg=>
  rw[dc_f (λh=>q1 (hv.1 h).2)];obtain⟨k,m,g,x,r⟩:=v;unfold vv;dsimp only at hk hx q1⊢;subst hk;clear hv;have hst:=hst0;go_enter Tryz.func132,Tryz.ntmps132;go_wp2_with fail;go_ret;exact⟨by first|rfl|simp[*],by go_grown⟩
 by_cases hm:v.m=0
 case neg=>
  rw[dc_f (λh=>by have h1:=(hv.1 h).1;unfold zr at h1;simp_all)];obtain⟨k,m,g,x,r⟩:=v;unfold vv;dsimp only at hk hx q1 hm⊢;subst hk;clear hv;have hst:=hst0;go_enter Tryz.func132,Tryz.ntmps132;go_wp2_with fail;go_ret;exact⟨by first|rfl|simp[*],by go_grown⟩
 by_cases hg:fz v.g
 case neg=>
  rw[dc_f (λh=>by have h1:=(hv.1 h).1;unfold zr at h1;simp_all)];obtain⟨k,m,g,x,r⟩:=v;unfold vv;dsimp only at hk hx q1 hm hg⊢;unfold fz at hg;subst hk;clear hv;have hst:=hst0;go_enter Tryz.func132,Tryz.ntmps132;go_wp2_with fail;go_ret;exact⟨by first|rfl|simp[*],by go_grown⟩
 by_cases ht:v.x.toList=[]
 case neg=>
  rw[dc_f (λh=>by have h1:=(hv.1 h).1;unfold zr at h1;simp_all)];obtain⟨k,m,g,x,r⟩:=v;unfold vv;dsimp only at hk hx q1 hm hg ht⊢;unfold fz at hg;subst hk;clear hv;have hst:=hst0;go_enter Tryz.func132,Tryz.ntmps132;go_wp2_with fail;go_ret;exact⟨by first|rfl|simp[*],by go_grown⟩
 rw[dc_t (hv.2 ⟨by unfold zr;simp_all,q1⟩)];obtain⟨k,m,g,x,r⟩:=v;unfold vv;dsimp only at hk hx q1 hm hg ht⊢;unfold fz at hg;subst hk;clear hv;have hst:=hst0;go_enter Tryz.func132,Tryz.ntmps132;go_wp2_with fail;go_ret;exact⟨by first|rfl|simp[*],by go_grown⟩
attribute [local go_sem] run_equalIn_flt
theorem im_ok6(v:Vv)(hk:v.k=6)(hx:(v.x.size:Int)<=1048576)(w:World):Calls Tryz.prog 132 #[vv v] w λe w'=>e=.returned (.bool (dc (vok v)))/\Grown w w':=by
 have hv:=vok6 hk;by_cases q1:0<=v.r
 case neg=>
  rw[dc_f (λh=>q1 (hv.1 h).2)];obtain⟨k,m,g,x,r⟩:=v;unfold vv;dsimp only at hk hx q1⊢;subst hk;clear hv;have hst:=hst0;go_enter Tryz.func132,Tryz.ntmps132;go_wp2_with fail;go_ret;exact⟨by first|rfl|simp[*],by go_grown⟩
 by_cases hm:v.m=0
 case neg=>
  rw[dc_f (λh=>by have h1:=(hv.1 h).1;unfold zr at h1;simp_all)];obtain⟨k,m,g,x,r⟩:=v;unfold vv;dsimp only at hk hx q1 hm⊢;subst hk;clear hv;have hst:=hst0;go_enter Tryz.func132,Tryz.ntmps132;go_wp2_with fail;go_ret;exact⟨by first|rfl|simp[*],by go_grown⟩
 by_cases hg:fz v.g
 case neg=>
  rw[dc_f (λh=>by have h1:=(hv.1 h).1;unfold zr at h1;simp_all)];obtain⟨k,m,g,x,r⟩:=v;unfold vv;dsimp only at hk hx q1 hm hg⊢;unfold fz at hg;subst hk;clear hv;have hst:=hst0;go_enter Tryz.func132,Tryz.ntmps132;go_wp2_with fail;go_ret;exact⟨by first|rfl|simp[*],by go_grown⟩
 by_cases ht:v.x.toList=[]
 case neg=>
  rw[dc_f (λh=>by have h1:=(hv.1 h).1;unfold zr at h1;simp_all)];obtain⟨k,m,g,x,r⟩:=v;unfold vv;dsimp only at hk hx q1 hm hg ht⊢;unfold fz at hg;subst hk;clear hv;have hst:=hst0;go_enter Tryz.func132,Tryz.ntmps132;go_wp2_with fail;go_ret;exact⟨by first|rfl|simp[*],by go_grown⟩
 rw[dc_t (hv.2 ⟨by unfold zr;simp_all,q1⟩)];obtain⟨k,m,g,x,r⟩:=v;unfold vv;dsimp only at hk hx q1 hm hg ht⊢;unfold fz at hg;subst hk;clear hv;have hst:=hst0;go_enter Tryz.func132,Tryz.ntmps132;go_wp2_with fail;go_ret;exact⟨by first|rfl|simp[*],by go_grown⟩
theorem im_ok7(v:Vv)(hk:v.k=7)(hx:(v.x.size:Int)<=1048576)(w:World):Calls Tryz.prog 132 #[vv v] w λe w'=>e=.returned (.bool (dc (vok v)))/\Grown w w':=by
 have hv:=vok7 hk;by_cases q1:0<=v.r
 case neg=>
  rw[dc_f (λh=>q1 (hv.1 h).2)];obtain⟨k,m,g,x,r⟩:=v;unfold vv;dsimp only at hk hx q1⊢;subst hk;clear hv;have hst:=hst0;go_enter Tryz.func132,Tryz.ntmps132;go_wp2_with fail;go_ret;exact⟨by first|rfl|simp[*],by go_grown⟩
 by_cases hm:v.m=0
 case neg=>
  rw[dc_f (λh=>by have h1:=(hv.1 h).1;unfold zr at h1;simp_all)];obtain⟨k,m,g,x,r⟩:=v;unfold vv;dsimp only at hk hx q1 hm⊢;subst hk;clear hv;have hst:=hst0;go_enter Tryz.func132,Tryz.ntmps132;go_wp2_with fail;go_ret;exact⟨by first|rfl|simp[*],by go_grown⟩
 by_cases hg:fz v.g
 case neg=>
  rw[dc_f (λh=>by have h1:=(hv.1 h).1;unfold zr at h1;simp_all)];obtain⟨k,m,g,x,r⟩:=v;unfold vv;dsimp only at hk hx q1 hm hg⊢;unfold fz at hg;subst hk;clear hv;have hst:=hst0;go_enter Tryz.func132,Tryz.ntmps132;go_wp2_with fail;go_ret;exact⟨by first|rfl|simp[*],by go_grown⟩
 by_cases ht:v.x.toList=[]
 case neg=>
  rw[dc_f (λh=>by have h1:=(hv.1 h).1;unfold zr at h1;simp_all)];obtain⟨k,m,g,x,r⟩:=v;unfold vv;dsimp only at hk hx q1 hm hg ht⊢;unfold fz at hg;subst hk;clear hv;have hst:=hst0;go_enter Tryz.func132,Tryz.ntmps132;go_wp2_with fail;go_ret;exact⟨by first|rfl|simp[*],by go_grown⟩
 rw[dc_t (hv.2 ⟨by unfold zr;simp_all,q1⟩)];obtain⟨k,m,g,x,r⟩:=v;unfold vv;dsimp only at hk hx q1 hm hg ht⊢;unfold fz at hg;subst hk;clear hv;have hst:=hst0;go_enter Tryz.func132,Tryz.ntmps132;go_wp2_with fail;go_ret;exact⟨by first|rfl|simp[*],by go_grown⟩
theorem im_ok8(v:Vv)(hk:v.k=8)(hx:(v.x.size:Int)<=1048576)(w:World):Calls Tryz.prog 132 #[vv v] w λe w'=>e=.returned (.bool (dc (vok v)))/\Grown w w':=by
 have hv:=vok8 hk;by_cases q1:0<=v.m
 case neg=>
  rw[dc_f (λh=>q1 (hv.1 h).2.1)];obtain⟨k,m,g,x,r⟩:=v;unfold vv;dsimp only at hk hx q1⊢;subst hk;clear hv;have hst:=hst0;go_enter Tryz.func132,Tryz.ntmps132;go_wp2_with fail;go_ret;exact⟨by first|rfl|simp[*],by go_grown⟩
 by_cases q2:v.m<15
 case neg=>
  rw[dc_f (λh=>q2 (hv.1 h).2.2)];obtain⟨k,m,g,x,r⟩:=v;unfold vv;dsimp only at hk hx q1 q2⊢;subst hk;clear hv;have hst:=hst0;go_enter Tryz.func132,Tryz.ntmps132;go_wp2_with fail;go_ret;exact⟨by first|rfl|simp[*],by go_grown⟩
 by_cases hg:fz v.g
 case neg=>
  rw[dc_f (λh=>by have h1:=(hv.1 h).1;unfold zr at h1;simp_all)];obtain⟨k,m,g,x,r⟩:=v;unfold vv;dsimp only at hk hx q1 q2 hg⊢;unfold fz at hg;subst hk;clear hv;have hst:=hst0;go_enter Tryz.func132,Tryz.ntmps132;go_wp2_with fail;go_ret;exact⟨by first|rfl|simp[*],by go_grown⟩
 by_cases ht:v.x.toList=[]
 case neg=>
  rw[dc_f (λh=>by have h1:=(hv.1 h).1;unfold zr at h1;simp_all)];obtain⟨k,m,g,x,r⟩:=v;unfold vv;dsimp only at hk hx q1 q2 hg ht⊢;unfold fz at hg;subst hk;clear hv;have hst:=hst0;go_enter Tryz.func132,Tryz.ntmps132;go_wp2_with fail;go_ret;exact⟨by first|rfl|simp[*],by go_grown⟩
 by_cases hr:v.r=0
 case neg=>
  rw[dc_f (λh=>by have h1:=(hv.1 h).1;unfold zr at h1;simp_all)];obtain⟨k,m,g,x,r⟩:=v;unfold vv;dsimp only at hk hx q1 q2 hg ht hr⊢;unfold fz at hg;subst hk;clear hv;have hst:=hst0;go_enter Tryz.func132,Tryz.ntmps132;go_wp2_with fail;go_ret;exact⟨by first|rfl|simp[*],by go_grown⟩
 rw[dc_t (hv.2 ⟨by unfold zr;simp_all,q1,q2⟩)];obtain⟨k,m,g,x,r⟩:=v;unfold vv;dsimp only at hk hx q1 q2 hg ht hr⊢;unfold fz at hg;subst hk;clear hv;have hst:=hst0;go_enter Tryz.func132,Tryz.ntmps132;go_wp2_with fail;go_ret;exact⟨by first|rfl|simp[*],by go_grown⟩
theorem sp_ok(v:Vv)(hx:(v.x.size:Int)<=1048576)(w:World):Calls Tryz.prog 130 #[vv v] w λe w'=>e=.returned (.bool (dc (vok v)))/\Grown w w':=by
 by_cases hk:v.k=0\/v.k=1\/v.k=2\/v.k=3\/v.k=4\/v.k=5\/v.k=6\/v.k=7\/v.k=8
 ·rcases hk with hk|hk|hk|hk|hk|hk|hk|hk|hk
  ·exact sp_ok0 v hk hx w
  ·exact sp_ok1 v hk hx w
  ·exact sp_ok2 v hk hx w
  ·exact sp_ok3 v hk hx w
  ·exact sp_ok4 v hk hx w
  ·exact sp_ok5 v hk hx w
  ·exact sp_ok6 v hk hx w
  ·exact sp_ok7 v hk hx w
  ·exact sp_ok8 v hk hx w
 ·exact sp_okx v hk w
theorem im_ok(v:Vv)(hx:(v.x.size:Int)<=1048576)(w:World):Calls Tryz.prog 132 #[vv v] w λe w'=>e=.returned (.bool (dc (vok v)))/\Grown w w':=by
 by_cases hk:v.k=0\/v.k=1\/v.k=2\/v.k=3\/v.k=4\/v.k=5\/v.k=6\/v.k=7\/v.k=8
 ·rcases hk with hk|hk|hk|hk|hk|hk|hk|hk|hk
  ·exact im_ok0 v hk hx w
  ·exact im_ok1 v hk hx w
  ·exact im_ok2 v hk hx w
  ·exact im_ok3 v hk hx w
  ·exact im_ok4 v hk hx w
  ·exact im_ok5 v hk hx w
  ·exact im_ok6 v hk hx w
  ·exact im_ok7 v hk hx w
  ·exact im_ok8 v hk hx w
 ·exact im_okx v hk w
theorem cells3:Tryz.prog.cellsOf 3=1:=by kernel_rfl
theorem cells2:Tryz.prog.cellsOf 2=1:=by kernel_rfl
theorem cells9:Tryz.prog.cellsOf 9=1:=by kernel_rfl
theorem cellsF:Tryz.prog.cellsOf 149=1:=by kernel_rfl
theorem laidOut:laidOutB Tryz.prog=true:=by kernel_rfl
def Sz{H:Type}(t:TypeId)(d:DataW H):Prop:=∀n ∈ d.weights Tryz.prog t,n<=140737488351232
section
variable {H:Type} {enc:TypeId × Value->H} {w:World} {base:Nat} {sp:Nat->Bool} {held:Bool}
theorem trod_flt{fuel:Nat}{t:TypeId}{cs:List Value}{x:DataW H×List MemPlace}(ht:Tryz.prog.underlying t=some (.float .f64))(h:DataW.trod enc Tryz.prog w base sp held fuel t cs=some x):∃n,cs=[.float .f64 n]/\n<18446744073709551616:=by
 cases fuel with
 |zero=>simp[DataW.trod]at h
 |succ n=>
  unfold DataW.trod at h;rw[ht]at h;split at h<;>simp_all
  rename_i k b e
  subst e;obtain⟨⟨h1,h2⟩,_⟩:=h
  simpa [Lit.wf]using h2
structure Vb (v:Vv):Prop where
 k:-9223372036854775808<=v.k/\v.k<=9223372036854775807
 m:-9223372036854775808<=v.m/\v.m<=9223372036854775807
 g:v.g<18446744073709551616
 x:(v.x.size:Int)<140737488355328
 r:-9223372036854775808<=v.r/\v.r<=9223372036854775807
end
