import Derived.Test.YtohbcpfjjimdnaaGreatDoorMZsq
import Derived.Handy
import Derived.Lib.Strings
import Derived.Lib.UnsafeStr
import Derived.BigQuiet
import Derived.Deep.AppendLies
set_option maxRecDepth 100000
set_option maxHeartbeats 4000000
namespace Go.Proofs.YtohbcpfjjimdnaaGreatDoor.Fo
open Go.ChangeShapes Go.WideShapes Go.ChangeAt Go.RowKit
set_option linter.unusedVariables false
variable {va:Value}{n:Nat}
def RowV(W:World)(v:Value)(n:Nat)(A:Nat->Value):Prop:=
 ∃pa cap,v=.slice pa n cap/\(0<n->∃a:Addr,pa=some a/\n<=cap/\∀i,i<n->W.cell? (a.add i)=some (A i))
theorem eq_ints{vb:Value}{A:Nat->Int}(w:World)(ha:RowV w va n (λi=>.int .i64 (A i)))(hb:RowV w vb n (λi=>.int .i64 (A i)))(hn:n<=1048576):
  Calls Tryz.prog 47 #[va,vb] w λe w'=>e=.returned (.bool true)/\∃d,w'=w.drewN d:=by
 obtain⟨pa,ca,rfl,ha2⟩:=ha;obtain⟨pb,cb,rfl,hb2⟩:=hb;have HA:Hid ((0<n->∃a:Addr,pa=some a/\n<=ca/\∀i,i<n->w.cell? (a.add i)=some (.int .i64 (A i)))/\(0<n->∃a:Addr,pb=some a/\n<=cb/\∀i,i<n->w.cell? (a.add i)=some (.int .i64 (A i)))):=(⟨ha2,hb2⟩:_/\_)
 have hnI:(n:Int)<=1048576:=by omega
 clear ha2 hb2 hn;go_enter Tryz.func47,Tryz.ntmps47;go_wp2_with fail
 go_loopw [5] (λs5 wr=>∃i d:Nat,s5=.int .i64 i/\i<=n/\wr=w.drewN d) (λs5 _=>n-(intOf s5).toNat)
 case atStart=>exact⟨0,0,rfl,Nat.zero_le _,rfl⟩
 case round=>
  obtain⟨i,d,rfl,hin,rfl⟩:=hrel;rcases Nat.lt_or_ge i n with hi|hi
  ·obtain⟨a,rfl,hca,hra⟩:=HA.1 (by omega);obtain⟨b,rfl,hcb,hrb⟩:=HA.2 (by omega);have hiI:(i:Int)<(n:Int):=by omega
   have qa:=hra i hi;have qb:=hrb i hi;clear hra hrb HA hin;generalize A i=x at*;go_wp2_with fail
   go_quiet (skip)
   go_wp2_with fail;go_roundw
   case rel=>exact⟨i+1,_,by go_num,by omega,rfl⟩
   case measure=>simp[intOf];omega
  ·obtain rfl:i=n:=by omega
   clear HA;go_wp2_with fail;go_ret;exact⟨rfl,_,rfl⟩
theorem held_ints(w:World)(k:Int)(ha:RowV w va n (λi=>.int .i64 (k+(i:Int))))(hn:n<=1048576)(hk0:0<=k)(hk:k<=100000000):
  Calls Tryz.prog 27 #[va,.int .i64 k] w λe w'=>e=.returned (.int .i64 (k+(n:Int)))/\∃d,w'=w.drewN d:=by
 obtain⟨pa,ca,rfl,ha2⟩:=ha;have HA:Hid (0<n->∃a:Addr,pa=some a/\n<=ca/\∀i,i<n->w.cell? (a.add i)=some (.int .i64 (k+(i:Int)))):=ha2;have hnI:(n:Int)<=1048576:=by omega
 clear ha2 hn;go_enter Tryz.func27,Tryz.ntmps27;go_wp2_with fail
 go_loopw [1,5] (λs1 s5 wr=>∃i d:Nat,s1=.int .i64 (k+(i:Int))/\s5=.int .i64 i/\i<=n/\wr=w.drewN d) (λ_ s5 _=>n-(intOf s5).toNat)
 case atStart=>exact⟨0,0,by simp,rfl,Nat.zero_le _,rfl⟩
 case round=>
  obtain⟨i,d,rfl,rfl,hin,rfl⟩:=hrel;rcases Nat.lt_or_ge i n with hi|hi
  ·obtain⟨a,rfl,hca,hra⟩:=(uh HA) (by omega)
   have hiI:(i:Int)<(n:Int):=by omega
   have qa:=hra i hi;clear hra HA hin;have hx:k+(i:Int)<=101048576:=by omega
   have hx0:0<=k+(i:Int):=by omega
   generalize hxk:k+(i:Int)=x at*;go_wp2_with fail;go_roundw
   case rel=>exact⟨i+1,_,by subst hxk;go_num,by go_num,by omega,rfl⟩
   case measure=>simp[intOf];omega
  ·obtain rfl:i=n:=by omega
   clear HA;go_wp2_with fail;go_ret;exact⟨rfl,_,rfl⟩
